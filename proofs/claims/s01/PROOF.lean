import PyProof.Rows.All
import Wide.All
import OpenK.AllK
import Wide.FinOn
import PyProof.EqAt
import PyProof.EqKinds
import PyProof.TupleCall
import Open.SpecLaws
import KE.OsGo
import KE.KExcInit
import HandS.ForSpec
import HandS.ExcInit
import HandS.ClsMeth
import HandS.ExcField
import HandS.TryMany
import HandS.ForMost
import HandS.Codes
import HandS.StrMore
import KE.IntTextLaws
import TtResultSpec
import PySem.Challenge.RW_raceresults_s01_judge
import HandS.Walk
import HandS.Conv
import HandS.SetFor
import HandS.Style
import KE.KDictList
import HandS.ListItems
import HandS.Exc
import KE.KExcLine
set_option Elab.async false
set_option linter.all false
set_option maxRecDepth 100000
set_option maxHeartbeats 8000000
/-! # Refusals: own error classes over Exception, whose makers call their base's maker -/
namespace RX
open PySem PySem.Spec PyProof.Rows L2
abbrev exT : List Value := [.type "Exception", .type "BaseException", .type "object"]
/-- what the written part has to say of such a class -/
structure ExC (K : PySem.W.Frag) (C : Addr) : Prop where
  ini : PySem.W.excInitIn K C exT "Exception.__new__" = true
  ovr : PySem.W.excOver K C exT = true
  hd : PySem.W.hasDictIn K C = true
  sa : PySem.W.findIn K (.ref C) "__setattr__" = some (some (.builtin "object.__setattr__"))
  exC : PySem.W.subIn K (.ref C) (.type "BaseException") = some true
  tyC : PySem.W.typeIn K (.ref C) = some (.type "type")
  kC : PySem.W.keepIn K (.ref C) = true
section
open PySem.Builtin PySem.Builtin.ObjectAttr
variable {prog : Program} {w : World} {A : Around} {R : Result → Shared → Prop} {hp : Heap} {g : Array GenState} {d : Drawn} {t : Nat} {os : OsState} {K : PySem.W.Frag} {C x : Addr} {name : Str} {v : Value} {tk : Tok}
/-- the first value given to a fresh error -/
theorem put_first (T : ExC K C) (X : K.In hp) {fv : Array Value} (hx : hp.get? x = some { cls := .ref C, data := .fields fv }) (ht : PySem.W.takerIn K C name = some none)
    (done : ∀ h' tk' dx, (∀ b o, b ≠ x → hp.get? b = some o → h'.get? b = some o) → hp.objs.size ≤ dx → dx ≠ x →
      h'.get? x = some { cls := .ref C, dict := some dx, data := .fields fv } → h'.Ns1 dx (fun y => if y = name then some v else none) → R (.ok (.ret .none)) ⟨h', g, d, tk', os⟩) :
    codeAny (model prog w) A (.call (.builtin "object.__setattr__") ⟨[.ref x, .str name tk, v], []⟩) R ⟨hp, g, d, t, os⟩ := by
  have far : x ≠ hp.objs.size := Nat.ne_of_lt (Heap.lt_size hx)
  refine PySem.W.osa_openX (od := none) F.store_Exception X ⟨hx, rfl, rfl, trivial⟩ T.ovr ht fun b => ?_
  obtain ⟨cd, hc, dict⟩ := PySem.W.any_some T.hd
  have lc : PySem.W.Looks (model prog w) hp (classData C) cd := PySem.W.looks_clsIn X hc
  obtain ⟨n1, n2, n3, n4, n5, hd, n6, n7, n8, n9, n10⟩ := cd
  dsimp only at dict
  subst dict
  show wpAny _ _ (storeInOwnDict (.ref x) (.ref C) (.str name tk) name v b) _ _ _
  unfold storeInOwnDict ownDictForStores
  repeat (first
    | with_reducible refine HandSPX.store_in_new ?_ ?_
    | with_reducible refine wpAny_loadPart_at hx ?_
    | with_reducible refine lc.at ?_
    | wp_step)
  · refine ⟨_, #[], _, (Heap.get?_update_ne _ _ _ _ far.symm).trans (Heap.get?_push_at rfl rfl), rfl, fun e he => ?_, fun _ => rfl⟩
    exact absurd he (by simp)
  · intro h' tk' ns same
    refine done h' tk' hp.objs.size (fun b o ne get => ?_) (Nat.le_refl _) far.symm ?_ ns
    · have e1 := same.2 b (Nat.ne_of_lt (Heap.lt_size get))
      exact e1.trans ((Heap.get?_update_ne _ _ _ _ ne).trans (Heap.get?_push_of_some _ get))
    · exact (same.2 x far).trans (Heap.get?_update_self _ (Heap.get?_push_of_some _ hx) rfl)
/-- a further value -/
theorem put_more (T : ExC K C) (X : K.In hp) {fv : Array Value} {dx : Addr} {m0 : Str → Option Value} {nl : List Str} (hx : hp.get? x = some { cls := .ref C, dict := some dx, data := .fields fv })
    (hns : hp.Ns1 dx m0) (hw : Within m0 nl) (hz : nl.length ≤ 1000) (ht : PySem.W.takerIn K C name = some none)
    (done : ∀ h' tk', (∀ b o, b ≠ dx → hp.get? b = some o → h'.get? b = some o) → h'.Ns1 dx (fun y => if y = name then some v else m0 y) → R (.ok (.ret .none)) ⟨h', g, d, tk', os⟩) :
    codeAny (model prog w) A (.call (.builtin "object.__setattr__") ⟨[.ref x, .str name tk, v], []⟩) R ⟨hp, g, d, t, os⟩ := by
  obtain ⟨oD, eD, pD, atD, datD, _⟩ := hns.count hw
  refine PySem.W.osa_openX (od := some oD) F.store_Exception X ⟨hx, rfl, rfl, atD⟩ T.ovr ht fun b => ?_
  obtain ⟨cd, hc, dict⟩ := PySem.W.any_some T.hd
  have lc : PySem.W.Looks (model prog w) hp (classData C) cd := PySem.W.looks_clsIn X hc
  obtain ⟨n1, n2, n3, n4, n5, hd, n6, n7, n8, n9, n10⟩ := cd
  dsimp only at dict
  subst dict
  show wpAny _ _ (storeInOwnDict (.ref x) (.ref C) (.str name tk) name v b) _ _ _
  unfold storeInOwnDict ownDictForStores
  repeat (first
    | with_reducible refine PySem.OEX.store_in_old hns hw hz ?_
    | with_reducible refine wpAny_loadPart_at hx ?_
    | with_reducible refine lc.at ?_
    | wp_step)
  intro h' tk' ns same
  exact done h' tk' (fun b o ne get => (same.2 b ne).trans get) ns
end
end RX
namespace RX
open PySem PySem.Spec PyProof.Rows L2
section
variable {X : Cx} {pins : List (Addr × Obj)} {σ : L2.St} {H : Hp} {s : Shared} {a C dx : Addr} {f : Str} {y : V} {u : Value} {fs : List (Str × V)} {Q : Unit → Shared → Prop} {E : Value → Shared → Prop} {A : Around}
/-- self.f = y, the first one -/
theorem first_ok (T : ExC X.K C) (ht : PySem.W.takerIn X.K C f = some none) (I : Inv X pins σ H s) (ea : H a = some (exo a C none)) (ry : RelV y u)
    (h : ∀ dx s', H dx = none → dx ≠ a → Inv X pins σ (upd (upd H dx (exd dx [(f, y)])) a (exo a C (some dx))) s' → Q () s') :
    wpAny (model X.prog X.w) A (setAttr (.ref a) f u) Q E s := by
  obtain ⟨t1, oa⟩ := exo_at I.hok ea
  obtain ⟨hp, g, d, t, os⟩ := s
  refine PySem.W.set_plain I.kIn (od := none) ⟨oa, rfl, rfl, trivial⟩ T.sa ?_
  refine put_first T I.kIn oa ht fun h' tk' dx kept big ne nowA ns => ?_
  have fresh : H dx = none := I.hok.fresh big
  have old : ∀ {b : Addr} {o : Obj}, hp.get? b = some o → b ≠ dx := fun {b o} q e => absurd (Nat.lt_of_lt_of_le (Heap.lt_size q) big) (by rw [e]; exact Nat.lt_irrefl _)
  have free : ∀ {b : Addr}, H b = none → b ≠ a := fun {b} n e => by rw [e, ea] at n; cases n
  have stays : ∀ {b : Addr} {o : HO}, H b = some o → exo a C none ≠ o → upd (upd H dx (exd dx [(f, y)])) a (exo a C (some dx)) b = some o := fun {b o} q n => by
    rw [upd_ne (at_ne ea q n), upd_ne (ne_of_none q fresh)]
    exact q
  refine h dx _ fresh ne (I.un (t' := tk') ?_ ?_)
  · constructor
    case keep => exact fun b o q n _ _ => kept b o (free n) q
    case slot => exact fun b o q n _ _ => ⟨_, kept b o (free n) q⟩
    case free =>
      intro b o q n _
      rw [upd_ne (free n), upd_ne (old q)]
      exact n
    case there =>
      intro b o q _
      by_cases e : b = a
      · subst e
        exact ⟨_, nowA⟩
      · exact ⟨o, kept b o e q⟩
    case tups => exact fun b xs q => stays q exo_tup
    case frzs => exact fun b o v q => stays q exo_frz
    case tbls => exact fun b ps q => ⟨#[], by rw [stays q exo_tbl]; simp⟩
  · intro b o q
    by_cases e : b = a
    · subst e
      rw [upd_same] at q
      cases q
      exact exo_ok nowA
    rw [upd_ne e] at q
    by_cases e2 : b = dx
    · subst e2
      rw [upd_same] at q
      cases q
      exact exd_ok ns (relO_put (fs := []) ry fun _ => trivial)
    rw [upd_ne e2] at q
    refine (I.hok b o q).stay (fun c v hc z => kept c v ?_ z) (fun c hc => stays hc exo_own) (fun c xs hc => stays hc exo_tup)
    rcases hc with rfl | hc
    · exact e
    · exact at_ne ea hc exo_own
/-- self.f = y, a further one -/
theorem more_ok (T : ExC X.K C) (ht : PySem.W.takerIn X.K C f = some none) (I : Inv X pins σ H s) (ea : H a = some (exo a C (some dx))) (ed : H dx = some (exd dx fs)) (few : fs.length ≤ 900) (ry : RelV y u)
    (h : ∀ s', Inv X pins σ (upd H dx (exd dx ((f, y) :: fs))) s' → Q () s') : wpAny (model X.prog X.w) A (setAttr (.ref a) f u) Q E s := by
  obtain ⟨t1, oa⟩ := exo_at I.hok ea
  obtain ⟨mA, ns, rel⟩ := exd_at I.hok ed
  have within := within_of rel
  obtain ⟨hp, g, d, t, os⟩ := s
  obtain ⟨oD, _, _, atD, _, _⟩ := ns.count within
  refine PySem.W.set_plain I.kIn (od := some oD) ⟨oa, rfl, rfl, atD⟩ T.sa ?_
  refine put_more T I.kIn oa ns within (by rw [List.length_map]; omega) ht fun h' tk' kept ns' => h _ ?_
  refine I.write (x := dx) (e := dx) (by rw [ed]; exact trivial) (.inl rfl) kept ?_ (exd_ok ns' (relO_put ry rel))
  obtain ⟨o, _, _, e, _⟩ := ns'
  exact ⟨o, e⟩
end
/-- self.f = e, self an error in the making -/
def tPut (K : PySem.W.Frag) (f : Str) (to te : TE) : TS := fun D σ H => te σ H fun y H1 => to σ H1 fun x H2 => ∃ a C : Addr, x = .ref a ∧ ExC K C ∧ PySem.W.takerIn K C f = some none ∧
  ((H2 a = some (exo a C none) ∧ ∀ dx, H2 dx = none → dx ≠ a → D.nx σ (upd (upd H2 dx (exd dx [(f, y)])) a (exo a C (some dx)))) ∨
    ∃ (dx : Addr) (fs : List (Str × V)), H2 a = some (exo a C (some dx)) ∧ H2 dx = some (exd dx fs) ∧ fs.length ≤ 900 ∧ D.nx σ (upd H2 dx (exd dx ((f, y) :: fs))))
/-- Base.m(e, ..), m a def of the class at B -/
def tBase (B : Addr) (sp : Sp) (E : XK) (ta : TA) : TE := fun σ H Q => ta σ H fun vs H1 => sp vs H1 Q E
/-- C(e, ..), C's own maker keeping sp -/
def tNew (C : Addr) (sp : Sp) (ta : TA) : L2.St → Hp → XK → Prop := fun σ H Q => ta σ H fun vs H1 => vs.length ≤ 1000 ∧ ∀ a, H1 a = none → sp (.ref a :: vs) (upd H1 a (exo a C none))
  (fun v H2 => v = .non ∧ ∃ (d : Addr) (fs : List (Str × V)), H2 a = some (exo a C (some d)) ∧ H2 d = some (exd d fs) ∧ H1 d = none ∧ Q (.ref C) (some d) (upd (del H2 a) d (.xd fs))) (fun _ _ _ => False)
section
variable {X : Cx} {CX : CXT} {o e : Expr} {es : List Expr} {to te : TE} {ta : TA} {f m : Str} {p p' p1 p2 pos : Pos} {x : Str} {C B fI : Addr} {k : Nat} {fd : FuncData} {ps : List Str} {sp : Sp} {E : XK}
theorem ps_put (ho : PE X o to) (he : PE X e te) (hs : swapsWith e (some (.Attribute o f p')) pos.line X.env = pure false := by rfl) : PS X (.Assign [.Attribute o f p'] e pos) (tPut X.K f to te) := by
  refine ⟨fun pins s σ H D I h => ?_⟩
  refine plainObj_wpAny_Assign_Attribute (thn (he.run pins s σ H _ I h) ?_) hs
  rintro v s1 ⟨y, H1, I1, r1, q1⟩
  refine thn (ho.run pins s1 σ H1 _ I1 q1) ?_
  rintro u s2 ⟨x, H2, I2, r2, a, C, rfl, T, ht, q⟩
  obtain rfl : u = Value.ref a := r2
  rcases q with ⟨ea, q⟩ | ⟨dx, fs, ea, ed, few, q⟩
  · exact first_ok T ht I2 ea r1 fun dx s' n ne J => ⟨σ, _, J, q dx n ne⟩
  · exact more_ok T ht I2 ea ed few r1 fun s' J => ⟨σ, _, J, q⟩
theorem pe_base {pl : Sem Bool} (r : ClX.CRead X.K B (.type "type")) (at_ : PySem.W.findCls X.K (.ref B) (.type "type") m = some (.val (.ref fI))) (F : FnOk X.prog X.w X.K X.mg X.base CX k fI fd ps sp) (hr : Room k X.A)
    (hk : PySem.W.keepIn X.K (.ref fI) = true) (hb : Binds X.K fd ps []) (hx : Passes CX X E) (hg : Gl X x) (hm : X.mg x = some (.ref B)) (ha : PA X (e :: es) ta) (hdb : (x == ("__debug__" : Str)) = false := by decide)
    (hc : eval (.Call (.Attribute (.Name x p1) m p2) (e :: es) [] pos) X.env = (do
      let ov ← eval (.Name x p1) X.env
      standAt p2.atName
      let (f, first) ← holding [ov] (getMethod ov m pl)
      callWith pos f first (backTo pos (starEach (e :: es) X.env)) (backToKw pos (keywordEach [] X.env))) := by rfl)
    (hst : starEach (e :: es) X.env = (false, eval e X.env) :: starEach es X.env := by rfl) (hpl : (backTo pos (starEach es X.env)).any (·.1) = false := by rfl) :
    PE X (.Call (.Attribute (.Name x p1) m p2) (e :: es) [] pos) (tBase B sp E ta) := by
  refine ⟨fun pins s σ H Q I h => ?_⟩
  refine PySem.W.methodCall_KW (pl := pl) (ld_glob I hg hm ?_ hdb) hc
  refine PySem.W.method_cls I.kIn r.ga (PySem.W.cls_value I.kIn r.rd at_ rfl ?_)
  refine PySem.W.callWith_K (first := []) (h₀ := X.base) I.ok.mod.kin hk (thn (ha.run pos pins _ σ H _ (I.tok _) h) ?_) hst hpl
  rintro us s1 ⟨vs, H1, I1, rv, q⟩
  refine ⟨I1.kIn, ?_⟩
  exact run_fn (us := us) (vs := vs) (ds := []) (dvs := []) F hr hb .nil hx I1 rv (by rw [List.append_nil]; exact q)
/-- the end of C(..) -/
theorem made_end {pins : List (Addr × Obj)} {σ : L2.St} {Q : XK} {us : List Value} {vs : List V} {H1 : Hp} {s : Shared} {pos : Pos} (T : ExC X.K C) (iC : PySem.W.findIn X.K (.ref C) "__init__" = some (some (.ref fI))) (tI : PySem.W.typeIn X.K (.ref fI) = some (.type "function"))
    (F : FnOk X.prog X.w X.K X.mg X.base CX k fI fd ps sp) (hr : Room (k + 1) X.A) (hb : Binds X.K fd ps []) (hx : Passes CX X (fun _ _ _ => False)) (I1 : Inv X pins σ H1 s) (rv : Vals vs us) (hz : vs.length ≤ 1000)
    (q1 : ∀ a, H1 a = none → sp (.ref a :: vs) (upd H1 a (exo a C none)) (fun v H2 => v = .non ∧ ∃ (d : Addr) (fs : List (Str × V)), H2 a = some (exo a C (some d)) ∧ H2 d = some (exd d fs) ∧ H1 d = none ∧ Q (.ref C) (some d) (upd (del H2 a) d (.xd fs))) (fun _ _ _ => False)) :
    wpAny (model X.prog X.w) X.A (call (.ref C) us) (MkP X pins σ Q) X.xe s := by
  obtain ⟨nm, N, qn, bs, bm, hdct, sn, sub, ab, col, dd, k0, k1, k2, k3, k5, hC, hbm⟩ := PySem.W.excInit_of I1.kIn T.ini
  obtain ⟨hp, g, dr, tk, os⟩ := s
  have big : hp.objs.size ≤ hp.objs.size + 1 := Nat.le_succ _
  have fresh : H1 (hp.objs.size + 1) = none := I1.hok.fresh big
  have hq := q1 (hp.objs.size + 1) fresh
  have kept : ∀ b o, hp.get? b = some o → ((hp.push (PySem.W.kdv_tup us)).push (PySem.HandSPX.excO C hp.objs.size)).get? b = some o := fun b o z => Heap.get?_push_of_some _ (Heap.get?_push_of_some _ z)
  have there : ((hp.push (PySem.W.kdv_tup us)).push (PySem.HandSPX.excO C hp.objs.size)).get? (hp.objs.size + 1) = some (PySem.HandSPX.excO C hp.objs.size) := by heap_get
  have I2 := I1.laid (t' := tk) (a := hp.objs.size + 1) (o := exo (hp.objs.size + 1) C none) (h' := (hp.push (PySem.W.kdv_tup us)).push (PySem.HandSPX.excO C hp.objs.size)) kept big (exo_ok there)
  have r2 : Vals (V.ref (hp.objs.size + 1) :: vs) (Value.ref (hp.objs.size + 1) :: us) := .cons rfl rv
  have len : (Value.ref (hp.objs.size + 1) :: us ++ []).length = ps.length := by
    rw [List.append_nil, ← F.len _ _ _ _ hq]
    exact r2.length.symm
  have room : us.length ≤ sizeLine := by
    rw [← Paired.length rv, sizeLine_eq]
    omega
  have bind := hb _ (Value.ref (hp.objs.size + 1) :: us) I2.kIn len
  rw [List.append_nil] at bind
  refine wpAny_call (PySem.HandSPX.call_own PySem.F.excBase_Exception hbm hC (PySem.W.looks_findIn I1.kIn iC) (fun self => PySem.W.bind_fn I1.kIn self tI) room ?_)
  refine codeAny_mono (F.run _ X.stack _ _ ⟨Value.ref (hp.objs.size + 1) :: us, []⟩ _ _ _ (fun _ _ _ => False) (hr.make C us []) (I2.env0.make C us []) bind r2 hq) fun r s' hq' => ?_
  cases r with
  | error er => exact hx pins σ _ _ er s' I2 hq'
  | ok fl =>
    cases fl with
    | ret u =>
      obtain ⟨v, H2, os2, bare2, un2, hok2, rel, ev, d, fs, ea, ed, hd1, q2⟩ := hq'
      subst ev
      obtain ⟨h2, g2, d2, t2, os'⟩ := s'
      exact ⟨rel, mk_end (raises_own T.exC T.tyC) I1 big kept un2 hok2 os2 bare2 ea ed hd1 q2⟩
    | next => exact hq'.elim
    | brk => exact hq'.elim
    | cont => exact hq'.elim
/-- C(e, ..) -/
theorem pmk_new (T : ExC X.K C) (iC : PySem.W.findIn X.K (.ref C) "__init__" = some (some (.ref fI))) (tI : PySem.W.typeIn X.K (.ref fI) = some (.type "function"))
    (F : FnOk X.prog X.w X.K X.mg X.base CX k fI fd ps sp) (hr : Room (k + 1) X.A) (hb : Binds X.K fd ps []) (hx : Passes CX X (fun _ _ _ => False)) (hg : Gl X x) (hm : X.mg x = some (.ref C)) (ha : PA X (e :: es) ta)
    (hdb : (x == ("__debug__" : Str)) = false := by decide) (he : starEach (e :: es) X.env = (false, eval e X.env) :: starEach es X.env := by rfl) (hpl : (backTo pos (starEach es X.env)).any (·.1) = false := by rfl) :
    PMk X (.Call (.Name x p) (e :: es) [] pos) (tNew C sp ta) := by
  intro pins s σ H Q I h
  refine wpAny_Call_Name_kw (ld_glob I hg hm ?_ hdb)
  refine PySem.W.callWith_K (h₀ := X.base) I.ok.mod.kin T.kC (thn (ha.run pos pins s σ H _ I h) ?_) he hpl
  rintro us s1 ⟨vs, H1, I1, rv, hz, q1⟩
  exact ⟨I1.kIn, made_end (pos := pos) T iC tI F hr hb hx I1 rv hz q1⟩
/-- C() -/
theorem pmk_new0 (T : ExC X.K C) (iC : PySem.W.findIn X.K (.ref C) "__init__" = some (some (.ref fI))) (tI : PySem.W.typeIn X.K (.ref fI) = some (.type "function"))
    (F : FnOk X.prog X.w X.K X.mg X.base CX k fI fd ps sp) (hr : Room (k + 1) X.A) (hb : Binds X.K fd ps []) (hx : Passes CX X (fun _ _ _ => False)) (hg : Gl X x) (hm : X.mg x = some (.ref C)) (hdb : (x == ("__debug__" : Str)) = false := by decide) :
    PMk X (.Call (.Name x p) [] [] pos) (tNew C sp tNil) := by
  intro pins s σ H Q I h
  refine wpAny_Call_Name_kw (ld_glob I hg hm ?_ hdb)
  obtain ⟨hz, q1⟩ := h
  exact PySem.W.callWith_K0 I.kIn T.kC (made_end (us := []) (pos := pos) T iC tI F hr hb hx I .nil hz q1)
end
end RX
namespace RM
open Tote
/-! ### words of spec as plain matches -/
def bnd (lo hi : Nat) (w : Bytes) : Option Nat := match numberOf w with
  | none => none
  | some n => if n < lo ∨ hi < n then none else some n
theorem number_nil (e lo hi : Nat) : number e lo hi [] = .error ⟨3, e⟩ := rfl
theorem number_cons (e lo hi : Nat) (w : Word) (r : List Word) : number e lo hi (w :: r) = match bnd lo hi w.w with
  | none => .error ⟨4, w.at_⟩
  | some n => .ok ((n, w.at_), r) := by
  unfold number bnd
  simp only [next, bind, Except.bind]
  cases numberOf w.w with
  | none => rfl
  | some n =>
    dsimp only
    by_cases h : n < lo ∨ hi < n
    · rw [if_pos h, if_pos h]
    · rw [if_neg h, if_neg h]
      rfl
theorem must_nil (e : Nat) (s : String) : must e s [] = .error ⟨3, e⟩ := rfl
theorem must_cons (e : Nat) (s : String) (w : Word) (r : List Word) : must e s (w :: r) = if w.w = ascii s then .ok r else .error ⟨3, w.at_⟩ := by
  unfold must
  simp only [next, bind, Except.bind]
  by_cases h : w.w = ascii s
  · rw [if_pos h, if_pos h]; rfl
  · rw [if_neg h, if_neg h]
/-- what came out, without a fault's place -/
def ok? {α : Type} : Except Fault α → Option α
  | .ok a => some a
  | .error _ => none
theorem ok?_bind {α β : Type} (x : Except Fault α) (f : α → Except Fault β) : ok? (x >>= f) = (ok? x).bind fun a => ok? (f a) := by
  cases x <;> rfl
theorem ok?_map {α β : Type} (x : Except Fault α) (f : α → β) : ok? (x.map f) = (ok? x).map f := by
  cases x <;> rfl
theorem ok?_pure {α : Type} (a : α) : ok? (pure a : Except Fault α) = some a := rfl
theorem ok?_ok {α : Type} (a : α) : ok? (.ok a : Except Fault α) = some a := rfl
theorem ok?_error {α : Type} (a : Fault) : ok? (.error a : Except Fault α) = none := rfl
theorem ok?_holds (b : Bool) (k p : Nat) : ok? (holds b k p) = if b = true then some () else none := by
  unfold holds
  cases b <;> rfl
/-- texts of words -/
abbrev tx (l : List Word) : List Bytes := l.map (·.w)
/-! ### couples -/
def couplesT (runners : Nat) : Nat → List (Nat × Nat) → List Bytes → Option (List (Nat × Nat))
  | _, had, [] => some had
  | k + 1, had, c :: a :: b :: l => if c = ascii "couple" then match bnd 1 runners a with
      | none => none
      | some x => if (had.any fun (z : Nat × Nat) => z.2 == x) = true then none else match bnd 1 runners b with
        | none => none
        | some y => if (decide (x < y) && !(had.any fun (z : Nat × Nat) => z.1 == y || z.2 == y)) = true then couplesT runners k (putB (x, y) had) l else none
    else none
  | _, _, _ => none
theorem couples_T (e runners : Nat) : ∀ (k : Nat) (had : List (Nat × Nat)) (l : List Word), ok? (couplesIn e runners k had l) = couplesT runners k had (tx l)
  | 0, had, [] => rfl
  | 0, had, w :: l => by
    unfold couplesIn
    by_cases h : w.w = ascii "couple"
    · simp only [if_pos h]
      cases l with
      | nil => simp [couplesT, ok?]
      | cons _ l => cases l <;> simp [couplesT, ok?]
    · simp only [if_neg h]
      cases l with
      | nil => simp [couplesT, ok?]
      | cons _ l => cases l <;> simp [couplesT, ok?]
  | k + 1, had, [] => by
    unfold couplesIn couplesT
    rfl
  | k + 1, had, [c] => by
    unfold couplesIn
    rw [if_neg (by simp), must_cons]
    by_cases h : c.w = ascii "couple"
    · rw [if_pos h]
      simp only [bind, Except.bind, number_nil, ok?, couplesT, List.map_cons, List.map_nil, tx]
    · rw [if_neg h]
      simp only [bind, Except.bind, number_nil, ok?, couplesT, List.map_cons, List.map_nil, tx]
  | k + 1, had, [c, a] => by
    unfold couplesIn
    rw [if_neg (by simp), must_cons]
    by_cases h : c.w = ascii "couple"
    · rw [if_pos h]
      simp only [ok?_bind, ok?_ok, Option.bind_some, number_cons]
      cases ha : bnd 1 runners a.w with
      | none => simp [ok?, couplesT, tx]
      | some x =>
        simp only [ok?_ok, Option.bind_some, ok?_holds]
        by_cases hh : (!(had.any fun (z : Nat × Nat) => z.2 == x)) = true
        · rw [if_pos hh]; simp [number_nil, ok?, couplesT, tx]
        · rw [if_neg hh]; simp [number_nil, ok?, couplesT, tx]
    · rw [if_neg h]
      simp only [bind, Except.bind, number_nil, ok?, couplesT, List.map_cons, List.map_nil, tx]
  | k + 1, had, c :: a :: b :: l => by
    unfold couplesIn
    rw [if_neg (by simp), must_cons]
    show _ = couplesT runners (k + 1) had (c.w :: a.w :: b.w :: tx l)
    unfold couplesT
    by_cases h : c.w = ascii "couple"
    · rw [if_pos h, if_pos h]
      simp only [ok?_bind, ok?_ok, Option.bind_some, number_cons]
      cases ha : bnd 1 runners a.w with
      | none => rfl
      | some x =>
        simp only [ok?_ok, Option.bind_some, ok?_holds]
        cases hh : had.any fun (z : Nat × Nat) => z.2 == x with
        | true => rfl
        | false =>
          simp only [Bool.not_false, if_true, Option.bind_some, if_neg Bool.false_ne_true, number_cons]
          cases hb : bnd 1 runners b.w with
          | none => rfl
          | some y =>
            simp only [ok?_ok, Option.bind_some, ok?_holds]
            by_cases hq : (decide (x < y) && !(had.any fun (z : Nat × Nat) => z.1 == y || z.2 == y)) = true
            · rw [if_pos hq, if_pos hq]
              exact couples_T e runners k _ l
            · rw [if_neg hq, if_neg hq]
              rfl
    · rw [if_neg h, if_neg h]
      rfl
def raceT : List Bytes → Option Race
  | [] => none
  | n :: cs => match bnd 2 24 n with
    | none => none
    | some n => (couplesT n 8 [] cs).map fun c => ⟨n, c⟩
theorem race_T (e : Nat) : ∀ l : List Word, ok? (raceIn e l) = raceT (tx l)
  | [] => rfl
  | w :: l => by
    unfold raceIn
    rw [number_cons]
    show _ = raceT (w.w :: tx l)
    unfold raceT
    cases h : bnd 2 24 w.w with
    | none => simp only [RUNNERS, h]; rfl
    | some n =>
      simp only [RUNNERS, h, ok?_bind, ok?_ok, Option.bind_some, couples_T, COUPLES]
      cases couplesT n 8 [] (tx l) <;> rfl
end RM
namespace RM
open Tote
def kindT (w : Bytes) : Option Kind := (KINDS.find? fun (y : Kind × String) => ascii y.2 == w).map (·.1)
def noneT (kd : Kind) (w : Bytes) : Option None_ := ((if kd = .place then NONES.take 2 else NONES).find? fun (y : None_ × String) => ascii y.2 == w).map (·.1)
theorem oneOf_nil {α : Type} (e : Nat) (L : List (α × String)) : ok? (oneOf e L []) = none := rfl
theorem oneOf_cons {α : Type} (e : Nat) (L : List (α × String)) (w : Word) (r : List Word) : ok? (oneOf e L (w :: r)) = ((L.find? fun (y : α × String) => ascii y.2 == w.w).map (·.1)).map fun a => ((a, w.at_), r) := by
  unfold oneOf
  simp only [next, bind, Except.bind]
  cases L.find? fun (y : α × String) => ascii y.2 == w.w <;> rfl
/-- a pool's words behind its name, but for the name's being new -/
def poolT (races : List Race) : List Bytes → Option Pool
  | [nm, kd, k, w1, rc, w2, tk, w3, bk, w4, ls, w5, un, w6, nn] =>
    if isName nm = true then (kindT kd).bind fun kd => (bnd (leastK kd) (mostK kd) k).bind fun k => if w1 = ascii "from" then (bnd 1 races.length rc).bind fun rc =>
      if (kd != .legs || decide (rc + k ≤ races.length + 1)) = true then if (kd == .legs || ((races[rc - 1]?).map fun (x : Race) => decide (k ≤ x.heads.length)).getD false) = true then
      if w2 = ascii "take" then (bnd 0 400 tk).bind fun tk => if w3 = ascii "break" then (bnd 1 1000 bk).bind fun bk => if w4 = ascii "least" then (bnd 0 20000 ls).bind fun ls =>
      if w5 = ascii "unit" then (bnd 1 10000 un).bind fun un => if (ls == 0 || inside un (2 * un) ls) = true then if w6 = ascii "none" then (noneT kd nn).bind fun nn =>
        some ⟨nm, kd, k, rc, nn, tk, bk, ls, un⟩
      else none else none else none else none else none else none else none else none else none else none
  | _ => none
theorem newName_cons (e : Nat) (had : List Bytes) (w : Word) (r : List Word) : ok? (newName e had (w :: r)) = if isName w.w = true ∧ had.contains w.w = false then some (w.w, r) else none := by
  unfold newName
  simp only [next, bind, Except.bind]
  cases h : isName w.w
  · simp [ok?]
  · cases hc : had.contains w.w <;> simp [ok?, pure, Except.pure]
theorem ok?_number (e lo hi : Nat) (w : Word) (r : List Word) : ok? (number e lo hi (w :: r)) = (bnd lo hi w.w).map fun n => ((n, w.at_), r) := by
  rw [number_cons]
  cases bnd lo hi w.w <;> rfl
theorem ok?_must (e : Nat) (s : String) (w : Word) (r : List Word) : ok? (must e s (w :: r)) = if w.w = ascii s then some r else none := by
  rw [must_cons]
  split <;> rfl
theorem ok?_closed_nil : ok? (closed []) = some () := rfl
theorem ok?_closed_cons (w : Word) (r : List Word) : ok? (closed (w :: r)) = none := rfl
theorem ok?_newName_nil (e : Nat) (had : List Bytes) : ok? (newName e had []) = none := rfl
theorem ok?_number_nil (e lo hi : Nat) : ok? (number e lo hi []) = none := rfl
theorem ok?_must_nil (e : Nat) (s : String) : ok? (must e s []) = none := rfl
theorem bind_none_fun {α β : Type} (x : Option α) : (x.bind fun _ => (none : Option β)) = none := by cases x <;> rfl
theorem if_bind {α β : Type} (c : Prop) [Decidable c] (x : Option α) (f : α → Option β) : (if c then x else none).bind f = if c then x.bind f else none := by
  split <;> rfl
theorem map_bind_ {α β γ : Type} (x : Option α) (g : α → β) (f : β → Option γ) : (x.map g).bind f = x.bind fun a => f (g a) := by cases x <;> rfl
theorem bind_same {α : Type} {x : Option α} {g : α → Option α} (h : ∀ p, x = some p → g p = some p) : x.bind g = x := by
  cases x with
  | none => rfl
  | some p => exact h p rfl
theorem bind_never {α β : Type} {x : Option α} {g : α → Option β} (h : ∀ p, x = some p → g p = none) : x.bind g = none := by
  cases x with
  | none => rfl
  | some p => exact h p rfl
theorem pool_name {races : List Race} {r : List Bytes} {nm : Bytes} {p : Pool} (h : poolT races (nm :: r) = some p) : p.name = nm := by
  unfold poolT at h
  split at h
  · rename_i e
    simp only [List.cons.injEq] at e
    obtain ⟨rfl, _⟩ := e
    simp only [Option.ite_none_right_eq_some, Option.bind_eq_some_iff, Option.some.injEq] at h
    grind
  · cases h
theorem pool_T (e : Nat) (C : Card) (l : List Word) : ok? (poolIn e C l) = (poolT C.races (tx l)).bind fun p => if (C.pools.map fun (p : Pool) => p.name).contains p.name = true then none else some p := by
  unfold poolIn
  match l with
  | [] => rfl
  | [w0] => simp [ok?_bind, newName_cons, if_bind, map_bind_, oneOf_cons, oneOf_nil, ok?_number, ok?_number_nil, ok?_must, ok?_must_nil, ok?_holds, ok?_closed_nil, ok?_closed_cons, poolT, bind_none_fun]
  | [w0, w1] => simp [ok?_bind, newName_cons, if_bind, map_bind_, oneOf_cons, oneOf_nil, ok?_number, ok?_number_nil, ok?_must, ok?_must_nil, ok?_holds, ok?_closed_nil, ok?_closed_cons, poolT, bind_none_fun]
  | [w0, w1, w2] => simp [ok?_bind, newName_cons, if_bind, map_bind_, oneOf_cons, oneOf_nil, ok?_number, ok?_number_nil, ok?_must, ok?_must_nil, ok?_holds, ok?_closed_nil, ok?_closed_cons, poolT, bind_none_fun]
  | [w0, w1, w2, w3] => simp [ok?_bind, newName_cons, if_bind, map_bind_, oneOf_cons, oneOf_nil, ok?_number, ok?_number_nil, ok?_must, ok?_must_nil, ok?_holds, ok?_closed_nil, ok?_closed_cons, poolT, bind_none_fun]
  | [w0, w1, w2, w3, w4] => simp [ok?_bind, newName_cons, if_bind, map_bind_, oneOf_cons, oneOf_nil, ok?_number, ok?_number_nil, ok?_must, ok?_must_nil, ok?_holds, ok?_closed_nil, ok?_closed_cons, poolT, bind_none_fun]
  | [w0, w1, w2, w3, w4, w5] => simp [ok?_bind, newName_cons, if_bind, map_bind_, oneOf_cons, oneOf_nil, ok?_number, ok?_number_nil, ok?_must, ok?_must_nil, ok?_holds, ok?_closed_nil, ok?_closed_cons, poolT, bind_none_fun]
  | [w0, w1, w2, w3, w4, w5, w6] => simp [ok?_bind, newName_cons, if_bind, map_bind_, oneOf_cons, oneOf_nil, ok?_number, ok?_number_nil, ok?_must, ok?_must_nil, ok?_holds, ok?_closed_nil, ok?_closed_cons, poolT, bind_none_fun]
  | [w0, w1, w2, w3, w4, w5, w6, w7] => simp [ok?_bind, newName_cons, if_bind, map_bind_, oneOf_cons, oneOf_nil, ok?_number, ok?_number_nil, ok?_must, ok?_must_nil, ok?_holds, ok?_closed_nil, ok?_closed_cons, poolT, bind_none_fun]
  | [w0, w1, w2, w3, w4, w5, w6, w7, w8] => simp [ok?_bind, newName_cons, if_bind, map_bind_, oneOf_cons, oneOf_nil, ok?_number, ok?_number_nil, ok?_must, ok?_must_nil, ok?_holds, ok?_closed_nil, ok?_closed_cons, poolT, bind_none_fun]
  | [w0, w1, w2, w3, w4, w5, w6, w7, w8, w9] => simp [ok?_bind, newName_cons, if_bind, map_bind_, oneOf_cons, oneOf_nil, ok?_number, ok?_number_nil, ok?_must, ok?_must_nil, ok?_holds, ok?_closed_nil, ok?_closed_cons, poolT, bind_none_fun]
  | [w0, w1, w2, w3, w4, w5, w6, w7, w8, w9, w10] => simp [ok?_bind, newName_cons, if_bind, map_bind_, oneOf_cons, oneOf_nil, ok?_number, ok?_number_nil, ok?_must, ok?_must_nil, ok?_holds, ok?_closed_nil, ok?_closed_cons, poolT, bind_none_fun]
  | [w0, w1, w2, w3, w4, w5, w6, w7, w8, w9, w10, w11] => simp [ok?_bind, newName_cons, if_bind, map_bind_, oneOf_cons, oneOf_nil, ok?_number, ok?_number_nil, ok?_must, ok?_must_nil, ok?_holds, ok?_closed_nil, ok?_closed_cons, poolT, bind_none_fun]
  | [w0, w1, w2, w3, w4, w5, w6, w7, w8, w9, w10, w11, w12] => simp [ok?_bind, newName_cons, if_bind, map_bind_, oneOf_cons, oneOf_nil, ok?_number, ok?_number_nil, ok?_must, ok?_must_nil, ok?_holds, ok?_closed_nil, ok?_closed_cons, poolT, bind_none_fun]
  | [w0, w1, w2, w3, w4, w5, w6, w7, w8, w9, w10, w11, w12, w13] => simp [ok?_bind, newName_cons, if_bind, map_bind_, oneOf_cons, oneOf_nil, ok?_number, ok?_number_nil, ok?_must, ok?_must_nil, ok?_holds, ok?_closed_nil, ok?_closed_cons, poolT, bind_none_fun]
  | [w0, w1, w2, w3, w4, w5, w6, w7, w8, w9, w10, w11, w12, w13, w14] =>
    show _ = (poolT C.races (w0.w :: [w1.w, w2.w, w3.w, w4.w, w5.w, w6.w, w7.w, w8.w, w9.w, w10.w, w11.w, w12.w, w13.w, w14.w])).bind _
    cases hd : (C.pools.map fun (p : Pool) => p.name).contains w0.w
    · rw [bind_same (fun p h => by rw [pool_name h, hd]; rfl)]
      simp only [ok?_bind, newName_cons, hd]
      by_cases hn : isName w0.w = true
      · simp [ok?_bind, if_bind, map_bind_, oneOf_cons, ok?_number, ok?_must, ok?_holds, ok?_closed_nil, poolT, Option.bind_assoc, kindT, noneT, hn, ok?_pure]
      · simp [hn, poolT]
    · rw [bind_never (fun p h => by rw [pool_name h, hd]; rfl)]
      simp only [ok?_bind, newName_cons, hd]
      simp
  | w0 :: w1 :: w2 :: w3 :: w4 :: w5 :: w6 :: w7 :: w8 :: w9 :: w10 :: w11 :: w12 :: w13 :: w14 :: w15 :: l =>
    simp only [ok?_bind, newName_cons, if_bind, map_bind_, oneOf_cons, oneOf_nil, ok?_number, ok?_number_nil, ok?_must, ok?_must_nil, ok?_holds, ok?_closed_nil, ok?_closed_cons, poolT, bind_none_fun, tx, List.map_cons, List.map_nil, Option.bind_some, ok?_pure]
    simp [bind_none_fun]
end RM
namespace RM
open Tote
/-! ### cutting at a sign -/
def cut (c : UInt8) : Bytes → List Bytes
  | [] => [[]]
  | x :: r => if x = c then [] :: cut c r else match cut c r with
    | [] => [[x]]
    | w :: t => (x :: w) :: t
theorem cut_cons_eq (c : UInt8) (r : Bytes) : cut c (c :: r) = [] :: cut c r := by
  show (if c = c then _ else _) = _
  rw [if_pos rfl]
theorem cut_cons_ne {c x : UInt8} (h : x ≠ c) {w : Bytes} {t : List Bytes} {r : Bytes} (e : cut c r = w :: t) : cut c (x :: r) = (x :: w) :: t := by
  show (if x = c then _ else match cut c r with | [] => [[x]] | w :: t => (x :: w) :: t) = _
  rw [if_neg h, e]
theorem cut_ex (c : UInt8) : ∀ l : Bytes, ∃ w t, cut c l = w :: t
  | [] => ⟨[], [], rfl⟩
  | x :: r => by
    obtain ⟨w, t, e⟩ := cut_ex c r
    by_cases h : x = c
    · subst h
      exact ⟨[], cut x r, cut_cons_eq x r⟩
    · exact ⟨x :: w, t, cut_cons_ne h e⟩
theorem cut_ne (c : UInt8) (l : Bytes) : cut c l ≠ [] := by
  obtain ⟨w, t, e⟩ := cut_ex c l
  rw [e]
  exact List.cons_ne_nil _ _
/-- what stands in no piece -/
theorem cut_free (c : UInt8) : ∀ (l : Bytes), ∀ w ∈ cut c l, c ∉ w
  | [], w, h => by
    rw [List.mem_singleton.mp h]
    exact List.not_mem_nil
  | x :: r, w, h => by
    obtain ⟨v, t, e⟩ := cut_ex c r
    by_cases hx : x = c
    · subst hx
      rw [cut_cons_eq] at h
      rcases List.mem_cons.mp h with rfl | h
      · exact List.not_mem_nil
      · exact cut_free x r w h
    · rw [cut_cons_ne hx e] at h
      rcases List.mem_cons.mp h with rfl | h
      · intro hm
        rcases List.mem_cons.mp hm with q | hm
        · exact hx q.symm
        · exact cut_free c r v (by rw [e]; exact List.mem_cons_self) hm
      · exact cut_free c r w (by rw [e]; exact List.mem_cons_of_mem _ h)
theorem upTo_none : ∀ {b : Bytes}, upTo b = none → cut 10 b = [b]
  | [], _ => rfl
  | x :: r, h => by
    unfold upTo at h
    split at h
    · cases h
    · rename_i hx
      have h' : upTo r = none := by
        cases q : upTo r with
        | none => rfl
        | some z => rw [q] at h; cases h
      exact cut_cons_ne hx (upTo_none h')
theorem upTo_some : ∀ {b l r : Bytes}, upTo b = some (l, r) → cut 10 b = l :: cut 10 r ∧ b = l ++ 10 :: r ∧ 10 ∉ l
  | [], _, _, h => nomatch h
  | x :: b, l, r, h => by
    unfold upTo at h
    split at h
    · rename_i hx
      subst hx
      obtain ⟨rfl, rfl⟩ := Prod.mk.inj (Option.some.inj h)
      exact ⟨cut_cons_eq _ _, rfl, List.not_mem_nil⟩
    · rename_i hx
      cases q : upTo b with
      | none => rw [q] at h; cases h
      | some z =>
        obtain ⟨l', r'⟩ := z
        rw [q] at h
        obtain ⟨rfl, rfl⟩ := Prod.mk.inj (Option.some.inj h)
        obtain ⟨e1, e2, e3⟩ := upTo_some q
        refine ⟨cut_cons_ne hx e1, by rw [e2]; rfl, fun hm => ?_⟩
        rcases List.mem_cons.mp hm with q | hm
        · exact hx q.symm
        · exact e3 hm
theorem upTo_free {b : Bytes} (h : 10 ∉ b) : upTo b = none := by
  cases q : upTo b with
  | none => rfl
  | some z =>
    obtain ⟨l, r⟩ := z
    obtain ⟨_, e, _⟩ := upTo_some q
    exact absurd (by rw [e]; exact List.mem_append_right _ List.mem_cons_self) h
theorem upTo_at {l r : Bytes} (h : 10 ∉ l) : upTo (l ++ 10 :: r) = some (l, r) := by
  induction l with
  | nil => rfl
  | cons x l ih =>
    show (if x = 10 then _ else _) = _
    rw [if_neg (fun q => h (by rw [q]; exact List.mem_cons_self))]
    show (upTo (l ++ 10 :: r)).map _ = _
    rw [ih (fun hm => h (List.mem_cons_of_mem _ hm))]
    rfl
/-! ### a line without a bad byte: its words are the pieces between blanks -/
def goodLine (l : Bytes) : Bool := (badByte true 0 l).isNone
/-- a byte that may stand in a word -/
def inWord (c : UInt8) : Bool := decide (32 < c) && decide (c ≤ 126)
theorem bad_shift : ∀ (l : Bytes) (g : Bool) (p q : Nat), (badByte g p l).isNone = (badByte g q l).isNone
  | [], g, p, q => by cases g <;> rfl
  | c :: r, g, p, q => by
    unfold badByte
    split
    · rfl
    · split
      · split
        · rfl
        · split
          · rfl
          · exact bad_shift r true (p + 1) (q + 1)
      · exact bad_shift r false (p + 1) (q + 1)
/-- no bad byte, from the middle of a line on (gap: at its beginning or behind a blank) -/
theorem bad_words : ∀ (l : Bytes) (g : Bool) (p : Nat), (g = true → l ≠ []) → ((badByte g p l).isNone = true ↔
    ∃ w t, cut 32 l = w :: t ∧ (g = true → w ≠ []) ∧ (∀ v ∈ t, v ≠ []) ∧ ∀ v ∈ w :: t, ∀ c ∈ v, inWord c = true)
  | [], g, p, hg => by
    cases g with
    | true => exact absurd rfl (hg rfl)
    | false => exact ⟨fun _ => ⟨[], [], rfl, (fun h => nomatch h), (fun v h => nomatch h), fun v h c hc => by
        rw [List.mem_singleton.mp h] at hc
        nomatch hc⟩, fun _ => rfl⟩
  | c :: r, g, p, _ => by
    unfold badByte
    by_cases h1 : c < 32 ∨ 126 < c
    · rw [if_pos h1]
      refine ⟨fun h => (Bool.noConfusion h), ?_⟩
      rintro ⟨w, t, e, _, _, hin⟩
      have hc : c ≠ 32 := by
        intro q
        subst q
        rcases h1 with h1 | h1 <;> exact absurd h1 (by decide)
      obtain ⟨w', t', e'⟩ := cut_ex 32 r
      rw [cut_cons_ne hc e'] at e
      obtain ⟨rfl, rfl⟩ := List.cons.inj e
      have := hin _ List.mem_cons_self c List.mem_cons_self
      unfold inWord at this
      simp only [Bool.and_eq_true, decide_eq_true_eq] at this
      rcases h1 with h1 | h1
      · exact absurd this.1 (UInt8.not_lt.mpr (UInt8.le_of_lt h1))
      · exact absurd this.2 (UInt8.not_le.mpr h1)
    · rw [if_neg h1]
      by_cases h2 : c = 32
      · subst h2
        rw [if_pos rfl, cut_cons_eq]
        by_cases h3 : g = true
        · rw [if_pos h3]
          refine ⟨fun h => (Bool.noConfusion h), ?_⟩
          rintro ⟨w, t, e, hg, _, _⟩
          obtain ⟨rfl, _⟩ := List.cons.inj e
          exact absurd rfl (hg h3)
        · rw [if_neg h3]
          cases r with
          | nil =>
            rw [if_pos (show ([] : Bytes).isEmpty = true from rfl)]
            refine ⟨fun h => (Bool.noConfusion h), ?_⟩
            rintro ⟨w, t, e, _, ht, _⟩
            obtain ⟨_, rfl⟩ := List.cons.inj e
            exact absurd rfl (ht [] List.mem_cons_self)
          | cons d r =>
            rw [if_neg (by simp)]
            have ih := bad_words (d :: r) true (p + 1) (fun _ => List.cons_ne_nil _ _)
            rw [ih]
            constructor
            · rintro ⟨w, t, e, hw, ht, hin⟩
              refine ⟨[], w :: t, by rw [e], fun q => absurd q h3, fun v hv => ?_, fun v hv x hx => ?_⟩
              · rcases List.mem_cons.mp hv with rfl | hv
                · exact hw rfl
                · exact ht v hv
              · rcases List.mem_cons.mp hv with rfl | hv
                · nomatch hx
                · exact hin v hv x hx
            · rintro ⟨w, t, e, _, ht, hin⟩
              obtain ⟨w', t', e'⟩ := cut_ex 32 (d :: r)
              rw [e'] at e
              obtain ⟨_, rfl⟩ := List.cons.inj e
              exact ⟨w', t', e', fun _ => ht w' List.mem_cons_self, fun v hv => ht v (List.mem_cons_of_mem _ hv), fun v hv => hin v (List.mem_cons_of_mem _ hv)⟩
      · rw [if_neg h2, bad_words r false (p + 1) (fun h => nomatch h)]
        obtain ⟨w', t', e'⟩ := cut_ex 32 r
        rw [cut_cons_ne h2 e', e']
        have hc : inWord c = true := by
          unfold inWord
          rw [not_or, UInt8.not_lt, UInt8.not_lt] at h1
          simp only [Bool.and_eq_true, decide_eq_true_eq]
          refine ⟨?_, h1.2⟩
          rcases UInt8.lt_or_eq_of_le h1.1 with q | q
          · exact q
          · exact absurd q.symm h2
        constructor
        · rintro ⟨w, t, e, _, ht, hin⟩
          obtain ⟨rfl, rfl⟩ := List.cons.inj e
          refine ⟨_, _, rfl, fun _ => List.cons_ne_nil _ _, ht, fun v hv x hx => ?_⟩
          rcases List.mem_cons.mp hv with rfl | hv
          · rcases List.mem_cons.mp hx with rfl | hx
            · exact hc
            · exact hin _ List.mem_cons_self x hx
          · exact hin v (List.mem_cons_of_mem _ hv) x hx
        · rintro ⟨w, t, e, _, ht, hin⟩
          obtain ⟨rfl, rfl⟩ := List.cons.inj e
          refine ⟨_, _, rfl, fun h => Bool.noConfusion h, ht, fun v hv x hx => ?_⟩
          rcases List.mem_cons.mp hv with rfl | hv
          · exact hin _ List.mem_cons_self x (List.mem_cons_of_mem _ hx)
          · exact hin v (List.mem_cons_of_mem _ hv) x hx
theorem good_iff (l : Bytes) : goodLine l = true ↔ ∀ v ∈ cut 32 l, v ≠ [] ∧ ∀ c ∈ v, inWord c = true := by
  cases l with
  | nil =>
    refine ⟨fun h => (Bool.noConfusion h), fun h => absurd rfl (h [] List.mem_cons_self).1⟩
  | cons x r =>
    unfold goodLine
    rw [bad_words (x :: r) true 0 (fun _ => List.cons_ne_nil _ _)]
    constructor
    · rintro ⟨w, t, e, hw, ht, hin⟩ v hv
      rw [e] at hv
      refine ⟨?_, hin v hv⟩
      rcases List.mem_cons.mp hv with rfl | hv
      · exact hw rfl
      · exact ht v hv
    · intro h
      obtain ⟨w, t, e⟩ := cut_ex 32 (x :: r)
      rw [e] at h
      exact ⟨w, t, e, fun _ => (h w List.mem_cons_self).1, fun v hv => (h v (List.mem_cons_of_mem _ hv)).1, fun v hv => (h v hv).2⟩
/-- pieces with their places -/
def placed (p : Nat) : List Bytes → List Word
  | [] => []
  | w :: t => ⟨w, p⟩ :: placed (p + w.length + 1) t
theorem words_from : ∀ (l : Bytes) (p : Nat) (w : Bytes), p = p → (∀ v ∈ (cut 32 l).tail, v ≠ []) → (w ++ (cut 32 l).headD []) ≠ [] →
    wordsFrom (p + w.length) w l = placed p ((w ++ (cut 32 l).headD []) :: (cut 32 l).tail)
  | [], p, w, _, _, hw => by
    have hw' : w ≠ [] := by
      intro q
      subst q
      exact hw rfl
    unfold wordsFrom
    rw [if_neg (by simpa using hw')]
    show [(⟨w, p + w.length - w.length⟩ : Word)] = [⟨w ++ [], p⟩]
    rw [List.append_nil, Nat.add_sub_cancel]
  | c :: r, p, w, _, ht, hw => by
    unfold wordsFrom
    obtain ⟨v, t, e⟩ := cut_ex 32 r
    by_cases h : c = 32
    · subst h
      rw [if_pos rfl]
      rw [cut_cons_eq] at ht hw ⊢
      show (⟨w, p + w.length - w.length⟩ : Word) :: _ = ⟨w ++ [], p⟩ :: placed (p + (w ++ []).length + 1) (cut 32 r)
      rw [List.append_nil, Nat.add_sub_cancel]
      have hv : v ≠ [] := ht v (by rw [e]; exact List.mem_cons_self)
      have ih := words_from r (p + w.length + 1) [] rfl (fun x hx => ht x (by rw [e] at hx ⊢; exact List.mem_cons_of_mem _ hx)) (by rw [e]; exact hv)
      rw [List.length_nil, Nat.add_zero] at ih
      rw [ih, e]
      rfl
    · rw [if_neg h]
      rw [cut_cons_ne h e] at ht hw ⊢
      have ih := words_from r p (w ++ [c]) rfl (by rw [e]; exact ht) (by simp)
      rw [List.length_append, List.length_singleton, ← Nat.add_assoc] at ih
      rw [ih, e]
      simp
theorem words_good {l : Bytes} (p : Nat) (h : goodLine l = true) : wordsFrom p [] l = placed p (cut 32 l) := by
  have g := (good_iff l).mp h
  obtain ⟨v, t, e⟩ := cut_ex 32 l
  rw [e] at g
  have z := words_from l p [] rfl (by rw [e]; exact fun x hx => (g x (List.mem_cons_of_mem _ hx)).1) (by rw [e]; exact (g v List.mem_cons_self).1)
  rw [e] at z ⊢
  exact z
theorem placed_tx : ∀ (p : Nat) (l : List Bytes), tx (placed p l) = l
  | _, [] => rfl
  | p, w :: t => by
    show w :: tx (placed _ t) = _
    rw [placed_tx]
end RM
namespace RM
open Tote
def raceW : Bytes := ascii "race"
def poolW : Bytes := ascii "pool"
/-- a line by its words' texts -/
def dayT : List Bytes → Option Card
  | [d, n] => if d = ascii "day" ∧ isName n = true then some { noCard with name := n } else none
  | _ => none
def withPoolT (C : Card) (r : List Bytes) : Option Card := (poolT C.races r).bind fun p => if (C.pools.map fun (p : Pool) => p.name).contains p.name = true then none else some { C with pools := C.pools ++ [p] }
def lineT : Option Card → List Bytes → Option Card
  | none, ws => dayT ws
  | some C, [] => none
  | some C, w :: r => if w = ascii "race" ∧ C.pools = [] then (if 16 ≤ C.races.length then none else (raceT r).map fun x => { C with races := C.races ++ [x] })
    else if w = ascii "pool" ∧ C.races ≠ [] then (if 64 ≤ C.pools.length then none else withPoolT C r) else none
theorem line_T (h : Option Card) (x : Line) : ok? (lineIn h x) = (lineT h (tx x.words)).map some := by
  obtain ⟨ws, e⟩ := x
  unfold lineIn
  match h, ws with
  | none, [] => rfl
  | none, [d] =>
    simp only [next, Except.bind, dayIn]
    by_cases hd : d.w = ascii "day"
    · simp only [hd, if_true]; rfl
    · simp only [hd, if_false]; rfl
  | none, [d, n] =>
    simp only [next, Except.bind, dayIn]
    by_cases hd : d.w = ascii "day"
    · simp only [hd, if_true, ok?_bind, newName_cons]
      by_cases hn : isName n.w = true
      · simp [hn, hd, ok?_closed_nil, lineT, dayT, ok?_pure]
      · simp [hn, lineT, dayT]
    · simp [hd, ok?, lineT, dayT]
  | none, d :: n :: m :: r =>
    simp only [next, Except.bind, dayIn]
    by_cases hd : d.w = ascii "day"
    · simp only [hd, if_true, ok?_bind, newName_cons]
      by_cases hn : isName n.w = true
      · simp [hn, ok?_closed_cons, lineT, dayT]
      · simp [hn, lineT, dayT]
    · simp [hd, ok?, lineT, dayT]
  | some C, [] => rfl
  | some C, w :: r =>
    simp only [next, Except.bind]
    show _ = (lineT (some C) (w.w :: tx r)).map some
    unfold lineT
    dsimp only
    by_cases h1 : w.w = ascii "race" ∧ C.pools = []
    · rw [if_pos h1, if_pos h1]
      by_cases h2 : RACES ≤ C.races.length
      · rw [if_pos h2, if_pos (show 16 ≤ _ from h2)]; rfl
      · rw [if_neg h2, if_neg (show ¬ 16 ≤ _ from h2)]
        unfold withRace
        rw [ok?_map, race_T]
        cases raceT (tx r) <;> rfl
    · rw [if_neg h1, if_neg h1]
      by_cases h2 : w.w = ascii "pool" ∧ C.races ≠ []
      · rw [if_pos h2, if_pos h2]
        by_cases h3 : POOLS ≤ C.pools.length
        · rw [if_pos h3, if_pos (show 64 ≤ _ from h3)]; rfl
        · rw [if_neg h3, if_neg (show ¬ 64 ≤ _ from h3)]
          unfold withPool withPoolT
          rw [ok?_map, pool_T]
          cases poolT C.races (tx r) with
          | none => rfl
          | some p =>
            simp only [Option.bind_some]
            split <;> rfl
      · rw [if_neg h2, if_neg h2]; rfl
def linesT : Option Card → List Bytes → Option (Option Card)
  | h, [] => some h
  | h, [l] => if l = [] then some h else none
  | h, l :: m :: rest => if goodLine l = true then (lineT h (cut 32 l)).bind fun C => linesT (some C) (m :: rest) else none
theorem lines_T : ∀ (k p : Nat) (h : Option Card) (b : Bytes), b.length < k → ok? (linesIn lineIn k p h b) = linesT h (cut 10 b)
  | 0, _, _, _, hk => absurd hk (Nat.not_lt_zero _)
  | k + 1, p, h, b, hk => by
    unfold linesIn
    cases b with
    | nil => rfl
    | cons c r =>
      rw [if_neg (by simp)]
      cases q : upTo (c :: r) with
      | none =>
        rw [upTo_none q]
        rfl
      | some z =>
        obtain ⟨l, s⟩ := z
        obtain ⟨e1, e2, _⟩ := upTo_some q
        have hs : s.length < k := by
          rw [e2, List.length_append, List.length_cons] at hk
          omega
        obtain ⟨v, t, e3⟩ := cut_ex 10 s
        rw [e1, e3]
        unfold linesT
        dsimp only
        cases hb : badByte true 0 l with
        | some i =>
          have : goodLine l = false := by unfold goodLine; rw [hb]; rfl
          rw [this, if_neg (by decide)]
          rfl
        | none =>
          have hg : goodLine l = true := by unfold goodLine; rw [hb]; rfl
          rw [hg, if_pos rfl]
          dsimp only
          have eL := line_T h ⟨wordsFrom p [] l, p + l.length⟩
          rw [words_good p hg] at eL ⊢
          rw [placed_tx] at eL
          cases hL : lineIn h ⟨placed p (cut 32 l), p + l.length⟩ with
          | error e =>
            rw [hL] at eL
            cases hT : lineT h (cut 32 l) with
            | none => rfl
            | some C => rw [hT] at eL; cases eL
          | ok t' =>
            rw [hL] at eL
            cases hT : lineT h (cut 32 l) with
            | none => rw [hT] at eL; cases eL
            | some C =>
              rw [hT] at eL
              have : t' = some C := Option.some.inj eL
              subst this
              dsimp only
              rw [lines_T k _ _ s hs, e3]
              rfl
/-! ### the program's way -/
def stepP (C : Card) (ws : List Bytes) : Option Card := match ws with
  | [] => none
  | w :: r => if w = ascii "race" ∧ C.pools = [] then (raceT r).map fun x => { C with races := C.races ++ [x] } else if w = ascii "pool" then withPoolT C r else none
def foldP (C : Card) (ls : List Bytes) : Option Card := match ls with
  | [] => some C
  | l :: r => (stepP C (cut 32 l)).bind fun D => foldP D r
def fits (C : Card) : Bool := decide (1 ≤ C.races.length) && (decide (C.races.length ≤ 16) && decide (C.pools.length ≤ 64))
def cardP (b : Bytes) : Option Card := match cut 10 b with
  | [] => none
  | d :: ls => if (d :: ls).getLast? = some [] then match (d :: ls).dropLast with
      | [] => none
      | d :: ls => (dayT (cut 32 d)).bind fun C => (foldP C ls).bind fun D => if fits D = true then some D else none
    else none
/-! ### what the program takes has good words alone -/
def goodW (w : Bytes) : Bool := !w.isEmpty && w.all inWord
theorem goodW_iff (w : Bytes) : goodW w = true ↔ w ≠ [] ∧ ∀ c ∈ w, inWord c = true := by
  unfold goodW
  rw [Bool.and_eq_true, List.all_eq_true]
  simp
theorem good_line {l : Bytes} (h : ∀ v ∈ cut 32 l, goodW v = true) : goodLine l = true := (good_iff l).mpr fun v hv => (goodW_iff v).mp (h v hv)
theorem digit_in {c : UInt8} (h : isDigit c = true) : inWord c = true := by
  unfold isDigit at h
  unfold inWord
  simp only [Bool.and_eq_true, decide_eq_true_eq] at h ⊢
  obtain ⟨h1, h2⟩ := h
  rw [UInt8.le_iff_toNat_le] at h1 h2
  rw [UInt8.lt_iff_toNat_lt, UInt8.le_iff_toNat_le]
  have e1 : (48 : UInt8).toNat = 48 := rfl
  have e2 : (57 : UInt8).toNat = 57 := rfl
  have e3 : (32 : UInt8).toNat = 32 := rfl
  have e4 : (126 : UInt8).toNat = 126 := rfl
  omega
theorem small_in {c : UInt8} (h : isSmall c = true) : inWord c = true := by
  unfold isSmall at h
  unfold inWord
  simp only [Bool.and_eq_true, decide_eq_true_eq] at h ⊢
  obtain ⟨h1, h2⟩ := h
  rw [UInt8.le_iff_toNat_le] at h1 h2
  rw [UInt8.lt_iff_toNat_lt, UInt8.le_iff_toNat_le]
  have e1 : (97 : UInt8).toNat = 97 := rfl
  have e2 : (122 : UInt8).toNat = 122 := rfl
  have e3 : (32 : UInt8).toNat = 32 := rfl
  have e4 : (126 : UInt8).toNat = 126 := rfl
  omega
theorem numberOf_parts {w : Bytes} {n : Nat} (h : numberOf w = some n) : w ≠ [] ∧ w.all isDigit = true ∧ (w.head? = some 48 → w = [48]) ∧ n = w.foldl (fun (n : Nat) (c : UInt8) => 10 * n + (c.toNat - 48)) 0 := by
  unfold numberOf at h
  split at h
  · cases h
  · rename_i hh
    simp only [not_or, not_and, Decidable.not_not] at hh
    obtain ⟨h1, h2, h3⟩ := hh
    refine ⟨fun q => h1 (by rw [q]; rfl), by simpa using h2, fun q => h3 q, (Option.some.inj h).symm⟩
theorem bnd_num {lo hi n : Nat} {w : Bytes} (h : bnd lo hi w = some n) : numberOf w = some n ∧ lo ≤ n ∧ n ≤ hi := by
  unfold bnd at h
  split at h
  · cases h
  · rename_i m hm
    split at h
    · cases h
    · cases h
      exact ⟨hm, by omega, by omega⟩
theorem bnd_good {lo hi n : Nat} {w : Bytes} (h : bnd lo hi w = some n) : goodW w = true := by
  obtain ⟨h1, h2, _⟩ := numberOf_parts (bnd_num h).1
  rw [goodW_iff]
  exact ⟨h1, fun c hc => digit_in (List.all_eq_true.mp h2 c hc)⟩
theorem name_good {w : Bytes} (h : isName w = true) : goodW w = true := by
  unfold isName at h
  simp only [Bool.and_eq_true, decide_eq_true_eq] at h
  rw [goodW_iff]
  refine ⟨fun q => by rw [q] at h; exact absurd h.1 (by decide), fun c hc => ?_⟩
  have := List.all_eq_true.mp h.2.2.1 c hc
  rcases Bool.or_eq_true_iff.mp this with q | q
  · exact small_in q
  · exact digit_in q
theorem find_good {α : Type} {L : List (α × String)} {w : Bytes} {a : α} (hL : ∀ y ∈ L, goodW (ascii y.2) = true) (h : (L.find? fun (y : α × String) => ascii y.2 == w).map (·.1) = some a) : goodW w = true := by
  obtain ⟨y, hy, _⟩ := Option.map_eq_some_iff.mp h
  have e : ascii y.2 = w := by
    have := List.find?_some hy
    exact eq_of_beq this
  rw [← e]
  exact hL y (List.mem_of_find?_eq_some hy)
theorem couples_good {runners : Nat} : ∀ {k : Nat} {had c : List (Nat × Nat)} {l : List Bytes}, couplesT runners k had l = some c → ∀ v ∈ l, goodW v = true
  | _, _, _, [], _, v, hv => nomatch hv
  | 0, _, _, _ :: _, h, _, _ => by simp [couplesT] at h
  | k + 1, _, _, [_], h, _, _ => by simp [couplesT] at h
  | k + 1, _, _, [_, _], h, _, _ => by simp [couplesT] at h
  | k + 1, had, c, w :: a :: b :: l, h, v, hv => by
    unfold couplesT at h
    split at h
    · rename_i hw
      split at h
      · cases h
      · rename_i x hx
        split at h
        · cases h
        · split at h
          · cases h
          · rename_i y hy
            split at h
            · rcases List.mem_cons.mp hv with rfl | hv
              · rw [hw]; decide
              · rcases List.mem_cons.mp hv with rfl | hv
                · exact bnd_good hx
                · rcases List.mem_cons.mp hv with rfl | hv
                  · exact bnd_good hy
                  · exact couples_good h v hv
            · cases h
    · cases h
theorem race_good {r : Race} : ∀ {l : List Bytes}, raceT l = some r → ∀ v ∈ l, goodW v = true
  | [], h, _, _ => nomatch h
  | n :: cs, h, v, hv => by
    unfold raceT at h
    dsimp only at h
    cases hn : bnd 2 24 n with
    | none => rw [hn] at h; cases h
    | some m =>
      rw [hn] at h
      obtain ⟨c, hc, _⟩ := Option.map_eq_some_iff.mp h
      rcases List.mem_cons.mp hv with rfl | hv
      · exact bnd_good hn
      · exact couples_good hc v hv
theorem pool_parts {races : List Race} {r : List Bytes} {p : Pool} (h : poolT races r = some p) : ∃ nm kd k rc tk bk ls un nn, r = [nm, kd, k, ascii "from", rc, ascii "take", tk, ascii "break", bk, ascii "least", ls, ascii "unit", un, ascii "none", nn] ∧
    isName nm = true ∧ kindT kd = some p.kind ∧ bnd (leastK p.kind) (mostK p.kind) k = some p.k ∧ bnd 1 races.length rc = some p.race ∧ bnd 0 400 tk = some p.take ∧ bnd 1 1000 bk = some p.brk ∧ bnd 0 20000 ls = some p.least ∧ bnd 1 10000 un = some p.unit ∧ noneT p.kind nn = some p.none_ ∧ p.name = nm ∧
    (p.kind != .legs || decide (p.race + p.k ≤ races.length + 1)) = true ∧ (p.kind == .legs || ((races[p.race - 1]?).map fun (x : Race) => decide (p.k ≤ x.heads.length)).getD false) = true ∧ (p.least == 0 || inside p.unit (2 * p.unit) p.least) = true := by
  unfold poolT at h
  split at h
  · rename_i nm kd k w1 rc w2 tk w3 bk w4 ls w5 un w6 nn
    simp only [Option.ite_none_right_eq_some, Option.bind_eq_some_iff, Option.some.injEq] at h
    obtain ⟨hn, kd', hkd, k', hk, h1, rc', hrc, hl, hh, h2, tk', htk, h3, bk', hbk, h4, ls', hls, h5, un', hun, hlu, h6, nn', hnn, rfl⟩ := h
    subst h1 h2 h3 h4 h5 h6
    exact ⟨nm, kd, k, rc, tk, bk, ls, un, nn, rfl, hn, hkd, hk, hrc, htk, hbk, hls, hun, hnn, rfl, hl, hh, hlu⟩
  · cases h
theorem kinds_good : ∀ y ∈ KINDS, goodW (ascii y.2) = true := by decide
theorem nones_good (kd : Kind) : ∀ y ∈ (if kd = .place then NONES.take 2 else NONES), goodW (ascii y.2) = true := by
  cases kd <;> decide
theorem pool_good {races : List Race} {r : List Bytes} {p : Pool} (h : poolT races r = some p) : ∀ v ∈ r, goodW v = true := by
  obtain ⟨nm, kd, k, rc, tk, bk, ls, un, nn, rfl, hn, hkd, hk, hrc, htk, hbk, hls, hun, hnn, _⟩ := pool_parts h
  intro v hv
  simp only [List.mem_cons, List.not_mem_nil, or_false] at hv
  rcases hv with rfl | rfl | rfl | rfl | rfl | rfl | rfl | rfl | rfl | rfl | rfl | rfl | rfl | rfl | rfl
  · exact name_good hn
  · exact find_good kinds_good hkd
  · exact bnd_good hk
  · decide
  · exact bnd_good hrc
  · decide
  · exact bnd_good htk
  · decide
  · exact bnd_good hbk
  · decide
  · exact bnd_good hls
  · decide
  · exact bnd_good hun
  · decide
  · exact find_good (nones_good _) hnn
theorem step_good {C D : Card} {l : Bytes} (h : stepP C (cut 32 l) = some D) : goodLine l = true := by
  refine good_line fun v hv => ?_
  obtain ⟨w, r, e⟩ := cut_ex 32 l
  rw [e] at h hv
  unfold stepP at h
  dsimp only at h
  split at h
  · rename_i hw
    obtain ⟨x, hx, _⟩ := Option.map_eq_some_iff.mp h
    rcases List.mem_cons.mp hv with rfl | hv
    · rw [hw.1]; decide
    · exact race_good hx v hv
  · split at h
    · rename_i hw
      obtain ⟨x, hx, _⟩ := Option.bind_eq_some_iff.mp h
      rcases List.mem_cons.mp hv with rfl | hv
      · rw [hw]; decide
      · exact pool_good hx v hv
    · cases h
theorem day_good {C : Card} {l : Bytes} (h : dayT (cut 32 l) = some C) : goodLine l = true := by
  refine good_line fun v hv => ?_
  unfold dayT at h
  split at h
  · rename_i d n e
    rw [e] at hv
    split at h
    · rename_i hd
      simp only [List.mem_cons, List.not_mem_nil, or_false] at hv
      rcases hv with rfl | rfl
      · rw [hd.1]; decide
      · exact name_good hd.2
    · cases h
  · cases h
theorem day_card {C : Card} {l : List Bytes} (h : dayT l = some C) : C.races = [] ∧ C.pools = [] := by
  unfold dayT at h
  split at h
  · split at h
    · cases h; exact ⟨rfl, rfl⟩
    · cases h
  · cases h
theorem step_more {C D : Card} {ws : List Bytes} (h : stepP C ws = some D) : C.races.length ≤ D.races.length ∧ C.pools.length ≤ D.pools.length := by
  unfold stepP at h
  split at h
  · cases h
  · split at h
    · obtain ⟨x, _, rfl⟩ := Option.map_eq_some_iff.mp h
      exact ⟨by simp, by simp⟩
    · split at h
      · unfold withPoolT at h
        obtain ⟨x, _, h⟩ := Option.bind_eq_some_iff.mp h
        split at h
        · cases h
        · cases h
          exact ⟨by simp, by simp⟩
      · cases h
theorem fold_more : ∀ {ls : List Bytes} {C D : Card}, foldP C ls = some D → C.races.length ≤ D.races.length ∧ C.pools.length ≤ D.pools.length
  | [], C, D, h => by
    cases h
    exact ⟨Nat.le_refl _, Nat.le_refl _⟩
  | l :: r, C, D, h => by
    obtain ⟨E, h1, h2⟩ := Option.bind_eq_some_iff.mp h
    have a := step_more h1
    have b := fold_more h2
    omega
theorem pool_noraces {r : List Bytes} : poolT [] r = none := by
  cases h : poolT [] r with
  | none => rfl
  | some p =>
    obtain ⟨_, _, _, _, _, _, _, _, _, _, _, _, _, hrc, _⟩ := pool_parts h
    have := bnd_num hrc
    simp only [List.length_nil] at this
    omega
def small (C : Card) : Prop := C.races.length ≤ 16 ∧ C.pools.length ≤ 64
theorem line_step {C : Card} {l : Bytes} (hs : small C) : (if goodLine l = true then lineT (some C) (cut 32 l) else none) = (stepP C (cut 32 l)).bind fun D => if D.races.length ≤ 16 ∧ D.pools.length ≤ 64 then some D else none := by
  cases hg : goodLine l with
  | false =>
    rw [if_neg (by decide)]
    cases h : stepP C (cut 32 l) with
    | none => rfl
    | some D => rw [step_good h] at hg; cases hg
  | true =>
    rw [if_pos rfl]
    obtain ⟨w, r, e⟩ := cut_ex 32 l
    rw [e]
    unfold lineT stepP
    dsimp only
    by_cases h1 : w = ascii "race" ∧ C.pools = []
    · rw [if_pos h1, if_pos h1]
      cases hr : raceT r with
      | none => simp
      | some x =>
        simp only [Option.map_some, Option.bind_some, List.length_append, List.length_singleton]
        by_cases h2 : 16 ≤ C.races.length
        · rw [if_pos h2, if_neg (by omega)]
        · rw [if_neg h2, if_pos ⟨by omega, hs.2⟩]
    · rw [if_neg h1, if_neg h1]
      by_cases h2 : w = ascii "pool"
      · by_cases h3 : C.races = []
        · rw [if_neg (fun q => q.2 h3), if_pos h2]
          unfold withPoolT
          rw [h3, pool_noraces]
          rfl
        · rw [if_pos ⟨h2, h3⟩, if_pos h2]
          cases hp : withPoolT C r with
          | none => simp
          | some D =>
            have hD : D.races = C.races ∧ D.pools.length = C.pools.length + 1 := by
              unfold withPoolT at hp
              obtain ⟨x, _, hp⟩ := Option.bind_eq_some_iff.mp hp
              split at hp
              · cases hp
              · cases hp
                exact ⟨rfl, by simp⟩
            simp only [Option.bind_some]
            by_cases h4 : 64 ≤ C.pools.length
            · rw [if_pos h4, if_neg (by omega)]
            · rw [if_neg h4, if_pos ⟨by rw [hD.1]; exact hs.1, by omega⟩]
      · rw [if_neg (fun q => h2 q.1), if_neg h2]
        rfl
theorem linesT_fold : ∀ (ls : List Bytes) (C : Card), small C → linesT (some C) (ls ++ [[]]) = (foldP C ls).bind fun D => if D.races.length ≤ 16 ∧ D.pools.length ≤ 64 then some (some D) else none
  | [], C, hs => by
    show some (some C) = if C.races.length ≤ 16 ∧ C.pools.length ≤ 64 then _ else _
    rw [if_pos (show C.races.length ≤ 16 ∧ C.pools.length ≤ 64 from hs)]
  | l :: r, C, hs => by
    have e : linesT (some C) (l :: r ++ [[]]) = (if goodLine l = true then lineT (some C) (cut 32 l) else none).bind fun D => linesT (some D) (r ++ [[]]) := by
      obtain ⟨m, rest, e⟩ : ∃ m rest, r ++ [[]] = m :: rest := by
        cases r with
        | nil => exact ⟨_, _, rfl⟩
        | cons a b => exact ⟨_, _, rfl⟩
      rw [List.cons_append, e]
      show (if goodLine l = true then _ else _) = _
      split <;> rfl
    rw [e, line_step hs]
    show _ = ((stepP C (cut 32 l)).bind fun D => foldP D r).bind _
    cases hst : stepP C (cut 32 l) with
    | none => rfl
    | some D =>
      simp only [Option.bind_some]
      by_cases hD : D.races.length ≤ 16 ∧ D.pools.length ≤ 64
      · rw [if_pos hD]
        exact linesT_fold r D hD
      · rw [if_neg hD]
        cases hf : foldP D r with
        | none => rfl
        | some F =>
          have := fold_more hf
          show none = if _ then _ else _
          rw [if_neg (by omega)]
theorem linesT_last {h : Option Card} : ∀ {ls : List Bytes} {v : Bytes}, v ≠ [] → linesT h (ls ++ [v]) = none
  | [], v, hv => by
    show (if v = [] then _ else _) = _
    rw [if_neg hv]
  | l :: r, v, hv => by
    obtain ⟨m, rest, e⟩ : ∃ m rest, r ++ [v] = m :: rest := by
      cases r with
      | nil => exact ⟨_, _, rfl⟩
      | cons a b => exact ⟨_, _, rfl⟩
    rw [List.cons_append, e]
    unfold linesT
    split
    · cases lineT h (cut 32 l) with
      | none => rfl
      | some C =>
        show linesT (some C) (m :: rest) = none
        rw [← e]
        exact linesT_last hv
    · rfl
/-- the program's reading of a card is the document's -/
theorem card_is (b : Bytes) : ok? (readCard b) = cardP b := by
  have e0 : ok? (readCard b) = (linesT none (cut 10 b)).bind fun h => h.bind fun C => if C.races = [] then none else some C := by
    rw [← lines_T (b.length + 1) 0 none b (Nat.lt_succ_self _)]
    unfold readCard
    cases linesIn lineIn (b.length + 1) 0 none b with
    | error e => rfl
    | ok h =>
      cases h with
      | none => rfl
      | some C =>
        dsimp only
        simp only [ok?_ok, Option.bind_some]
        split <;> rfl
  rw [e0]
  unfold cardP
  obtain ⟨d, ls, e⟩ := cut_ex 10 b
  rw [e]
  dsimp only
  have split_ : d :: ls = (d :: ls).dropLast ++ [(d :: ls).getLast (List.cons_ne_nil _ _)] := (List.dropLast_concat_getLast _).symm
  have last_ : (d :: ls).getLast? = some ((d :: ls).getLast (List.cons_ne_nil _ _)) := List.getLast?_eq_some_getLast _
  rw [last_]
  generalize hv : (d :: ls).getLast (List.cons_ne_nil _ _) = v at split_
  generalize hd : (d :: ls).dropLast = D at split_
  rw [split_]
  by_cases hvn : v = []
  · subst hvn
    rw [if_pos rfl]
    cases D with
    | nil => rfl
    | cons d ls =>
      have e1 : linesT none (d :: ls ++ [[]]) = (if goodLine d = true then dayT (cut 32 d) else none).bind fun D => linesT (some D) (ls ++ [[]]) := by
        obtain ⟨m, rest, e⟩ : ∃ m rest, ls ++ [[]] = m :: rest := by
          cases ls with
          | nil => exact ⟨_, _, rfl⟩
          | cons a b => exact ⟨_, _, rfl⟩
        rw [List.cons_append, e]
        show (if goodLine d = true then _ else _) = _
        split <;> rfl
      rw [e1]
      dsimp only
      cases hday : dayT (cut 32 d) with
      | none =>
        split <;> rfl
      | some C =>
        rw [day_good hday, if_pos rfl]
        simp only [Option.bind_some]
        obtain ⟨hr, hp⟩ := day_card hday
        rw [linesT_fold ls C ⟨by rw [hr]; exact Nat.zero_le _, by rw [hp]; exact Nat.zero_le _⟩]
        cases foldP C ls with
        | none => rfl
        | some F =>
          simp only [Option.bind_some]
          unfold fits
          by_cases h1 : F.races.length ≤ 16 ∧ F.pools.length ≤ 64
          · rw [if_pos h1]
            simp only [Option.bind_some]
            by_cases h2 : F.races = []
            · rw [if_pos h2, if_neg]
              rw [h2]
              simp
            · rw [if_neg h2, if_pos]
              have : 1 ≤ F.races.length := List.length_pos_iff.mpr h2
              simp [this, h1.1, h1.2]
          · rw [if_neg h1, if_neg]
            · rfl
            · simp only [Bool.and_eq_true, decide_eq_true_eq]
              intro q
              exact h1 q.2
  · rw [if_neg (fun q => hvn (Option.some.inj q)), linesT_last hvn]
    rfl
end RM
namespace RM
open Tote
/-! ### a group's or a set's word -/
def runsM : Nat → Nat → List Nat → List Bytes → Option (List Nat)
  | _, _, _, [] => some []
  | lo, hi, had, p :: t => match bnd lo hi p with
    | none => none
    | some n => if had.contains n = true then none else (runsM (n + 1) hi had t).map fun l => n :: l
def Fine (lo hi : Nat) (had l : List Nat) : Prop := (∀ x, l.head? = some x → lo ≤ x) ∧ risesN l = true ∧ ∀ n ∈ l, n ≤ hi ∧ had.contains n = false
noncomputable instance (lo hi : Nat) (had l : List Nat) : Decidable (Fine lo hi had l) := Classical.propDecidable _
theorem fine_cons {lo hi n : Nat} {had l : List Nat} : Fine lo hi had (n :: l) ↔ (lo ≤ n ∧ n ≤ hi ∧ had.contains n = false) ∧ Fine (n + 1) hi had l := by
  unfold Fine
  constructor
  · rintro ⟨h1, h2, h3⟩
    refine ⟨⟨h1 n rfl, (h3 n List.mem_cons_self).1, (h3 n List.mem_cons_self).2⟩, ?_, ?_, fun m hm => h3 m (List.mem_cons_of_mem _ hm)⟩
    · intro x hx
      cases l with
      | nil => cases hx
      | cons y t =>
        obtain rfl : y = x := Option.some.inj hx
        have : (decide (n < y) && risesN (y :: t)) = true := h2
        rw [Bool.and_eq_true, decide_eq_true_eq] at this
        exact this.1
    · cases l with
      | nil => rfl
      | cons y t =>
        have : (decide (n < y) && risesN (y :: t)) = true := h2
        rw [Bool.and_eq_true] at this
        exact this.2
  · rintro ⟨⟨h1, h2, h3⟩, h4, h5, h6⟩
    refine ⟨fun x hx => by cases hx; exact h1, ?_, fun m hm => ?_⟩
    · cases l with
      | nil => rfl
      | cons y t =>
        show (decide (n < y) && risesN (y :: t)) = true
        rw [Bool.and_eq_true, decide_eq_true_eq]
        exact ⟨h4 y rfl, h5⟩
    · rcases List.mem_cons.mp hm with rfl | hm
      · exact ⟨h2, h3⟩
      · exact h6 m hm
theorem runs_is : ∀ (ps : List Bytes) (lo hi : Nat) (had : List Nat), runsM lo hi had ps = (ps.mapM numberOf).bind fun l => if Fine lo hi had l then some l else none
  | [], lo, hi, had => by
    have : Fine lo hi had [] := ⟨fun x h => (by cases h), rfl, fun n h => absurd h List.not_mem_nil⟩
    rw [List.mapM_nil]
    show some [] = if Fine lo hi had [] then some [] else none
    rw [if_pos this]
  | p :: t, lo, hi, had => by
    rw [List.mapM_cons]
    unfold runsM bnd
    cases hn : numberOf p with
    | none => rfl
    | some n =>
      have ih := runs_is t (n + 1) hi had
      dsimp only
      simp only [bind, Option.bind, pure]
      by_cases h1 : n < lo ∨ hi < n
      · rw [if_pos h1]
        dsimp only
        cases t.mapM numberOf with
        | none => rfl
        | some l =>
          dsimp only
          rw [if_neg (fun q => by have := (fine_cons.mp q).1; omega)]
      · rw [if_neg h1]
        dsimp only
        rw [ih]
        cases t.mapM numberOf with
        | none =>
          dsimp only [Option.bind, Option.map]
          split <;> rfl
        | some l =>
          dsimp only [Option.bind]
          by_cases h2 : had.contains n = true
          · rw [if_pos h2, if_neg (fun q => by have := (fine_cons.mp q).1.2.2; rw [h2] at this; cases this)]
          · rw [if_neg h2]
            by_cases h3 : Fine (n + 1) hi had l
            · rw [if_pos h3, if_pos (fine_cons.mpr ⟨⟨by omega, by omega, by simpa using h2⟩, h3⟩)]
              rfl
            · rw [if_neg h3, if_neg (fun q => h3 (fine_cons.mp q).2)]
              rfl
theorem cut_fold (s : UInt8) : ∀ (l : Bytes) (acc : List Bytes) (cur : Bytes), ∀ w t, cut s l = w :: t →
    (let z := l.foldl (fun (z : List Bytes × Bytes) (c : UInt8) => if c = s then (z.1 ++ [z.2], []) else (z.1, z.2 ++ [c])) (acc, cur); z.1 ++ [z.2]) = acc ++ (cur ++ w) :: t
  | [], acc, cur, w, t, e => by
    obtain ⟨rfl, rfl⟩ := List.cons.inj e
    simp
  | x :: r, acc, cur, w, t, e => by
    obtain ⟨v, u, e'⟩ := cut_ex s r
    rw [List.foldl_cons]
    by_cases h : x = s
    · subst h
      rw [cut_cons_eq, e'] at e
      obtain ⟨rfl, rfl⟩ := List.cons.inj e
      rw [if_pos rfl]
      rw [cut_fold x r _ _ v u e']
      simp
    · rw [cut_cons_ne h e'] at e
      obtain ⟨rfl, rfl⟩ := List.cons.inj e
      rw [if_neg h]
      rw [cut_fold s r _ _ v u e']
      simp
theorem part_is (s : UInt8) (runners : Nat) (had : List Nat) (w : Word) : partIn s runners had w = match runsM 1 runners had (cut s w.w) with
    | none => .error ⟨4, w.at_⟩
    | some l => .ok l := by
  obtain ⟨v, t, e⟩ := cut_ex s w.w
  have z := cut_fold s w.w [] [] v t e
  rw [List.nil_append, List.nil_append, ← e] at z
  unfold partIn
  dsimp only at z ⊢
  rw [z, runs_is]
  cases (cut s w.w).mapM numberOf with
  | none => rfl
  | some l =>
    dsimp only [Option.bind]
    by_cases h : Fine 1 runners had l
    · rw [if_pos h, if_pos]
      refine ⟨h.2.1, List.all_eq_true.mpr fun n hn => ?_⟩
      have hr : 1 ≤ n := by
        have mono : ∀ (l : List Nat) (a : Nat), (∀ x, l.head? = some x → a ≤ x) → risesN l = true → ∀ n ∈ l, a ≤ n := by
          intro l
          induction l with
          | nil => intro a _ _ n hn; nomatch hn
          | cons y t ih =>
            intro a h1 h2 n hn
            have hy := h1 y rfl
            rcases List.mem_cons.mp hn with rfl | hn
            · exact hy
            · refine ih a (fun x hx => ?_) ?_ n hn
              · cases t with
                | nil => cases hx
                | cons x' u =>
                  obtain rfl : x' = x := Option.some.inj hx
                  have q : (decide (y < x') && risesN (x' :: u)) = true := h2
                  rw [Bool.and_eq_true, decide_eq_true_eq] at q
                  omega
              · cases t with
                | nil => rfl
                | cons x' u =>
                  have q : (decide (y < x') && risesN (x' :: u)) = true := h2
                  rw [Bool.and_eq_true] at q
                  exact q.2
        exact mono l 1 h.1 h.2.1 n hn
      have := h.2.2 n hn
      rw [decide_eq_true hr, decide_eq_true this.1, this.2]
      rfl
    · rw [if_neg h, if_neg]
      rintro ⟨q1, q2⟩
      have q3 := fun n hn => List.all_eq_true.mp q2 n hn
      refine h ⟨fun x hx => ?_, q1, fun n hn => ?_⟩
      · have := q3 x (List.mem_of_mem_head? hx)
        simp only [Bool.and_eq_true, decide_eq_true_eq] at this
        exact this.1
      · have := q3 n hn
        simp only [Bool.and_eq_true, decide_eq_true_eq, Bool.not_eq_true'] at this
        exact ⟨this.2.1, this.2.2⟩
/-! ### a line of a result -/
def raceNoM (e R above : Nat) : List Word → Except Fault (Nat × List Word)
  | [] => .error ⟨3, e⟩
  | w :: r => if w.w = ascii "race" then match r with
      | [] => .error ⟨3, e⟩
      | n :: r => match bnd 1 R n.w with
        | none => .error ⟨4, n.at_⟩
        | some m => if above < m then .ok (m, r) else .error ⟨4, n.at_⟩
    else .error ⟨3, w.at_⟩
def arrM (e runners : Nat) : List Word → Except Fault Came
  | [] => .error ⟨3, e⟩
  | w :: r => if w.w = ascii "void" then match r with
      | [] => .ok .void
      | x :: _ => .error ⟨3, x.at_⟩
    else if w.w = ascii "came" then groupsIn e runners [] r else .error ⟨3, w.at_⟩
def runnersOf (C : Card) (n : Nat) : Nat := ((C.races[n - 1]?).map fun (r : Race) => r.runners).get!
theorem came_is (C : Card) (h : Result) (ws : List Word) (e : Nat) : C.cameIn h ⟨ws, e⟩ = match raceNoM e C.races.length h.length ws with
    | .error f => .error f
    | .ok (n, r) => match arrM e (runnersOf C n) r with
      | .error f => .error f
      | .ok c => .ok (h ++ List.replicate (n - 1 - h.length) Came.open_ ++ [c]) := by
  unfold Card.cameIn
  match ws with
  | [] => rfl
  | w :: r =>
    dsimp only
    rw [must_cons]
    unfold raceNoM
    dsimp only
    by_cases h1 : w.w = ascii "race"
    · rw [if_pos h1, if_pos h1]
      match r with
      | [] => rfl
      | n :: r =>
        simp only [bind, Except.bind, number_cons]
        cases hb : bnd 1 C.races.length n.w with
        | none => rfl
        | some m =>
          dsimp only [holds]
          by_cases h2 : h.length < m
          · rw [if_pos h2, if_pos (decide_eq_true h2)]
            dsimp only
            match r with
            | [] => rfl
            | x :: r =>
              dsimp only [Tote.next, arrM]
              by_cases h3 : x.w = ascii "void"
              · rw [if_pos h3, if_pos h3]
                cases r <;> rfl
              · rw [if_neg h3, if_neg h3]
                by_cases h4 : x.w = ascii "came"
                · rw [if_pos h4, if_pos h4]
                  unfold runnersOf
                  cases groupsIn e _ [] r <;> rfl
                · rw [if_neg h4, if_neg h4]
          · rw [if_neg h2, if_neg (by simpa using h2)]
    · rw [if_neg h1, if_neg h1]
      rfl
theorem fuel_same {σ : Type} {f : σ → Line → Except Fault σ} : ∀ (k j p : Nat) (s : σ) (b : Bytes), b.length < k → b.length < j → linesIn f k p s b = linesIn f j p s b
  | 0, _, _, _, _, h, _ => absurd h (Nat.not_lt_zero _)
  | _ + 1, 0, _, _, _, _, h => absurd h (Nat.not_lt_zero _)
  | k + 1, j + 1, p, s, b, hk, hj => by
    unfold linesIn
    split
    · rfl
    · split
      · rfl
      · rename_i l r q
        have e2 := (upTo_some q).2.1
        have hs : r.length < k ∧ r.length < j := by
          have := congrArg List.length e2
          rw [List.length_append, List.length_cons] at this
          omega
        split
        · rfl
        · split
          · rfl
          · exact fuel_same k j _ _ r hs.1 hs.2
def linesR {σ : Type} (f : σ → Line → Except Fault σ) (p : Nat) (s : σ) (b : Bytes) : Except Fault σ := linesIn f (b.length + 1) p s b
theorem linesR_nil {σ : Type} {f : σ → Line → Except Fault σ} (p : Nat) (s : σ) : linesR f p s [] = .ok s := rfl
theorem linesR_none {σ : Type} {f : σ → Line → Except Fault σ} {p : Nat} {s : σ} {b : Bytes} (hb : b ≠ []) (h : upTo b = none) : linesR f p s b = .error ⟨1, p + b.length⟩ := by
  unfold linesR linesIn
  rw [if_neg (by simpa using hb), h]
theorem linesR_bad {σ : Type} {f : σ → Line → Except Fault σ} {p i : Nat} {s : σ} {b l r : Bytes} (h : upTo b = some (l, r)) (hi : badByte true 0 l = some i) : linesR f p s b = .error ⟨2, p + i⟩ := by
  unfold linesR linesIn
  have : b ≠ [] := by
    intro q
    subst q
    cases h
  rw [if_neg (by simpa using this), h]
  dsimp only
  rw [hi]
theorem linesR_line {σ : Type} {f : σ → Line → Except Fault σ} {p : Nat} {s : σ} {b l r : Bytes} (h : upTo b = some (l, r)) (hg : badByte true 0 l = none) : linesR f p s b = match f s ⟨placed p (cut 32 l), p + l.length⟩ with
    | .error e => .error e
    | .ok t => linesR f (p + l.length + 1) t r := by
  unfold linesR
  rw [linesIn]
  have : b ≠ [] := by
    intro q
    subst q
    cases h
  rw [if_neg (by simpa using this), h]
  dsimp only
  rw [hg]
  dsimp only
  rw [words_good p (show goodLine l = true by unfold goodLine; rw [hg]; rfl)]
  have e2 := (upTo_some h).2.1
  have hs : r.length < b.length := by
    have := congrArg List.length e2
    rw [List.length_append, List.length_cons] at this
    omega
  cases f s ⟨placed p (cut 32 l), p + l.length⟩ with
  | error e => rfl
  | ok t => exact fuel_same _ _ _ _ r hs (Nat.lt_succ_self _)
end RM
/-! # Texts of bytes, as the program keeps them -/
namespace RT
open PySem PySem.Builtin PySem.Builtin.Str
open Tote (Bytes ascii isDigit numberOf isName isSmall)
open RM (cut)
/-- the signs that the program tells apart -/
def sgn : List Nat := [10, 32, 44, 61, 48, 49, 50, 51, 52, 53, 54, 55, 56, 57, 97, 98, 99, 100, 101, 102, 103, 104, 105, 106, 107, 108, 109, 110, 111, 112, 113, 114, 115, 116, 117, 118, 119, 120, 121, 122]
def dec (c : Nat) : Nat := if sgn.contains c = true then c else 63
def dz (c : UInt8) : Nat := dec c.toNat
def T (w : Bytes) : Str := SX.S (w.map dz)
theorem all_bytes {P : UInt8 → Prop} (h : ∀ n : Nat, n < 256 → P (UInt8.ofNat n)) (c : UInt8) : P c := by
  have := h c.toNat c.toNat_lt
  rw [UInt8.ofNat_toNat] at this
  exact this
theorem T_len (w : Bytes) : (T w).length = w.length := by
  unfold T
  rw [SX.S_len, List.length_map]
theorem T_nil : T [] = ⟨#[]⟩ := rfl
theorem dz_digit (c : UInt8) : Unicode.isDigit (dz c) = isDigit c := all_bytes (P := fun c => Unicode.isDigit (dz c) = isDigit c) (by decide +kernel) c
theorem dz_same (c : UInt8) (h : isDigit c = true ∨ isSmall c = true) : dz c = c.toNat := all_bytes (P := fun c => isDigit c = true ∨ isSmall c = true → dz c = c.toNat) (by decide +kernel) c h
theorem dz_small (c : UInt8) : dz c < 128 := all_bytes (P := fun c => dz c < 128) (by decide +kernel) c
/-- a sign that is told apart -/
def told (v : UInt8) : Bool := sgn.contains v.toNat
theorem dz_iff (c v : UInt8) (h : told v = true) : dz c = v.toNat ↔ c = v := by
  unfold dz dec
  constructor
  · intro e
    split at e
    · exact UInt8.toNat_inj.mp e
    · unfold told at h
      rw [← e] at h
      exact absurd h (by decide)
  · rintro rfl
    exact if_pos h
theorem told_dz (v : UInt8) (h : told v = true) : dz v = v.toNat := (dz_iff v v h).mpr rfl
theorem map_dz_iff : ∀ (w v : Bytes), v.all told = true → (w.map dz = v.map UInt8.toNat ↔ w = v)
  | [], [], _ => ⟨fun _ => rfl, fun _ => rfl⟩
  | [], _ :: _, _ => ⟨fun h => by simp at h, fun h => by simp at h⟩
  | _ :: _, [], _ => ⟨fun h => by simp at h, fun h => by simp at h⟩
  | c :: w, x :: v, h => by
    rw [List.all_cons, Bool.and_eq_true] at h
    rw [List.map_cons, List.map_cons, List.cons.injEq, List.cons.injEq, dz_iff c x h.1, map_dz_iff w v h.2]
/-- a written text -/
theorem T_lit {s : String} {v : Bytes} (h : v.all told = true) (e : Str.ofString s = SX.S (v.map UInt8.toNat)) (w : Bytes) : T w = Str.ofString s ↔ w = v := by
  rw [e]
  unfold T
  constructor
  · intro q
    exact (map_dz_iff w v h).mp (SX.S_inj q)
  · intro q
    rw [(map_dz_iff w v h).mpr q]
/-! ### parts -/
theorem cut_map (v : UInt8) (h : told v = true) : ∀ (l : Bytes) (acc : List Nat), ∀ w t, cut v l = w :: t → TL.spl [v.toNat] 0 acc (l.map dz) = (acc ++ w.map dz) :: t.map (fun x => x.map dz)
  | [], acc, w, t, e => by
    obtain ⟨rfl, rfl⟩ := List.cons.inj e
    rw [List.map_nil, TL.spl_nil]
    simp
  | c :: r, acc, w, t, e => by
    obtain ⟨w', t', e'⟩ := RM.cut_ex v r
    rw [List.map_cons]
    by_cases hc : c = v
    · subst hc
      rw [RM.cut_cons_eq, e'] at e
      obtain ⟨rfl, rfl⟩ := List.cons.inj e
      rw [told_dz c h, TL.spl_hit (by unfold TL.pre; simp)]
      show (acc :: TL.spl [c.toNat] 0 [] (r.map dz)) = _
      rw [cut_map c h r [] w' t' e']
      simp
    · rw [RM.cut_cons_ne hc e'] at e
      obtain ⟨rfl, rfl⟩ := List.cons.inj e
      rw [TL.spl_miss (TL.pre_of_head _ _ fun q => hc ((dz_iff c v h).mp q))]
      rw [cut_map v h r _ w' t' e']
      simp
theorem split_T {v : UInt8} (h : told v = true) (l : Bytes) {s : Str} (hs : s = SX.S [v.toNat]) : Txt.split (T l) s = (cut v l).map T := by
  subst hs
  obtain ⟨w, t, e⟩ := RM.cut_ex v l
  unfold T
  rw [SX.split_S (List.cons_ne_nil _ _) (by simpa using Nat.lt_of_lt_of_le v.toNat_lt (by decide)), cut_map v h l [] w t e, e]
  simp [T]
/-! ### numbers -/
theorem isdigit_T (w : Bytes) : Txt.isdigit (T w) = (!w.isEmpty && w.all isDigit) := by
  unfold Txt.isdigit
  have e1 : (T w).cps.all Unicode.isDigit = w.all isDigit := by
    unfold T
    rw [← Array.all_toList]
    show (w.map dz).all Unicode.isDigit = _
    rw [List.all_map]
    congr 1
    funext c
    exact dz_digit c
  rw [e1, T_len]
  cases w <;> simp
theorem fold_digits : ∀ (w : Bytes) (a : Nat), w.all isDigit = true → (w.map dz).foldl (fun (a : Nat) (c : Nat) => 10 * a + (c - 48)) a = w.foldl (fun (n : Nat) (c : UInt8) => 10 * n + (c.toNat - 48)) a
  | [], _, _ => rfl
  | c :: w, a, h => by
    rw [List.all_cons, Bool.and_eq_true] at h
    rw [List.map_cons, List.foldl_cons, List.foldl_cons, dz_same c (.inl h.1)]
    exact fold_digits w _ h.2
/-- a number's signs are worth less than ten to as many -/
theorem digits_lt : ∀ (w : List Nat) (a : Nat), (∀ c ∈ w, 48 ≤ c ∧ c ≤ 57) → w.foldl (fun acc c => acc * 10 + (c - 48)) a < (a + 1) * 10 ^ w.length
  | [], a, _ => by simp
  | c :: w, a, h => by
    rw [List.foldl_cons, List.length_cons, Nat.pow_succ]
    have hc := h c List.mem_cons_self
    have ih := digits_lt w (a * 10 + (c - 48)) (fun x hx => h x (List.mem_cons_of_mem _ hx))
    refine Nat.lt_of_lt_of_le ih ?_
    rw [show (a + 1) * (10 ^ w.length * 10) = ((a + 1) * 10) * 10 ^ w.length by rw [Nat.mul_comm (10 ^ w.length) 10, Nat.mul_assoc]]
    exact Nat.mul_le_mul_right _ (by omega)
theorem digits_ge : ∀ (w : Bytes) (a : Nat), a * 10 ^ w.length ≤ w.foldl (fun (n : Nat) (c : UInt8) => 10 * n + (c.toNat - 48)) a
  | [], a => by simp
  | c :: w, a => by
    rw [List.foldl_cons, List.length_cons, Nat.pow_succ]
    refine Nat.le_trans ?_ (digits_ge w _)
    rw [show a * (10 ^ w.length * 10) = (10 * a) * 10 ^ w.length by rw [Nat.mul_comm (10 ^ w.length) 10, ← Nat.mul_assoc, Nat.mul_comm a 10]]
    exact Nat.mul_le_mul_right _ (by omega)
theorem num_lt (n : Nat) : n < 10 ^ (TL.numL n).length := by
  have h := digits_lt (TL.numL n) 0 (fun c hc => TL.numL_digits n c hc)
  have e : (TL.numL n).foldl (fun acc c => acc * 10 + (c - 48)) 0 = n := TL.numL_val n
  rw [e] at h
  omega
theorem too_long {w : Bytes} {n hi : Nat} (h : numberOf w = some n) (hl : (TL.numL hi).length < w.length) : hi < n := by
  obtain ⟨h1, h2, h3, h4⟩ := RM.numberOf_parts h
  have hn := num_lt hi
  have hp : 0 < (TL.numL hi).length := List.length_pos_iff.mpr (TL.numL_ne hi)
  cases w with
  | nil => exact absurd rfl h1
  | cons c w =>
    rw [List.foldl_cons] at h4
    rw [List.length_cons] at hl
    have hc : isDigit c = true := by
      rw [List.all_cons, Bool.and_eq_true] at h2
      exact h2.1
    have hne : c ≠ 48 := by
      intro q
      have e := h3 (by rw [q]; rfl)
      obtain ⟨_, rfl⟩ := List.cons.inj e
      rw [List.length_nil] at hl
      omega
    have h49 : 49 ≤ c.toNat := by
      unfold isDigit at hc
      simp only [Bool.and_eq_true, decide_eq_true_eq] at hc
      have h48 := UInt8.le_iff_toNat_le.mp hc.1
      have e48 : (48 : UInt8).toNat = 48 := rfl
      have : c.toNat ≠ 48 := fun q => hne (UInt8.toNat_inj.mp (q.trans e48.symm))
      omega
    have g := digits_ge w (10 * 0 + (c.toNat - 48))
    have p : 10 ^ (TL.numL hi).length ≤ 10 ^ w.length := Nat.pow_le_pow_right (by decide) (by omega)
    have m : 1 * 10 ^ w.length ≤ (10 * 0 + (c.toNat - 48)) * 10 ^ w.length := Nat.mul_le_mul_right _ (by omega)
    omega
theorem int_T {w : Bytes} (h : w.all isDigit = true) (hne : w ≠ []) (hl : w.length ≤ 640) : intText? (T w) = some ((w.foldl (fun (n : Nat) (c : UInt8) => 10 * n + (c.toNat - 48)) 0 : Nat) : Int) := by
  unfold T
  rw [SX.int_S (a := w.map dz) ?_ (by simpa using hne) (by rw [List.length_map]; omega)]
  · rw [← fold_digits w 0 h]
    unfold NumText.digitsVal
    rw [show (fun (acc c : Nat) => acc * 10 + (c - 48)) = fun (a c : Nat) => 10 * a + (c - 48) from funext fun a => funext fun c => by rw [Nat.mul_comm]]
  · rw [List.all_map]
    refine List.all_eq_true.mpr fun c hc => ?_
    have hd := List.all_eq_true.mp h c hc
    show (decide (48 ≤ dz c) && decide (dz c ≤ 57)) = true
    rw [dz_same c (.inl hd)]
    unfold isDigit at hd
    simp only [Bool.and_eq_true, decide_eq_true_eq] at hd ⊢
    exact ⟨UInt8.le_iff_toNat_le.mp hd.1, UInt8.le_iff_toNat_le.mp hd.2⟩
/-! ### finding one sign from a place on -/
theorem occ_from (x y : Str) (lo : Nat) : (occurrences x y lo x.length 1 = [] ∧ ∀ i, lo ≤ i → ¬ StrLaws.At x y x.length i) ∨
    ∃ i r, occurrences x y lo x.length 1 = i :: r ∧ lo ≤ i ∧ StrLaws.At x y x.length i ∧ ∀ k, lo ≤ k → k < i → ¬ StrLaws.At x y x.length k := by
  rw [StrLaws.occ_eq]
  rcases StrLaws.occ_first x y x.length 1 (Nat.le_refl _) (List.range' lo (x.length + 1 - lo)) lo (fun i hi => by have := List.mem_range'.mp hi; omega) with ⟨h0, hn⟩ | ⟨pre, a, post, e, h0, ha, hn⟩
  · refine .inl ⟨by rw [h0], fun i hlo hi => hn i ?_ hi⟩
    have := hi.1
    exact List.mem_range'.mpr ⟨i - lo, by omega, by omega⟩
  · have hlen : pre.length < x.length + 1 - lo := by
      have := congrArg List.length e
      simp at this
      omega
    have hget : ∀ j, j < x.length + 1 - lo → (List.range' lo (x.length + 1 - lo))[j]? = some (lo + j) := fun j hj => by
      rw [List.getElem?_range' hj]
      simp
    have ea : a = lo + pre.length := by
      have h1 := hget pre.length hlen
      rw [e] at h1
      simpa using h1
    refine .inr ⟨a, ((forIn (List.range' lo (x.length + 1 - lo)) ((#[] : Array Nat), lo) (StrLaws.occBody x y x.length 1)).run.fst.toList).tail, ?_, by omega, ha, fun k h1 h2 => hn k ?_⟩
    · generalize (forIn (List.range' lo (x.length + 1 - lo)) ((#[] : Array Nat), lo) (StrLaws.occBody x y x.length 1)).run.fst = arr at h0
      have h1 : arr.toList[0]? = some a := by simpa using h0
      cases hL : arr.toList with
      | nil => rw [hL] at h1; cases h1
      | cons b t => rw [hL] at h1; simp at h1; rw [h1]; rfl
    · have h3 := hget (k - lo) (by omega)
      rw [e, List.getElem?_append_left (by omega)] at h3
      rw [show k = lo + (k - lo) by omega]
      exact List.mem_of_getElem? h3
theorem at_sign {l : List Nat} {c i : Nat} : StrLaws.At (SX.S l) (SX.S [c]) (SX.S l).length i ↔ l[i]? = some c := by
  rw [TL.at_iff (List.cons_ne_nil _ _)]
  show TL.pre [c] (l.drop i) = true ↔ _
  unfold TL.pre
  cases h : l.drop i with
  | nil =>
    have : l.length ≤ i := List.drop_eq_nil_iff.mp h
    rw [List.getElem?_eq_none this]
    simp
  | cons d r =>
    have : l[i]? = some d := by
      have := congrArg List.head? h
      rw [List.head?_drop] at this
      exact this
    rw [this]
    simp
theorem find_T {v : UInt8} (hv : told v = true) (l : Bytes) {s : Str} (hs : s = SX.S [v.toNat]) {i : Nat} (hi : i ≤ l.length) :
    (v ∉ l.drop i → Txt.find3 (T l) s (i : Int) = -1) ∧ (∀ p r, l.drop i = p ++ v :: r → v ∉ p → Txt.find3 (T l) s (i : Int) = ((i + p.length : Nat) : Int)) := by
  subst hs
  have ef : fromIndex (T l).length (i : Int) = i := by
    unfold fromIndex
    rw [if_neg (by omega)]
    omega
  have atv : ∀ k, StrLaws.At (T l) (SX.S [v.toNat]) (T l).length k ↔ l[k]? = some v := fun k => by
    unfold T
    rw [at_sign, List.getElem?_map]
    cases l[k]? with
    | none => simp
    | some c => simp [dz_iff c v hv]
  unfold Txt.find3
  rw [ef]
  rcases occ_from (T l) (SX.S [v.toNat]) i with ⟨h0, hn⟩ | ⟨k, r, h0, h1, h2, h3⟩
  · rw [h0]
    refine ⟨fun _ => rfl, fun p r e hp => ?_⟩
    have : l[i + p.length]? = some v := by
      rw [← List.getElem?_drop, e]
      simp
    exact absurd ((atv _).mpr this) (hn _ (by omega))
  · rw [h0]
    have hk := (atv k).mp h2
    refine ⟨fun hno => ?_, fun p r e hp => ?_⟩
    · exfalso
      apply hno
      have : (l.drop i)[k - i]? = some v := by
        rw [List.getElem?_drop, show i + (k - i) = k by omega]
        exact hk
      exact List.mem_of_getElem? this
    · show ((k : Nat) : Int) = _
      congr 1
      have hv' : l[i + p.length]? = some v := by
        rw [← List.getElem?_drop, e]
        simp
      have le : k ≤ i + p.length := by
        refine Nat.le_of_not_lt fun q => ?_
        exact h3 _ (by omega) q ((atv _).mpr hv')
      have ge : ¬ k < i + p.length := fun q => by
        have : (l.drop i)[k - i]? = some v := by
          rw [List.getElem?_drop, show i + (k - i) = k by omega]
          exact hk
        rw [e, List.getElem?_append_left (by omega)] at this
        exact hp (List.mem_of_getElem? this)
      omega
/-! ### slices -/
theorem cut_T (l : Bytes) {a b : Nat} (hab : a ≤ b) (hb : b ≤ l.length) : L2.cutS (T l) (some (a : Int)) (some (b : Int)) = T ((l.drop a).take (b - a)) := by
  have hlen := T_len l
  unfold L2.cutS
  have e1 : HT.sIx (T l).length 0 (some (a : Int)) = a := by
    rw [hlen]
    rw [HT.sIx_nat]
    omega
  have e2 : HT.sIx (T l).length (T l).length (some (b : Int)) = b := by
    rw [hlen, HT.sIx_nat]
    omega
  rw [e1, e2]
  unfold T
  show SX.S ((((l.map dz)).drop a).take (b - a)) = SX.S (((l.drop a).take (b - a)).map dz)
  rw [List.map_take, List.map_drop]
end RT
namespace RD
open PySem PySem.Spec PyProof.Rows L2 RX
/-! ### the text by places -/
def top (i : Nat) : Stmt := PySem.Challenge.pw_raceresults_s01_judge.main.body.getD i (.Pass ⟨0, 0, 0, 0⟩)
/-- where the top's classes stand -/
structure Ad where
  (cR cTL cNC cF cA cW cRc cD cPl cCd cNR cNP cNN cNT cPt cNW cTM : Addr)
/-! ### what a failing call leaves -/
/-- an error of the class at C with these values, everything else as it was -/
def Fails (C : Addr) (fs : List (Str × V)) (H : Hp) (E : XK) : Prop := ∀ (d : Addr) (H' : Hp), Same H H' → H' d = some (.xd fs) → E (.ref C) (some d) H'
theorem Fails.mono {C : Addr} {fs : List (Str × V)} {H H1 : Hp} {E : XK} (h : Fails C fs H E) (s : Same H H1) : Fails C fs H1 E := fun d H' s' e => h d H' (s.trans s') e
def codeF (n : Int) : List (Str × V) := [("code", .int n)]
def faultF (k p : Int) : List (Str × V) := [("place", .int p), ("kind", .int k), ("code", .int (-6))]
/-- the wish of a raise -/
abbrev wE (E : XK) : WX := fun cls d _ H => E cls d H
def tFail (C : Addr) (fs : List (Str × V)) (E : XK) : TS := fun _ _ H => Fails C fs H E
theorem same_upd {H : Hp} {a : Addr} {o : HO} (n : H a = none) : Same H (upd H a o) := fun b u e => by rw [upd_ne (ne_of_none e n)]; exact e
theorem same_gone {H H2 : Hp} {a d : Addr} {o : HO} (na : H a = none) (nd : H d = none) (k : ∀ b u, H b = some u → b ≠ a → b ≠ d → H2 b = some u) : Same H (upd (del H2 a) d o) := fun b u e => by
  have h1 := ne_of_none e na
  have h2 := ne_of_none e nd
  rw [upd_ne h2, del_ne h1]
  exact k b u e h1 h2
/-! ### the errors' makers -/
abbrev sRef : Stmt := inClass (top 2) 0
abbrev sTL : Stmt := inClass (top 3) 0
abbrev sNC : Stmt := inClass (top 4) 0
abbrev sFt : Stmt := inClass (top 5) 0
/-- Refusal's: of an error in the making -/
def spRef (K : PySem.W.Frag) : Sp := fun vs H Q _ => ∃ (a C : Addr) (v : V), vs = [.ref a, v] ∧ ExC K C ∧ PySem.W.takerIn K C "code" = some none ∧ H a = some (exo a C none) ∧
  ∀ dx, H dx = none → dx ≠ a → Q .non (upd (upd H dx (exd dx [("code", v)])) a (exo a C (some dx)))
def spIni (C : Addr) (n : Int) : Sp := fun vs H Q _ => ∃ (a : Addr), vs = [.ref a] ∧ H a = some (exo a C none) ∧
  ∀ dx, H dx = none → dx ≠ a → Q .non (upd (upd H dx (exd dx (codeF n))) a (exo a C (some dx)))
def spFt (C : Addr) : Sp := fun vs H Q _ => ∃ (a : Addr) (k p : Int), vs = [.ref a, .int k, .int p] ∧ H a = some (exo a C none) ∧
  ∀ dx, H dx = none → dx ≠ a → ∀ H', H' a = some (exo a C (some dx)) → H' dx = some (exd dx (faultF k p)) → (∀ b u, H b = some u → b ≠ a → b ≠ dx → H' b = some u) → Q .non H'
/-- Refusal as a base -/
structure Base (K : PySem.W.Frag) (mg : Str → Option Value) (B fI : Addr) : Prop where
  mgB : mg "Refusal" = some (.ref B)
  rd : ClX.CRead K B (.type "type")
  at_ : PySem.W.findCls K (.ref B) (.type "type") "__init__" = some (.val (.ref fI))
  kI : PySem.W.keepIn K (.ref fI) = true
/-- an error class and its maker -/
structure ErrC (K : PySem.W.Frag) (mg : Str → Option Value) (x : Str) (C fI : Addr) : Prop where
  mgC : mg x = some (.ref C)
  ex : ExC K C
  iC : PySem.W.findIn K (.ref C) "__init__" = some (some (.ref fI))
  tI : PySem.W.typeIn K (.ref fI) = some (.type "function")
  tkC : PySem.W.takerIn K C "code" = some none
section
variable {P : Program} {w : World} {K : PySem.W.Frag} {mg : Str → Option Value} {base : Heap}
theorem scRef : FnScope ["self", "code"] ["self", "code"] (defScope sRef) := ⟨rfl, rfl, rfl, by decide +kernel, rfl, by decide +kernel, by decide +kernel⟩
theorem ok_ref {f : Addr} {fd : FuncData} (F : Fun K "__init__" "Refusal.__init__" sRef f fd) : FnOk P w K mg base (L2.CX P w) 1 f fd ["self", "code"] (spRef K) := by
  refine F.okX scRef (fun vs H Q E h => ?_) (fun cdv A outer s H vs Q E hr h => ?_)
  · obtain ⟨a, C, v, rfl, _⟩ := h
    rfl
  · obtain ⟨a, C, v, rfl, T, ht, ha, k⟩ := h
    refine ⟨_, pss_one (ps_put (pv 0) (pv 1)), ?_⟩
    exact ⟨_, rfl, _, rfl, a, C, rfl, T, ht, .inl ⟨ha, fun dx n ne => k dx n ne⟩⟩
theorem scTL : FnScope ["self"] ["self"] (defScope sTL) := ⟨rfl, rfl, rfl, by decide +kernel, rfl, by decide +kernel, by decide +kernel⟩
theorem ok_tl {f B fR C : Addr} {fd fdR : FuncData} (F : Fun K "__init__" "TooLong.__init__" sTL f fd) (T : ExC K C) (ht : PySem.W.takerIn K C "code" = some none) (b : Base K mg B fR) (GR : FnOk P w K mg base (L2.CX P w) 1 fR fdR ["self", "code"] (spRef K)) (bR : Binds K fdR ["self", "code"] []) :
    FnOk P w K mg base (L2.CX P w) 2 f fd ["self"] (spIni C (-2)) := by
  refine F.okX scTL (fun vs H Q E h => ?_) (fun cdv A outer s H vs Q E hr h => ?_)
  · obtain ⟨a, rfl, _⟩ := h
    rfl
  · obtain ⟨a, rfl, ha, k⟩ := h
    refine ⟨_, pss_one (ps_expr (by exact (pe_base (E := E0) b.rd b.at_ GR hr b.kI bR passL rfl b.mgB (by exact (pa_cons (pv 0) (pa_cons (pe_un un_neg pe_int) pa_nil)))))), ?_⟩
    exact ⟨_, rfl, _, rfl, a, C, _, rfl, T, ht, ha, fun dx n ne => k dx n ne⟩
theorem scNC : FnScope ["self"] ["self"] (defScope sNC) := ⟨rfl, rfl, rfl, by decide +kernel, rfl, by decide +kernel, by decide +kernel⟩
theorem ok_nc {f B fR C : Addr} {fd fdR : FuncData} (F : Fun K "__init__" "NoCard.__init__" sNC f fd) (T : ExC K C) (ht : PySem.W.takerIn K C "code" = some none) (b : Base K mg B fR) (GR : FnOk P w K mg base (L2.CX P w) 1 fR fdR ["self", "code"] (spRef K)) (bR : Binds K fdR ["self", "code"] []) :
    FnOk P w K mg base (L2.CX P w) 2 f fd ["self"] (spIni C (-8)) := by
  refine F.okX scNC (fun vs H Q E h => ?_) (fun cdv A outer s H vs Q E hr h => ?_)
  · obtain ⟨a, rfl, _⟩ := h
    rfl
  · obtain ⟨a, rfl, ha, k⟩ := h
    refine ⟨_, pss_one (ps_expr (by exact (pe_base (E := E0) b.rd b.at_ GR hr b.kI bR passL rfl b.mgB (by exact (pa_cons (pv 0) (pa_cons (pe_un un_neg pe_int) pa_nil)))))), ?_⟩
    exact ⟨_, rfl, _, rfl, a, C, _, rfl, T, ht, ha, fun dx n ne => k dx n ne⟩
theorem scFt : FnScope ["self", "kind", "place"] ["self", "kind", "place"] (defScope sFt) := ⟨rfl, rfl, rfl, by decide +kernel, rfl, by decide +kernel, by decide +kernel⟩
theorem ok_ft {f B fR C : Addr} {fd fdR : FuncData} (F : Fun K "__init__" "Faulty.__init__" sFt f fd) (T : ExC K C) (ht : PySem.W.takerIn K C "code" = some none) (hk : PySem.W.takerIn K C "kind" = some none) (hp : PySem.W.takerIn K C "place" = some none) (b : Base K mg B fR) (GR : FnOk P w K mg base (L2.CX P w) 1 fR fdR ["self", "code"] (spRef K)) (bR : Binds K fdR ["self", "code"] []) :
    FnOk P w K mg base (L2.CX P w) 2 f fd ["self", "kind", "place"] (spFt C) := by
  refine F.okX scFt (fun vs H Q E h => ?_) (fun cdv A outer s H vs Q E hr h => ?_)
  · obtain ⟨a, k, p, rfl, _⟩ := h
    rfl
  · obtain ⟨a, k, p, rfl, ha, q⟩ := h
    refine ⟨_, pss_cons (ps_expr (by exact (pe_base (E := E0) b.rd b.at_ GR hr b.kI bR passL rfl b.mgB (by exact (pa_cons (pv 0) (pa_cons (pe_un un_neg pe_int) pa_nil))))))
      (pss_cons (ps_put (pv 0) (pv 1)) (pss_one (ps_put (pv 0) (pv 2)))), ?_⟩
    refine ⟨_, rfl, _, rfl, a, C, _, rfl, T, ht, ha, fun dx n ne => ?_⟩
    refine ⟨_, rfl, _, rfl, a, C, rfl, T, hk, .inr ⟨dx, _, upd_same, by rw [upd_ne ne]; exact upd_same, by show 1 ≤ 900; decide, ?_⟩⟩
    refine ⟨_, rfl, _, rfl, a, C, rfl, T, hp, .inr ⟨dx, _, by rw [upd_ne (Ne.symm ne)]; exact upd_same, upd_same, by show 2 ≤ 900; decide, ?_⟩⟩
    refine q dx n ne _ ?_ upd_same fun b' u e h1 h2 => ?_
    · rw [upd_ne (Ne.symm ne), upd_ne (Ne.symm ne)]
      exact upd_same
    · rw [upd_ne h2, upd_ne h2, upd_ne h1, upd_ne h2]
      exact e
end
/-! ### raise -/
section
variable {X : Cx} {fI C : Addr} {fd : FuncData} {x : Str} {p pos pos2 : Pos} {n : Int} {E : XK} {k : Nat}
theorem ps_fail0 (hc : X.calm = true) (T : ErrC X.K X.mg x C fI) (G : FnOk X.prog X.w X.K X.mg X.base (L2.CX X.prog X.w) 2 fI fd ["self"] (spIni C n)) (b : Binds X.K fd ["self"] []) (hr : Room 3 X.A) (tk : Takes X (wE E)) (hg : Gl X x) (hdb : (x == ("__debug__" : Str)) = false := by decide) :
    PS X (.Raise (some (.Call (.Name x p) [] [] pos)) none pos2) (tFail C (codeF n) E) := by
  have z := ps_raise (pos := pos2) hc tk (pmk_new0 (p := p) (pos := pos) T.ex T.iC T.tI G hr b passL hg T.mgC hdb)
  refine ⟨fun pins s σ H D I h => z.run pins s σ H D I ?_⟩
  refine ⟨Nat.zero_le _, fun a na => ⟨a, rfl, upd_same, fun dx ndx ne => ⟨rfl, dx, codeF n, upd_same, by rw [upd_ne ne]; exact upd_same, ?_, ?_⟩⟩⟩
  · rw [upd_ne ne] at ndx
    exact ndx
  · rw [upd_ne ne] at ndx
    refine h dx _ (same_gone na ndx fun b u e h1 h2 => ?_) upd_same
    rw [upd_ne h1, upd_ne h2, upd_ne h1]
    exact e
/-- raise Faulty(kind, place) -/
def tFault (C : Addr) (E : XK) (ta : TA) : TS := fun _ σ H => ta σ H fun vs H1 => ∃ k p : Int, vs = [.int k, .int p] ∧ Fails C (faultF k p) H1 E
theorem ps_fault {e : Expr} {es : List Expr} {ta : TA} (hc : X.calm = true) (T : ErrC X.K X.mg x C fI) (G : FnOk X.prog X.w X.K X.mg X.base (L2.CX X.prog X.w) 2 fI fd ["self", "kind", "place"] (spFt C)) (b : Binds X.K fd ["self", "kind", "place"] []) (hr : Room 3 X.A) (tk : Takes X (wE E)) (hg : Gl X x) (ha : PA X (e :: es) ta)
    (hdb : (x == ("__debug__" : Str)) = false := by decide) (he : starEach (e :: es) X.env = (false, eval e X.env) :: starEach es X.env := by rfl) (hpl : (backTo pos (starEach es X.env)).any (·.1) = false := by rfl) :
    PS X (.Raise (some (.Call (.Name x p) (e :: es) [] pos)) none pos2) (tFault C E ta) := by
  have z := ps_raise (pos := pos2) hc tk (pmk_new (p := p) (pos := pos) T.ex T.iC T.tI G hr b passL hg T.mgC ha hdb he hpl)
  have mono := ha
  refine ⟨fun pins s σ H D I h => ?_⟩
  have ha' : PA X (e :: es) (fun σ H Q => ta σ H fun vs H1 => Q vs H1) := ha
  refine (ps_raise (pos := pos2) (t := fun σ H Q => ta σ H fun vs H1 => ∃ k p : Int, vs = [.int k, .int p] ∧ Fails C (faultF k p) H1 fun c d H' => Q c d H') hc tk ?_).run pins s σ H D I ?_
  · intro pins s σ H Q I h
    refine wpAny_Call_Name_kw (ld_glob I hg T.mgC ?_ hdb)
    refine PySem.W.callWith_K (h₀ := X.base) I.ok.mod.kin T.ex.kC (thn (ha.run pos pins s σ H _ I h) ?_) he hpl
    rintro us s1 ⟨vs, H1, I1, rv, k, p, rfl, fails⟩
    refine ⟨I1.kIn, made_end (pos := pos) T.ex T.iC T.tI G hr b passL I1 rv (by show 2 ≤ 1000; decide) fun a na => ?_⟩
    refine ⟨a, k, p, rfl, upd_same, fun dx ndx ne H' ea ed kept => ?_⟩
    rw [upd_ne ne] at ndx
    refine ⟨rfl, dx, _, ea, ed, ndx, fails dx _ (same_gone na ndx fun b u e h1 h2 => ?_) upd_same⟩
    exact kept b u (by rw [upd_ne h1]; exact e) h1 h2
  · exact h
end
end RD
namespace RD
open PySem PySem.Spec PyProof.Rows L2 RX RT
open Tote (Bytes)
/-! ### decoded -/
def byV (b : Bytes) : List V := b.map fun c => V.int (c.toNat : Int)
def sgnKv (l : List Nat) : List (Key × V) := l.map fun (c : Nat) => ((Sum.inl (c : Int) : Key), V.str ⟨#[c]⟩)
theorem sgn_any (l : List Nat) (c : Nat) : ((sgnKv l).any fun kv => decide (kv.1 = Sum.inl (c : Int))) = l.contains c := by
  induction l with
  | nil => rfl
  | cons x l ih =>
    show (decide ((Sum.inl (x : Int) : Key) = Sum.inl (c : Int)) || (sgnKv l).any _) = _
    rw [ih, List.contains_cons, key_ll]
    congr 1
    by_cases h : x = c
    · subst h; simp
    · rw [beq_eq_false_iff_ne.mpr (fun q => h (by omega)), beq_eq_false_iff_ne.mpr (fun q => h q.symm)]
theorem sgn_put {l : List Nat} {c : Nat} (h : l.contains c = false) : putK (sgnKv l) (Sum.inl (c : Int)) (V.str ⟨#[c]⟩) = sgnKv (l ++ [c]) := by
  unfold putK
  rw [sgn_any, h, if_neg Bool.false_ne_true]
  unfold sgnKv
  rw [List.map_append]
  rfl
theorem sgn_val (l : List Nat) (c : Nat) : valV (sgnKv l) (Sum.inl (c : Int)) = if l.contains c = true then some (V.str ⟨#[c]⟩) else none := by
  induction l with
  | nil => rfl
  | cons x l ih =>
    unfold valV at ih ⊢
    show ((((Sum.inl (x : Int) : Key), V.str ⟨#[x]⟩) :: sgnKv l).find? _).map _ = _
    rw [List.find?_cons, List.contains_cons]
    by_cases h : x = c
    · subst h
      simp
    · have e : decide ((Sum.inl (x : Int) : Key) = Sum.inl (c : Int)) = false := by
        rw [key_ll]
        exact beq_eq_false_iff_ne.mpr fun q => h (by omega)
      dsimp only
      rw [e, beq_eq_false_iff_ne.mpr (fun q => h q.symm), Bool.false_or]
      exact ih
theorem sgn_get (c : Nat) : (valV (sgnKv sgn) (Sum.inl (c : Int))).getD (V.str ⟨#[63]⟩) = V.str ⟨#[dec c]⟩ := by
  rw [sgn_val]
  unfold dec
  split <;> rfl
theorem sgn_nodup : ∀ i c, sgn[i]? = some c → (sgn.take i).contains c = false := by
  have : ∀ i, i < 41 → ∀ c ∈ sgn, sgn[i]? = some c → (sgn.take i).contains c = false := by decide +kernel
  intro i c h
  have hi : i < sgn.length := (List.getElem?_eq_some_iff.mp h).1
  exact this i (Nat.lt_of_lt_of_le hi (by decide)) c (List.mem_of_getElem? h) h
theorem _root_.L2.Same.put {H H1 : Hp} {a : Addr} {o : HO} (s : Same H H1) (n : H a = none) : Same H (upd H1 a o) := fun b u e => by
  rw [upd_ne (ne_of_none e n)]
  exact s b u e
theorem join_ones (b : Bytes) : Txt.join ⟨#[]⟩ (b.map fun c => (⟨#[dz c]⟩ : Str)) = T b := by
  have e : (b.map fun c => (⟨#[dz c]⟩ : Str)) = (b.map fun c => [dz c]).map SX.S := by rw [List.map_map]; rfl
  rw [e]
  show Txt.join (SX.S []) _ = _
  rw [SX.join_S]
  unfold T
  congr 1
  have g : ∀ l : List Nat, TL.joinL [] (l.map fun c => [c]) = l := by
    intro l
    induction l with
    | nil => rfl
    | cons x l ih =>
      cases l with
      | nil => rfl
      | cons y l =>
        show [x] ++ ([] ++ TL.joinL [] ((y :: l).map fun c => [c])) = _
        rw [ih]
        rfl
  have := g (b.map dz)
  rw [List.map_map] at this
  exact this
theorem byV_at {b : Bytes} {i : Nat} {x : V} (h : (byV b)[i]? = some x) : ∃ c, b[i]? = some c ∧ x = V.int (c.toNat : Int) := by
  unfold byV at h
  rw [List.getElem?_map] at h
  obtain ⟨c, hc, e⟩ := Option.map_eq_some_iff.mp h
  exact ⟨c, hc, e.symm⟩
abbrev sDec : Stmt := top 10
def spDec (K : PySem.W.Frag) : Sp := fun vs H Q _ => ∃ (a : Addr) (b : Bytes), vs = [.ref a] ∧ SqL K H a (byV b) ∧ b.length ≤ 66000 ∧ ∀ H', Same H H' → Q (.str (T b)) H'
structure TxDec (mg : Str → Option Value) : Prop where
  ord : mg "ord" = none
  sg : ∃ t, mg "SIGNS" = some (.str ⟨sgn.toArray⟩ t)
  st : ∃ t, mg "STRANGE" = some (.str ⟨#[63]⟩ t)
section
variable {P : Program} {w : World} {K : PySem.W.Frag} {mg : Str → Option Value} {base : Heap}
abbrev nDec : List Str := ["data", "signs", "sign", "byte"]
theorem scDec : FnScope nDec ["data"] (defScope sDec) := ⟨rfl, rfl, rfl, by decide +kernel, rfl, by decide +kernel, by decide +kernel⟩
theorem ok_dec {f : Addr} {fd : FuncData} (F : Fun K "decoded" "decoded" sDec f fd) (T : TxDec mg) : FnOk P w K mg base CX0 1 f fd ["data"] (spDec K) := by
  obtain ⟨tS, hS⟩ := T.sg
  obtain ⟨tX, hX⟩ := T.st
  refine F.ok scDec (fun vs H Q E h => ?_) (fun cdv A outer s H vs Q E hr h => ?_)
  · obtain ⟨a, b, rfl, _⟩ := h
    rfl
  · obtain ⟨a, b, rfl, hL, hb, k⟩ := h
    have hu := hu_of hr
    refine ⟨_, pss_cons (ps_set (i := 1) scDec.nd rfl (Or.inr rfl) pe_dnewK)
      (pss_cons (ps_for PassesOwn.never rfl (pi_str (pe_glob (v := .str ⟨sgn.toArray⟩) rfl hS ⟨_, rfl⟩)) (pg_name (i := 2) scDec.nd rfl (Or.inl rfl))
        (pss_one (ps_dput hu (pv 1) (pe_callB call_ord (by rfl) T.ord (by decide +kernel) (pa_cons (pv 2) pa_nil)) (pv 2) rfl)))
      (pss_one (ps_ret (pe_join pe_str (pe_lc (own := [("byte", 3)]) (g := gName 3) (tt := tYes) rfl scDec.nd (pi_list (pv 0)) (blkOk_by (N := nDec) (sc := defScope sDec) (by decide +kernel))
        (fun _ _ _ _ _ => pg_name (i := 3) scDec.nd rfl (Or.inl rfl)) (fun _ _ _ _ _ => pts_nil)
        (fun _ _ _ _ _ => pe_dget2 hu (pv 1) (pv 3) (pe_glob (v := .str ⟨#[63]⟩) rfl hX ⟨_, rfl⟩) ⟨rfl, rfl, rfl, rfl⟩)))))), ?_⟩
    intro d hd
    have s1 : Same H (upd H d (.dK [])) := same_upd hd
    refine ⟨_, rfl, for_it walk_str (fun i σ H' => ∃ v : Option V, σ = [some (.ref a), some (.ref d), v, none] ∧ H' d = some (.dK (sgnKv (sgn.take i))) ∧ Same H H') ⟨none, rfl, upd_same, s1⟩ (fun _ _ _ _ _ => trivial) ?_ ?_⟩
    · rintro i x σ H1 H' hi ⟨v, rfl, hd1, s2⟩ ⟨rfl, c, hc, rfl⟩
      have hc' : sgn[i]? = some c := by
        rw [← hc]
        simp
      have hi' : i < 40 := hi
      refine ⟨_, rfl, _, rfl, _, rfl, _, rfl, rfl, d, _, rfl, DPut.k (k := Sum.inl (c : Int)) hd1 ?_, ?_⟩
      · unfold sgnKv
        rw [List.length_map, List.length_take]
        exact Nat.lt_of_le_of_lt (Nat.min_le_left _ _) (Nat.lt_of_lt_of_le hi' (by decide))
      · rw [sgn_put (sgn_nodup i c hc')]
        refine ⟨_, rfl, ?_, s2.put hd⟩
        rw [upd_same, List.take_add_one, hc']
        rfl
    · rintro σ H1 ⟨v, rfl, hd1, s2⟩
      have hd2 : H1 d = some (.dK (sgnKv sgn)) := hd1
      refine ⟨⟨_, rfl⟩, _, rfl, a, rfl, ⟨_, s2.seq hL⟩, fun D hD => ?_⟩
      have s3 : Same H (upd H1 D (.lst [])) := s2.trans (same_upd hD)
      have nd : d ≠ D := ne_of_none hd2 hD
      refine lc_list (xs := byV b) (fun i H' => H' D = some (.lst (((b.take i).map fun c => V.str ⟨#[dz c]⟩))) ∧ H' d = some (.dK (sgnKv sgn)) ∧ Same H H') ⟨upd_same, by rw [upd_ne nd]; exact hd2, s3⟩ (fun i H' _ q => q.2.2.seq hL) ?_ ?_
      · rintro i x H' hi ⟨q1, q2, q3⟩
        obtain ⟨c, hc, rfl⟩ := byV_at hi
        refine ⟨rfl, _, rfl, d, rfl, .inl ⟨_, .inl q2⟩, _, rfl, _, DGet.k (k := Sum.inl (c.toNat : Int)) q2, ?_⟩
        rw [sgn_get]
        refine ⟨_, q1, ?_, ?_, by rw [upd_ne nd]; exact q2, q3.put (s2.free hD)⟩
        · rw [List.length_map, List.length_take]
          exact Nat.lt_of_le_of_lt (Nat.min_le_right _ _) (Nat.lt_of_le_of_lt hb (by decide))
        · rw [upd_same, List.take_add_one, hc]
          simp [dz]
      · rintro H' ⟨q1, q2, q3⟩
        rw [show (byV b).length = b.length from List.length_map .., List.take_length] at q1
        refine ⟨_, D, b.map fun c => ⟨#[dz c]⟩, rfl, rfl, .inl (SqL.of ?_), ?_, ?_⟩
        · rw [q1, List.map_map]
          rfl
        · show _ + (b.map _).length * 0 ≤ _
          rw [Nat.mul_zero, Nat.add_zero, List.map_map]
          have e : ∀ l : Bytes, (l.map ((fun x => Str.length x) ∘ fun c => (⟨#[dz c]⟩ : Str))).sum = l.length := by
            intro l
            induction l with
            | nil => rfl
            | cons x l ih => rw [List.map_cons, List.sum_cons, ih, List.length_cons, Nat.add_comm]; rfl
          rw [e]
          exact Nat.le_trans hb (by decide)
        · show Q (.str (Txt.join ⟨#[]⟩ _)) H'
          rw [join_ones]
          exact k H' q3
end
end RD
namespace RD
open PySem PySem.Spec PyProof.Rows L2 RX RT
open Tote (Bytes numberOf)
open RM (bnd)
/-! ### bounded_or_none -/
def oV : Option Nat → V
  | none => .non
  | some n => .int (n : Int)
theorem bnd_none {lo hi : Nat} {w : Bytes} (h : numberOf w = none) : bnd lo hi w = none := by
  unfold bnd
  rw [h]
theorem bnd_some {lo hi n : Nat} {w : Bytes} (h : numberOf w = some n) : bnd lo hi w = if n < lo ∨ hi < n then none else some n := by
  unfold bnd
  rw [h]
theorem T_zero {w : Bytes} (h : ∃ c r, w = c :: r) : ∃ c r, w = c :: r ∧ (T w).cps[(0 : Int).toNat]? = some (dz c) := by
  obtain ⟨c, r, rfl⟩ := h
  exact ⟨c, r, rfl, by unfold T; simp⟩
theorem one_zero (c : UInt8) : (V.str ⟨#[dz c]⟩ = V.str (Str.ofString "0")) ↔ c = 48 := by
  have := T_lit (s := "0") (v := [48]) (by decide) (by decide +kernel) [c]
  constructor
  · intro h
    have h2 : T [c] = Str.ofString "0" := V.str.inj h
    exact List.cons.inj (this.mp h2) |>.1
  · intro h
    exact congrArg V.str (this.mpr (by rw [h]))
theorem all_zero (w : Bytes) : (V.str (T w) = V.str (Str.ofString "0")) ↔ w = [48] := by
  have := T_lit (s := "0") (v := [48]) (by decide) (by decide +kernel) w
  exact ⟨fun h => this.mp (V.str.inj h), fun h => congrArg V.str (this.mpr h)⟩
abbrev sBnd : Stmt := top 11
def spBnd : Sp := fun vs H Q _ => ∃ (w : Bytes) (lo hi : Nat), vs = [.str (T w), .int lo, .int hi] ∧ hi ≤ 1000000 ∧ w.length ≤ 100000 ∧ Q (oV (bnd lo hi w)) H
structure TxLen (mg : Str → Option Value) : Prop where
  len : mg "len" = none
  str : mg "str" = none
  int : mg "int" = none
  range : mg "range" = none
  list : mg "list" = none
section
variable {P : Program} {w : World} {K : PySem.W.Frag} {mg : Str → Option Value} {base : Heap}
abbrev nBnd : List Str := ["word", "low", "high", "number"]
theorem scBnd : FnScope nBnd ["word", "low", "high"] (defScope sBnd) := ⟨rfl, rfl, rfl, by decide +kernel, rfl, by decide +kernel, by decide +kernel⟩
theorem ok_bnd {f : Addr} {fd : FuncData} (F : Fun K "bounded_or_none" "bounded_or_none" sBnd f fd) (Tx : TxLen mg) : FnOk P w K mg base CX0 1 f fd ["word", "low", "high"] spBnd := by
  refine F.ok scBnd (fun vs H Q E h => ?_) (fun cdv A outer s H vs Q E hr h => ?_)
  · obtain ⟨w, lo, hi, rfl, _⟩ := h
    rfl
  · obtain ⟨w, lo, hi, rfl, hhi, hw, k⟩ := h
    refine ⟨_, pss_cons (ps_if (PW.pt (pw_or (pt_not (pt_val (pe_m0 PySem.F.slot_str_isdigit PySem.F.type_str_isdigit mt_isdigit (pv 0)))) (pw_or1 (pt_cmpR op_gt
          (pe_callB call_len_str (by rfl) Tx.len PySem.boot_len (pa_cons (pv 0) pa_nil))
          (pe_callB call_len_str (by rfl) Tx.len PySem.boot_len (pa_cons (pe_callTy call_str_int (by rfl) Tx.str (by decide +kernel) (pa_cons (pv 2) pa_nil)) pa_nil)) (nomark _))))) (pss_one (ps_ret pe_non)) pss_nil)
      (pss_cons (ps_if (PW.pt (pw_and (pt_cmpR op_eq (pe_item_str (pv 0) pe_int (fun _ _ => rfl)) pe_str (nomark _)) (pw_and1 (pt_cmpR op_ne (pv 0) pe_str (nomark _))))) (pss_one (ps_ret pe_non)) pss_nil)
      (pss_cons (ps_set (i := 3) scBnd.nd rfl (Or.inl rfl) (pe_callTy call_int_str (by rfl) Tx.int (by decide +kernel) (pa_cons (pv 0) pa_nil)))
      (pss_cons (ps_if (PW.pt (pw_or (pt_cmpR op_lt (pv 3) (pv 1) (nomark _)) (pw_or1 (pt_cmpR op_gt (pv 3) (pv 2) (nomark _))))) (pss_one (ps_ret pe_non)) pss_nil)
      (pss_one (ps_ret (pv 3)))))), ?_⟩
    refine ⟨_, rfl, ⟨_, rfl⟩, _, rfl, rfl, trivial, _, rfl, ?_⟩
    have e0 := isdigit_T w
    have lenT : (T w).length = w.length := T_len w
    refine ite2 (fun h1 => ?_) (fun h1 => ?_)
    · -- no digits
      have hn : numberOf w = none := by
        cases hq : numberOf w with
        | none => rfl
        | some n =>
          obtain ⟨p1, p2, _⟩ := RM.numberOf_parts hq
          rw [e0, p2] at h1
          cases w with
          | nil => exact absurd rfl p1
          | cons c r => exact Bool.noConfusion h1
      rw [bnd_none hn] at k
      exact k
    · have hd : w ≠ [] ∧ w.all Tote.isDigit = true := by
        rw [e0] at h1
        cases w with
        | nil => exact absurd rfl h1
        | cons c r => exact ⟨List.cons_ne_nil _ _, by simpa using h1⟩
      have hl2 : (Str.ofString (toString ((hi : Nat) : Int))).length = (TL.numL hi).length := by rw [SX.num_S, SX.S_len]
      have small : (TL.numL hi).length ≤ 640 := Nat.le_trans (TL.numL_len (k := 7) (by decide) (by omega)) (by decide)
      refine ⟨_, rfl, _, rfl, by rw [lenT]; exact Nat.le_trans hw (by decide), _, rfl, _, rfl, ?_, _, rfl, by rw [hl2]; exact Nat.le_trans small (by decide), _, _, rfl, rfl, _, rfl, ?_⟩
      · rw [show ((hi : Nat) : Int).natAbs = hi from rfl]
        rcases Nat.eq_zero_or_pos hi with q | q
        · subst q
          decide
        · exact Nat.lt_of_lt_of_le ((Nat.log2_lt (n := hi) (k := 20) (by omega)).mpr (by omega)) (by decide)
      refine ite2 (fun h2 => ?_) (fun h2 => ?_)
      · -- too long
        have h3 : (TL.numL hi).length < w.length := by
          have := of_decide_eq_true h2
          rw [hl2, lenT] at this
          omega
        have hb : bnd lo hi w = none := by
          cases hq : numberOf w with
          | none => exact bnd_none hq
          | some n => rw [bnd_some hq, if_pos (.inr (too_long hq h3))]
        rw [hb] at k
        exact k
      · have h3 : w.length ≤ (TL.numL hi).length := by
          have := of_decide_eq_false (Bool.eq_false_iff.mpr h2)
          rw [hl2, lenT] at this
          omega
        obtain ⟨c, r, ew, e1⟩ := T_zero (w := w) (by
          cases w with
          | nil => exact absurd rfl hd.1
          | cons c r => exact ⟨c, r, rfl⟩)
        have hpos : 0 < w.length := by rw [ew]; exact Nat.succ_pos _
        refine ⟨_, rfl, _, _, _, rfl, rfl, by decide, by decide, by rw [lenT]; omega, e1, rfl, _, rfl, ?_⟩
        have fin : ∀ n, numberOf w = some n → Q (oV (if n < lo ∨ hi < n then none else some n)) H := fun n hn => by
          rw [bnd_some hn] at k
          exact k
        have fin0 : numberOf w = none → Q .non H := fun hn => by
          rw [bnd_none hn] at k
          exact k
        have val : (w.head? = some 48 → w = [48]) → numberOf w = some (w.foldl (fun (n : Nat) (c : UInt8) => 10 * n + (c.toNat - 48)) 0) := fun hz => by
          unfold numberOf
          rw [if_neg]
          rintro (q | q | ⟨q1, q2⟩)
          · exact hd.1 (List.isEmpty_iff.mp q)
          · rw [hd.2] at q; exact Bool.noConfusion q
          · exact q2 (hz q1)
        have rest : (w.head? = some 48 → w = [48]) → tSeq
            (tAsg (tCB (fun xs H Q => ∃ a n, xs = [V.str a] ∧ intText? a = some n ∧ a.length ≤ 640 ∧ Q (V.int n) H) (tCons (tVar 0) tNil)) (gName 3))
            (tSeq (tIfS (tOr (tTest (tOp (rI0 fun i j => V.bl (decide (i < j))) (tVar 3) (tVar 1))) (tTest (tOp (rI0 fun i j => V.bl (decide (j < i))) (tVar 3) (tVar 2)))) (tRet (tC V.non)) tNext)
              (tRet (tVar 3))) { nx := fun x H' => Q V.non H', rt := Q } (L2.start nBnd [V.str (RT.T w), V.int ↑lo, V.int ↑hi]) H := fun hz => by
          have hn := val hz
          have z := fin _ hn
          refine ⟨_, rfl, _, _, rfl, int_T hd.2 hd.1 (by omega), by rw [lenT]; omega, ?_⟩
          generalize w.foldl (fun (n : Nat) (c : UInt8) => 10 * n + (c.toNat - 48)) 0 = n at z
          refine ⟨_, rfl, _, rfl, _, _, rfl, rfl, _, rfl, ?_⟩
          refine ite2 (fun h4 => ?_) (fun h4 => ?_)
          · have := of_decide_eq_true h4
            rw [if_pos (.inl (by omega))] at z
            exact z
          · have h5 := of_decide_eq_false (Bool.eq_false_iff.mpr h4)
            refine ⟨_, rfl, _, rfl, _, _, rfl, rfl, _, rfl, ?_⟩
            refine ite2 (fun h6 => ?_) (fun h6 => ?_)
            · have := of_decide_eq_true h6
              rw [if_pos (.inr (by omega))] at z
              exact z
            · have h7 := of_decide_eq_false (Bool.eq_false_iff.mpr h6)
              rw [if_neg (by omega)] at z
              exact ⟨_, rfl, z⟩
        refine ite2 (fun h4 => ?_) (fun h4 => ?_)
        · have hc := (one_zero c).mp (of_decide_eq_true h4)
          refine ⟨_, rfl, rfl, _, rfl, ?_⟩
          refine ite2 (fun h5 => ?_) (fun h5 => ?_)
          · refine fin0 ?_
            unfold numberOf
            refine if_pos (.inr (.inr ⟨by rw [ew, hc] <;> rfl, fun q => ?_⟩))
            exact absurd h5 (by rw [decide_eq_true ((all_zero w).mpr q)]; decide)
          · refine rest fun _ => ?_
            by_cases q : V.str (RT.T w) = V.str (Str.ofString "0")
            · exact (all_zero w).mp q
            · rw [decide_eq_false q] at h5
              exact absurd rfl h5
        · refine rest fun q => ?_
          rw [ew] at q
          have hc : c = 48 := Option.some.inj q
          rw [decide_eq_true ((one_zero c).mpr hc)] at h4
          exact absurd rfl h4
end
end RD
namespace RD
open PySem PySem.Spec PyProof.Rows L2 RX RT
open Tote (Bytes numberOf)
/-! ### the plain classes -/
/-- everything but what stands at p is as it was -/
def But (p : Addr) (H H' : Hp) : Prop := ∀ b o, H b = some o → b ≠ p → H' b = some o
theorem But.same {p : Addr} {H H' : Hp} (h : But p H H') (n : H p = none) : Same H H' := fun b o e => h b o e (ne_of_none e n)
theorem But.of {p : Addr} {H H1 H' : Hp} (s : Same H H1) (h : But p H1 H') : But p H H' := fun b o e ne => h b o (s b o e) ne
theorem But.on {p : Addr} {H H1 H' : Hp} (h : But p H H1) (s : Same H1 H') : But p H H' := fun b o e ne => s b o (h b o e ne)
def two (f g : Str) (x y : V) : List (Str × V) := putF g y (putF f x [])
def three (f g h : Str) (x y z : V) : List (Str × V) := putF h z (two f g x y)
def spIn2 (C : Addr) (f g : Str) : Sp := fun vs H Q _ => ∃ (p dx : Addr) (x y : V), vs = [.ref p, x, y] ∧ H p = some (.ins C dx []) ∧ ∀ H', H' p = some (.ins C dx (two f g x y)) → But p H H' → Q .non H'
def spIn3 (C : Addr) (f g h : Str) : Sp := fun vs H Q _ => ∃ (p dx : Addr) (x y z : V), vs = [.ref p, x, y, z] ∧ H p = some (.ins C dx []) ∧ ∀ H', H' p = some (.ins C dx (three f g h x y z)) → But p H H' → Q .non H'
abbrev sWord : Stmt := inClass (top 17) 0
abbrev sArr : Stmt := inClass (top 16) 0
abbrev sDay : Stmt := inClass (top 48) 0
abbrev sRace : Stmt := inClass (top 35) 0
abbrev sPl : Stmt := inClass (top 36) 0
abbrev sCd : Stmt := inClass (top 37) 0
structure TxW (K : PySem.W.Frag) (C : Addr) : Prop where
  cl : Cls K C
  n1 : NoAttr K C "text"
  n2 : NoAttr K C "place"
structure TxA (K : PySem.W.Frag) (C : Addr) : Prop where
  cl : Cls K C
  n1 : NoAttr K C "state"
  n2 : NoAttr K C "groups"
  n3 : NoAttr K C "out"
structure TxD (K : PySem.W.Frag) (C : Addr) : Prop where
  cl : Cls K C
  n1 : NoAttr K C "races"
  n2 : NoAttr K C "arrivals"
  n3 : NoAttr K C "pools"
structure TxPl (K : PySem.W.Frag) (C : Addr) : Prop where
  cl : Cls K C
  n1 : NoAttr K C "kind"
  n2 : NoAttr K C "k"
  n3 : NoAttr K C "race"
structure TxCd (K : PySem.W.Frag) (C : Addr) : Prop where
  cl : Cls K C
  n1 : NoAttr K C "races"
  n2 : NoAttr K C "pools"
structure TxR (K : PySem.W.Frag) (C : Addr) : Prop where
  cl : Cls K C
  n1 : NoAttr K C "runners"
  n2 : NoAttr K C "heads"
section
variable {P : Program} {w : World} {K : PySem.W.Frag} {mg : Str → Option Value} {base : Heap}
theorem scW : FnScope ["self", "text", "place"] ["self", "text", "place"] (defScope sWord) := ⟨rfl, rfl, rfl, by decide +kernel, rfl, by decide +kernel, by decide +kernel⟩
theorem ok_word {f C : Addr} {fd : FuncData} (F : Fun K "__init__" "Word.__init__" sWord f fd) (Tx : TxW K C) : FnOk P w K mg base CX0 1 f fd ["self", "text", "place"] (spIn2 C "text" "place") := by
  refine F.ok scW (fun vs H Q E h => ?_) (fun cdv A outer s H vs Q E hr h => ?_)
  · obtain ⟨p, dx, x, y, rfl, _⟩ := h
    rfl
  · obtain ⟨p, dx, x, y, rfl, hp, k⟩ := h
    refine ⟨_, pss_cons (ps_fld (pv 0) (pv 1) rfl) (pss_one (ps_fld (pv 0) (pv 2) rfl)), ?_⟩
    refine ⟨_, rfl, _, rfl, p, C, dx, _, rfl, hp, Tx.cl, Tx.n1, (by show 0 < 1000; decide), ?_⟩
    refine ⟨_, rfl, _, rfl, p, C, dx, _, rfl, upd_same, Tx.cl, Tx.n2, (by show 1 < 1000; decide), ?_⟩
    exact k _ upd_same fun b o e hb => by rw [upd_ne hb, upd_ne hb]; exact e
theorem scD : FnScope ["self", "races", "pools", "arrivals"] ["self", "races", "pools", "arrivals"] (defScope sDay) := ⟨rfl, rfl, rfl, by decide +kernel, rfl, by decide +kernel, by decide +kernel⟩
theorem ok_day {f C : Addr} {fd : FuncData} (F : Fun K "__init__" "Day.__init__" sDay f fd) (Tx : TxD K C) : FnOk P w K mg base CX0 1 f fd ["self", "races", "pools", "arrivals"] (spIn3 C "races" "pools" "arrivals") := by
  refine F.ok scD (fun vs H Q E h => ?_) (fun cdv A outer s H vs Q E hr h => ?_)
  · obtain ⟨p, dx, x, y, z, rfl, _⟩ := h
    rfl
  · obtain ⟨p, dx, x, y, z, rfl, hp, k⟩ := h
    refine ⟨_, pss_cons (ps_fld (pv 0) (pv 1) rfl) (pss_cons (ps_fld (pv 0) (pv 2) rfl) (pss_one (ps_fld (pv 0) (pv 3) rfl))), ?_⟩
    refine ⟨_, rfl, _, rfl, p, C, dx, _, rfl, hp, Tx.cl, Tx.n1, (by show 0 < 1000; decide), ?_⟩
    refine ⟨_, rfl, _, rfl, p, C, dx, _, rfl, upd_same, Tx.cl, Tx.n3, (by show 1 < 1000; decide), ?_⟩
    refine ⟨_, rfl, _, rfl, p, C, dx, _, rfl, upd_same, Tx.cl, Tx.n2, (by show 2 < 1000; decide), ?_⟩
    exact k _ upd_same fun b o e hb => by rw [upd_ne hb, upd_ne hb, upd_ne hb]; exact e
theorem scPl : FnScope ["self", "kind", "k", "race"] ["self", "kind", "k", "race"] (defScope sPl) := ⟨rfl, rfl, rfl, by decide +kernel, rfl, by decide +kernel, by decide +kernel⟩
theorem ok_pl {f C : Addr} {fd : FuncData} (F : Fun K "__init__" "Pool.__init__" sPl f fd) (Tx : TxPl K C) : FnOk P w K mg base CX0 1 f fd ["self", "kind", "k", "race"] (spIn3 C "kind" "k" "race") := by
  refine F.ok scPl (fun vs H Q E h => ?_) (fun cdv A outer s H vs Q E hr h => ?_)
  · obtain ⟨p, dx, x, y, z, rfl, _⟩ := h
    rfl
  · obtain ⟨p, dx, x, y, z, rfl, hp, k⟩ := h
    refine ⟨_, pss_cons (ps_fld (pv 0) (pv 1) rfl) (pss_cons (ps_fld (pv 0) (pv 2) rfl) (pss_one (ps_fld (pv 0) (pv 3) rfl))), ?_⟩
    refine ⟨_, rfl, _, rfl, p, C, dx, _, rfl, hp, Tx.cl, Tx.n1, (by show 0 < 1000; decide), ?_⟩
    refine ⟨_, rfl, _, rfl, p, C, dx, _, rfl, upd_same, Tx.cl, Tx.n2, (by show 1 < 1000; decide), ?_⟩
    refine ⟨_, rfl, _, rfl, p, C, dx, _, rfl, upd_same, Tx.cl, Tx.n3, (by show 2 < 1000; decide), ?_⟩
    exact k _ upd_same fun b o e hb => by rw [upd_ne hb, upd_ne hb, upd_ne hb]; exact e
theorem scCd : FnScope ["self", "races", "pools"] ["self", "races", "pools"] (defScope sCd) := ⟨rfl, rfl, rfl, by decide +kernel, rfl, by decide +kernel, by decide +kernel⟩
theorem ok_cd {f C : Addr} {fd : FuncData} (F : Fun K "__init__" "Card.__init__" sCd f fd) (Tx : TxCd K C) : FnOk P w K mg base CX0 1 f fd ["self", "races", "pools"] (spIn2 C "races" "pools") := by
  refine F.ok scCd (fun vs H Q E h => ?_) (fun cdv A outer s H vs Q E hr h => ?_)
  · obtain ⟨p, dx, x, y, rfl, _⟩ := h
    rfl
  · obtain ⟨p, dx, x, y, rfl, hp, k⟩ := h
    refine ⟨_, pss_cons (ps_fld (pv 0) (pv 1) rfl) (pss_one (ps_fld (pv 0) (pv 2) rfl)), ?_⟩
    refine ⟨_, rfl, _, rfl, p, C, dx, _, rfl, hp, Tx.cl, Tx.n1, (by show 0 < 1000; decide), ?_⟩
    refine ⟨_, rfl, _, rfl, p, C, dx, _, rfl, upd_same, Tx.cl, Tx.n2, (by show 1 < 1000; decide), ?_⟩
    exact k _ upd_same fun b o e hb => by rw [upd_ne hb, upd_ne hb]; exact e
theorem scA : FnScope ["self", "state", "groups", "out"] ["self", "state", "groups", "out"] (defScope sArr) := ⟨rfl, rfl, rfl, by decide +kernel, rfl, by decide +kernel, by decide +kernel⟩
theorem ok_arr {f C : Addr} {fd : FuncData} (F : Fun K "__init__" "Arrival.__init__" sArr f fd) (Tx : TxA K C) : FnOk P w K mg base CX0 1 f fd ["self", "state", "groups", "out"] (spIn3 C "state" "groups" "out") := by
  refine F.ok scA (fun vs H Q E h => ?_) (fun cdv A outer s H vs Q E hr h => ?_)
  · obtain ⟨p, dx, x, y, z, rfl, _⟩ := h
    rfl
  · obtain ⟨p, dx, x, y, z, rfl, hp, k⟩ := h
    refine ⟨_, pss_cons (ps_fld (pv 0) (pv 1) rfl) (pss_cons (ps_fld (pv 0) (pv 2) rfl) (pss_one (ps_fld (pv 0) (pv 3) rfl))), ?_⟩
    refine ⟨_, rfl, _, rfl, p, C, dx, _, rfl, hp, Tx.cl, Tx.n1, (by show 0 < 1000; decide), ?_⟩
    refine ⟨_, rfl, _, rfl, p, C, dx, _, rfl, upd_same, Tx.cl, Tx.n2, (by show 1 < 1000; decide), ?_⟩
    refine ⟨_, rfl, _, rfl, p, C, dx, _, rfl, upd_same, Tx.cl, Tx.n3, (by show 2 < 1000; decide), ?_⟩
    exact k _ upd_same fun b o e hb => by rw [upd_ne hb, upd_ne hb, upd_ne hb]; exact e
/-! ### a race: its runners, a list of heads -/
def natV (l : List Nat) : List V := l.map fun (n : Nat) => V.int (n : Int)
theorem natV_len (l : List Nat) : (natV l).length = l.length := List.length_map ..
theorem natV_at {l : List Nat} {i : Nat} {x : V} (h : (natV l)[i]? = some x) : ∃ n, l[i]? = some n ∧ x = V.int (n : Int) := by
  unfold natV at h
  rw [List.getElem?_map] at h
  obtain ⟨c, hc, e⟩ := Option.map_eq_some_iff.mp h
  exact ⟨c, hc, e.symm⟩
theorem natV_get {l : List Nat} {i n : Nat} (h : l[i]? = some n) : (natV l)[i]? = some (V.int (n : Int)) := by
  unfold natV
  rw [List.getElem?_map, h]
  rfl
/-- the list of heads of a race -/
def headsL (r : Tote.Race) : List Nat := (List.range (r.runners + 1)).map r.head
/-- at p a race r, its list at l -/
structure RaceAt (C : Addr) (H : Hp) (p l : Addr) (r : Tote.Race) : Prop where
  ins : ∃ dx, H p = some (.ins C dx (two "runners" "heads" (.int (r.runners : Int)) (.ref l)))
  hs : H l = some (.lst (natV (headsL r)))
theorem RaceAt.on {C p l : Addr} {H H' : Hp} {r : Tote.Race} (h : RaceAt C H p l r) (s : Same H H') : RaceAt C H' p l r := by
  obtain ⟨⟨dx, e⟩, e2⟩ := h
  exact ⟨⟨dx, s _ _ e⟩, s _ _ e2⟩
def spRaceI (C : Addr) : Sp := fun vs H Q _ => ∃ (p dx : Addr) (n : Nat), vs = [.ref p, .int n] ∧ n ≤ 1000 ∧ H p = some (.ins C dx []) ∧ ∀ H' l, H l = none → l ≠ p → RaceAt C H' p l ⟨n, []⟩ → But p H H' → Q .non H'
theorem scRI : FnScope ["self", "runners"] ["self", "runners"] (defScope sRace) := ⟨rfl, rfl, rfl, by decide +kernel, rfl, by decide +kernel, by decide +kernel⟩
theorem ok_raceI {f C : Addr} {fd : FuncData} (F : Fun K "__init__" "Race.__init__" sRace f fd) (Tx : TxR K C) (Tl : TxLen mg) : FnOk P w K mg base CX0 1 f fd ["self", "runners"] (spRaceI C) := by
  refine F.ok scRI (fun vs H Q E h => ?_) (fun cdv A outer s H vs Q E hr h => ?_)
  · obtain ⟨p, dx, n, rfl, _⟩ := h
    rfl
  · obtain ⟨p, dx, n, rfl, hn, hp, k⟩ := h
    refine ⟨_, pss_cons (ps_fld (pv 0) (pv 1) rfl) (pss_one (ps_fld (pv 0) (pe_listRg rfl (by rfl) Tl.list (prg_1 (by rfl) Tl.range (pe_op op_add (pv 1) pe_int))) rfl)), ?_⟩
    refine ⟨_, rfl, _, rfl, p, C, dx, _, rfl, hp, Tx.cl, Tx.n1, (by show 0 < 1000; decide), ?_⟩
    refine ⟨_, rfl, _, _, rfl, rfl, _, rfl, RgOk.of_le (by decide) (by omega) (by decide) (by omega), fun l hl => ?_⟩
    have hlp : l ≠ p := fun q => by rw [q, upd_same] at hl; cases hl
    rw [upd_ne hlp] at hl
    refine ⟨_, rfl, p, C, dx, _, rfl, by rw [upd_ne (Ne.symm hlp)]; exact upd_same, Tx.cl, Tx.n2, (by show 1 < 1000; decide), ?_⟩
    refine k _ l hl hlp ⟨⟨dx, upd_same⟩, ?_⟩ fun b o e hb => ?_
    · rw [upd_ne hlp, upd_same]
      congr 2
      unfold rgV natV headsL
      rw [List.map_map, show ((n : Int) + 1 - 0).toNat = n + 1 by omega]
      refine List.map_congr_left fun i _ => ?_
      show V.int (0 + (i : Int)) = V.int _
      rw [Int.zero_add]
      rfl
    · rw [upd_ne hb, upd_ne (ne_of_none e hl), upd_ne hb]
      exact e
end
end RD
namespace RD
open PySem PySem.Spec PyProof.Rows L2 RX RT
open Tote (Bytes numberOf)
open RM (bnd)
/-! ### defs and errors by their names -/
structure Cal (P : Program) (w : World) (K : PySem.W.Frag) (mg : Str → Option Value) (base : Heap) (CX : CXT) (k : Nat) (x : Str) (ps : List Str) (sp : Sp) : Prop where
  ex : ∃ (f : Addr) (fd : FuncData), FnOk P w K mg base CX k f fd ps sp ∧ mg x = some (.ref f) ∧ PySem.W.keepIn K (.ref f) = true ∧ Binds K fd ps []
structure Err0 (P : Program) (w : World) (K : PySem.W.Frag) (mg : Str → Option Value) (base : Heap) (x : Str) (C : Addr) (n : Int) : Prop where
  ex : ∃ (f : Addr) (fd : FuncData), ErrC K mg x C f ∧ FnOk P w K mg base (L2.CX P w) 2 f fd ["self"] (spIni C n) ∧ Binds K fd ["self"] []
structure ErrF (P : Program) (w : World) (K : PySem.W.Frag) (mg : Str → Option Value) (base : Heap) (C : Addr) : Prop where
  ex : ∃ (f : Addr) (fd : FuncData), ErrC K mg "Faulty" C f ∧ FnOk P w K mg base (L2.CX P w) 2 f fd ["self", "kind", "place"] (spFt C) ∧ Binds K fd ["self", "kind", "place"] []
/-- a class that is made by its name -/
structure Mak (P : Program) (w : World) (K : PySem.W.Frag) (mg : Str → Option Value) (base : Heap) (x : Str) (C : Addr) (ps : List Str) (sp : Sp) : Prop where
  ex : ∃ (f : Addr) (fd : FuncData), Mk K C f ∧ FnOk P w K mg base CX0 1 f fd ps sp ∧ mg x = some (.ref C) ∧ Binds K fd ps []
/-- a method -/
structure Met (P : Program) (w : World) (K : PySem.W.Frag) (mg : Str → Option Value) (base : Heap) (C : Addr) (m : Str) (ps : List Str) (sp : Sp) : Prop where
  ex : ∃ (f : Addr) (fd : FuncData), Cls K C ∧ Meth K C m f ∧ FnOk P w K mg base CX0 1 f fd ps sp ∧ Binds K fd ps []
section
variable {X : Cx} {k j : Nat} {C : Addr} {x m : Str} {ps : List Str} {sp : Sp} {E : XK} {n : Int} {p pos pos2 apos : Pos} {e o : Expr} {es : List Expr} {ta t : TA} {te : TE}
theorem pe_c0 (c : Cal X.prog X.w X.K X.mg X.base CX0 k x ps sp) (hr : Room j X.A) (hk : k ≤ j) (hg : Gl X x) (ha : PA X (e :: es) ta)
    (hdb : (x == ("__debug__" : Str)) = false := by decide) (he : starEach (e :: es) X.env = (false, eval e X.env) :: starEach es X.env := by rfl) (hpl : (backTo pos (starEach es X.env)).any (·.1) = false := by rfl) :
    PE X (.Call (.Name x p) (e :: es) [] pos) (tCall sp [] E0 ta) := by
  obtain ⟨f, fd, F, hm, kp, b⟩ := c.ex
  exact pe_call F (hr.mono hk) hg hm kp b .nil pass0 ha hdb he hpl
theorem pe_cx (c : Cal X.prog X.w X.K X.mg X.base (L2.CX X.prog X.w) k x ps sp) (hr : Room j X.A) (hk : k ≤ j) {W : WX} (tk : Takes X W) (hg : Gl X x) (ha : PA X (e :: es) ta)
    (hdb : (x == ("__debug__" : Str)) = false := by decide) (he : starEach (e :: es) X.env = (false, eval e X.env) :: starEach es X.env := by rfl) (hpl : (backTo pos (starEach es X.env)).any (·.1) = false := by rfl) :
    PE X (.Call (.Name x p) (e :: es) [] pos) (tCallS sp (WE W) ta) := by
  obtain ⟨f, fd, F, hm, kp, b⟩ := c.ex
  exact pe_callS F (hr.mono hk) hg hm kp b (fun σ => passAt tk σ) ha hdb he hpl
theorem ps_err (c : Err0 X.prog X.w X.K X.mg X.base x C n) (hc : X.calm = true) (hr : Room j X.A) (hk : 3 ≤ j) (tk : Takes X (wE E)) (hg : Gl X x) (hdb : (x == ("__debug__" : Str)) = false := by decide) :
    PS X (.Raise (some (.Call (.Name x p) [] [] pos)) none pos2) (tFail C (codeF n) E) := by
  obtain ⟨f, fd, T, G, b⟩ := c.ex
  exact ps_fail0 hc T G b (hr.mono hk) tk hg hdb
theorem ps_flt (c : ErrF X.prog X.w X.K X.mg X.base C) (hc : X.calm = true) (hr : Room j X.A) (hk : 3 ≤ j) (tk : Takes X (wE E)) (hg : Gl X "Faulty") (ha : PA X (e :: es) ta)
    (he : starEach (e :: es) X.env = (false, eval e X.env) :: starEach es X.env := by rfl) (hpl : (backTo pos (starEach es X.env)).any (·.1) = false := by rfl) :
    PS X (.Raise (some (.Call (.Name "Faulty" p) (e :: es) [] pos)) none pos2) (tFault C E ta) := by
  obtain ⟨f, fd, T, G, b⟩ := c.ex
  exact ps_fault hc T G b (hr.mono hk) tk hg ha (by decide) he hpl
theorem pe_mk (c : Mak X.prog X.w X.K X.mg X.base x C ps sp) (hr : Room j X.A) (hk : 2 ≤ j) (hg : Gl X x) (ha : PA X (e :: es) ta)
    (hdb : (x == ("__debug__" : Str)) = false := by decide) (he : starEach (e :: es) X.env = (false, eval e X.env) :: starEach es X.env := by rfl) (hpl : (backTo pos (starEach es X.env)).any (·.1) = false := by rfl) :
    PE X (.Call (.Name x p) (e :: es) [] pos) (tMake C sp [] E0 ta) := by
  obtain ⟨f, fd, M, F, hm, b⟩ := c.ex
  exact pe_make M F (hr.mono hk) hg hm b .nil pass0 ha hdb he hpl
theorem pe_mt {pl : Sem Bool} (c : Met X.prog X.w X.K X.mg X.base C m ps sp) (hr : Room j X.A) (hk : 1 ≤ j) (ho : PE X o te) (ha : PA X (e :: es) ta)
    (hst : starEach (e :: es) X.env = (false, eval e X.env) :: starEach es X.env := by rfl) (hpl : (backTo pos (starEach es X.env)).any (·.1) = false := by rfl)
    (ht : eval (.Call (.Attribute o m apos) (e :: es) [] pos) X.env = (do
      let ov ← eval o X.env
      standAt apos.atName
      let (f, first) ← holding [ov] (getMethod ov m pl)
      callWith pos f first (backTo pos (starEach (e :: es) X.env)) (backToKw pos (keywordEach [] X.env))) := by rfl) :
    PE X (.Call (.Attribute o m apos) (e :: es) [] pos) (tMeth C m sp [] E0 te ta) := by
  obtain ⟨f, fd, hc, hm, F, b⟩ := c.ex
  exact pe_meth (pl := pl) ho hc hm F (hr.mono hk) b .nil pass0 ha hst hpl ht
theorem pe_mt0 {pl : Sem Bool} (c : Met X.prog X.w X.K X.mg X.base C m ps sp) (hr : Room j X.A) (hk : 1 ≤ j) (ho : PE X o te)
    (ht : eval (.Call (.Attribute o m apos) [] [] pos) X.env = (do
      let ov ← eval o X.env
      standAt apos.atName
      let (f, first) ← holding [ov] (getMethod ov m pl)
      callWith pos f first (backTo pos (starEach [] X.env)) (backToKw pos (keywordEach [] X.env))) := by rfl) :
    PE X (.Call (.Attribute o m apos) [] [] pos) (tMeth C m sp [] E0 te tNil) := by
  obtain ⟨f, fd, hc, hm, F, b⟩ := c.ex
  exact pe_meth0 (pl := pl) ho hc hm F (hr.mono hk) b .nil pass0 ht
end
/-- no card -/
abbrev NoC (D : Ad) (H : Hp) (E : XK) : Prop := Fails D.cNC (codeF (-8)) H E
/-! ### read_number -/
abbrev sNum : Stmt := top 41
def spNum (D : Ad) : Sp := fun vs H Q E => ∃ (w : Bytes) (lo hi : Nat), vs = [.str (T w), .int lo, .int hi] ∧ hi ≤ 1000000 ∧ w.length ≤ 100000 ∧ (∀ n, bnd lo hi w = some n → Q (.int (n : Int)) H) ∧ (bnd lo hi w = none → NoC D H E)
section
variable {P : Program} {w : World} {K : PySem.W.Frag} {mg : Str → Option Value} {base : Heap} {D : Ad}
theorem oV_non (x : Option Nat) : oV x = V.non ↔ x = none := by
  cases x with
  | none => exact ⟨fun _ => rfl, fun _ => rfl⟩
  | some n => simp [oV]
theorem scNum : FnScope ["word", "low", "high", "number"] ["word", "low", "high"] (defScope sNum) := ⟨rfl, rfl, rfl, by decide +kernel, rfl, by decide +kernel, by decide +kernel⟩
theorem ok_num {f : Addr} {fd : FuncData} (F : Fun K "read_number" "read_number" sNum f fd) (cB : Cal P w K mg base CX0 1 "bounded_or_none" ["word", "low", "high"] spBnd) (cN : Err0 P w K mg base "NoCard" D.cNC (-8)) :
    FnOk P w K mg base (L2.CX P w) 4 f fd ["word", "low", "high"] (spNum D) := by
  refine F.okX scNum (fun vs H Q E h => ?_) (fun cdv A outer s H vs Q E hr h => ?_)
  · obtain ⟨w, lo, hi, rfl, _⟩ := h
    rfl
  · obtain ⟨w, lo, hi, rfl, hhi, hw, k1, k2⟩ := h
    refine ⟨_, pss_cons (ps_set (i := 3) scNum.nd rfl (Or.inl rfl) (pe_c0 cB hr (by decide) rfl (by exact (pa_cons (pv 0) (pa_cons (pv 1) (pa_cons (pv 2) pa_nil))))))
      (pss_cons (ps_if (pt_cmpR op_isN (pv 3) pe_non (nomark _)) (pss_one (ps_err cN rfl hr (by decide) (takes_of rfl rfl rfl rfl) rfl)) pss_nil)
      (pss_one (ps_ret (pv 3)))), ?_⟩
    refine ⟨_, rfl, _, rfl, _, rfl, w, lo, hi, rfl, hhi, hw, ?_⟩
    refine ⟨_, rfl, rfl, _, rfl, ?_⟩
    refine ite2 (fun h => ?_) (fun h => ?_)
    · exact k2 ((oV_non _).mp (of_decide_eq_true h))
    · cases hb : bnd lo hi w with
      | none => rw [hb] at h; exact absurd rfl h
      | some n => exact ⟨_, rfl, k1 n hb⟩
end
end RD
namespace RD
open PySem PySem.Spec PyProof.Rows L2 RX RT
open Tote (Bytes numberOf isName isSmall isDigit)
open RM (bnd)
def letters : List Nat := [97, 98, 99, 100, 101, 102, 103, 104, 105, 106, 107, 108, 109, 110, 111, 112, 113, 114, 115, 116, 117, 118, 119, 120, 121, 122]
theorem in_letters (c : UInt8) : (!(Builtin.Str.occurrences ⟨letters.toArray⟩ ⟨#[dz c]⟩ 0 (⟨letters.toArray⟩ : Str).length 1).isEmpty) = isSmall c := by
  have h := SX.in_one letters (dz c)
  have e : ∀ c : UInt8, decide (dz c ∈ letters) = isSmall c := all_bytes (by decide +kernel)
  rw [e c] at h
  exact h
theorem isdigit_one (c : UInt8) : Txt.isdigit ⟨#[dz c]⟩ = isDigit c := by
  have h := isdigit_T [c]
  rw [List.all_cons] at h
  simp only [List.isEmpty_cons, Bool.not_false, Bool.true_and, List.all_nil, Bool.and_true] at h
  exact h
structure TxL (mg : Str → Option Value) : Prop where
  le : ∃ t, mg "LETTERS" = some (.str ⟨letters.toArray⟩ t)
/-! ### check_name, check_day -/
abbrev sName : Stmt := top 40
abbrev sDayC : Stmt := top 39
def spName (D : Ad) : Sp := fun vs H Q E => ∃ (w : Bytes), vs = [.str (T w)] ∧ w.length ≤ 100000 ∧ (isName w = true → Q .non H) ∧ (isName w = false → NoC D H E)
/-- a list of words' texts stands at a -/
def WordsAt (K : PySem.W.Frag) (H : Hp) (a : Addr) (ws : List Bytes) : Prop := SqL K H a (ws.map fun w => V.str (T w))
theorem WordsAt.on {K : PySem.W.Frag} {H H' : Hp} {a : Addr} {ws : List Bytes} (h : WordsAt K H a ws) (s : Same H H') : WordsAt K H' a ws := s.seq h
theorem word_at {ws : List Bytes} {i : Nat} {w : Bytes} (h : ws[i]? = some w) : (ws.map fun w => V.str (T w))[i]? = some (V.str (T w)) := by
  rw [List.getElem?_map, h]
  rfl
def Short (ws : List Bytes) : Prop := ws.length ≤ 100000 ∧ ∀ w ∈ ws, w.length ≤ 100000
def spDayC (K : PySem.W.Frag) (D : Ad) : Sp := fun vs H Q E => ∃ (a : Addr) (ws : List Bytes), vs = [.ref a] ∧ WordsAt K H a ws ∧ Short ws ∧ ((RM.dayT ws).isSome = true → Q .non H) ∧ (RM.dayT ws = none → NoC D H E)
section
variable {P : Program} {w : World} {K : PySem.W.Frag} {mg : Str → Option Value} {base : Heap} {D : Ad}
theorem scName : FnScope ["word", "sign"] ["word"] (defScope sName) := ⟨rfl, rfl, rfl, by decide +kernel, rfl, by decide +kernel, by decide +kernel⟩
theorem ok_name {f : Addr} {fd : FuncData} (F : Fun K "check_name" "check_name" sName f fd) (Tl : TxLen mg) (TL : TxL mg) (cN : Err0 P w K mg base "NoCard" D.cNC (-8)) :
    FnOk P w K mg base (L2.CX P w) 4 f fd ["word"] (spName D) := by
  obtain ⟨tL, hL⟩ := TL.le
  refine F.okX scName (fun vs H Q E h => ?_) (fun cdv A outer s H vs Q E hr h => ?_)
  · obtain ⟨w, rfl, _⟩ := h
    rfl
  · obtain ⟨w, rfl, hw, k1, k2⟩ := h
    have lenT : (T w).length = w.length := T_len w
    refine ⟨_, pss_cons (ps_if (PW.pt (pw_or (pt_cmpR op_lt (pe_callB call_len_str (by rfl) Tl.len PySem.boot_len (pa_cons (pv 0) pa_nil)) pe_int (nomark _))
        (pw_or (pt_cmpR op_gt (pe_callB call_len_str (by rfl) Tl.len PySem.boot_len (pa_cons (pv 0) pa_nil)) pe_int (nomark _))
          (pw_or1 (pt_cmpR op_notIn_str (pe_item_str (pv 0) pe_int (fun _ _ => rfl)) (pe_glob (v := .str ⟨letters.toArray⟩) rfl hL ⟨_, rfl⟩) (by rfl)))))) (pss_one (ps_err cN rfl hr (by decide) (takes_of rfl rfl rfl rfl) rfl)) pss_nil)
      (pss_one (ps_for (passes_of rfl) rfl (pi_str (pv 0)) (pg_name (i := 1) scName.nd rfl (Or.inl rfl))
        (pss_one (ps_if (PW.pt (pw_and (pt_cmpR op_notIn_str (pv 1) (pe_glob (v := .str ⟨letters.toArray⟩) rfl hL ⟨_, rfl⟩) (by rfl))
          (pw_and1 (pt_not (pt_val (pe_m0 PySem.F.slot_str_isdigit PySem.F.type_str_isdigit mt_isdigit (pv 1))))))) (pss_one (ps_err cN rfl hr (by decide) (takes_of rfl rfl rfl rfl) rfl)) pss_nil)))), ?_⟩
    refine ⟨_, rfl, _, rfl, by rw [lenT]; exact Nat.le_trans hw (by decide), _, _, rfl, rfl, _, rfl, ?_⟩
    have len0 : w.length < 1 → isName w = false := fun h => by
      unfold isName
      rw [decide_eq_false (by omega)]
      rfl
    have len12 : 12 < w.length → isName w = false := fun h => by
      unfold isName
      rw [show decide (w.length ≤ Tote.NAME) = false from decide_eq_false (by show ¬ w.length ≤ 12; omega)]
      cases decide (1 ≤ w.length) <;> rfl
    refine ite2 (fun h => k2 (len0 ?_)) (fun h1 => ?_)
    · have := of_decide_eq_true h
      rw [lenT] at this
      omega
    have h1' : 1 ≤ w.length := by
      have := of_decide_eq_false (Bool.eq_false_iff.mpr h1)
      rw [lenT] at this
      omega
    refine ⟨_, rfl, _, rfl, by rw [lenT]; exact Nat.le_trans hw (by decide), _, _, rfl, rfl, _, rfl, ?_⟩
    refine ite2 (fun h => k2 (len12 ?_)) (fun h2 => ?_)
    · have := of_decide_eq_true h
      rw [lenT] at this
      omega
    have h2' : w.length ≤ 12 := by
      have := of_decide_eq_false (Bool.eq_false_iff.mpr h2)
      rw [lenT] at this
      omega
    obtain ⟨c, r, ew, e1⟩ := T_zero (w := w) (by
      cases w with
      | nil => exact absurd h1' (by decide)
      | cons c r => exact ⟨c, r, rfl⟩)
    refine ⟨_, rfl, _, _, _, rfl, rfl, by decide, by decide, by rw [lenT]; omega, e1, _, _, rfl, rfl, _, rfl, ?_⟩
    rw [in_letters]
    have isN : isName w = (w.all (fun (c : UInt8) => isSmall c || isDigit c) && isSmall c) := by
      unfold isName
      rw [decide_eq_true h1', show decide (w.length ≤ Tote.NAME) = true from decide_eq_true h2', show (w.head?.map isSmall).getD false = isSmall c by rw [ew]; rfl]
      rfl
    refine ite2 (fun h => k2 ?_) (fun h3 => ?_)
    · rw [isN]
      cases hc : isSmall c with
      | true => rw [hc] at h; exact absurd h (by decide)
      | false => exact Bool.and_false _
    have hc : isSmall c = true := by
      cases hc : isSmall c with
      | true => rfl
      | false => rw [hc] at h3; exact absurd rfl h3
    rw [hc, Bool.and_true] at isN
    have atw : ∀ (i c : Nat), (T w).cps[i]? = some c → ∃ x, w[i]? = some x ∧ c = dz x := fun i c h => by
      unfold T at h
      have h' : (w.map dz)[i]? = some c := by
        rw [← h]
        simp
      rw [List.getElem?_map] at h'
      obtain ⟨x, hx, e⟩ := Option.map_eq_some_iff.mp h'
      exact ⟨x, hx, e.symm⟩
    refine ⟨_, rfl, _, rfl, for_it walk_str (fun i σ H' => ∃ v : Option V, σ = [some (.str (T w)), v] ∧ H' = H ∧ (w.take i).all (fun (c : UInt8) => isSmall c || isDigit c) = true) ⟨none, rfl, rfl, rfl⟩ (fun _ _ _ _ _ => trivial) ?_ ?_⟩
    · rintro i y σ H1 H2 hi ⟨v, rfl, rfl, hall⟩ ⟨rfl, c, hc, rfl⟩
      obtain ⟨x, hx, rfl⟩ := atw i c hc
      have more : (isSmall x || isDigit x) = true → (w.take (i + 1)).all (fun (c : UInt8) => isSmall c || isDigit c) = true := fun h => by
        rw [List.take_add_one, hx, List.all_append, hall]
        show (true && ((isSmall x || isDigit x) && true)) = true
        rw [h]
        rfl
      have bad : (isSmall x || isDigit x) = false → isName w = false := fun h => by
        rw [isN]
        refine Bool.eq_false_iff.mpr fun q => ?_
        have := List.all_eq_true.mp q x (List.mem_of_getElem? hx)
        rw [h] at this
        cases this
      refine ⟨_, rfl, _, _, rfl, rfl, _, rfl, ?_⟩
      rw [in_letters]
      refine ite2 (fun h => ?_) (fun h => ?_)
      · have hs : isSmall x = false := by
          cases q : isSmall x with
          | false => rfl
          | true => rw [q] at h; exact absurd h (by decide)
        refine ⟨_, rfl, ⟨_, rfl⟩, _, rfl, rfl, trivial, _, rfl, ?_⟩
        rw [isdigit_one]
        refine ite2 (fun h' => k2 (bad ?_)) (fun h' => ⟨_, rfl, rfl, more ?_⟩)
        · cases q : isDigit x with
          | false => rw [hs]; rfl
          | true => rw [q] at h'; exact absurd h' (by decide)
        · cases q : isDigit x with
          | true => exact Bool.or_true _
          | false => rw [q] at h'; exact absurd rfl h'
      · have hs : isSmall x = true := by
          cases q : isSmall x with
          | true => rfl
          | false => rw [q] at h; exact absurd rfl h
        exact ⟨_, rfl, rfl, more (by rw [hs]; rfl)⟩
    · rintro σ H1 ⟨v, rfl, rfl, hall⟩
      refine k1 ?_
      rw [isN]
      have : (T w).cps.size = w.length := lenT
      rw [this, List.take_length] at hall
      exact hall
theorem scDayC : FnScope ["words"] ["words"] (defScope sDayC) := ⟨rfl, rfl, rfl, by decide +kernel, rfl, by decide +kernel, by decide +kernel⟩
theorem day_lit (w : Bytes) : V.str (T w) = V.str (Str.ofString "day") ↔ w = Tote.ascii "day" := by
  have := T_lit (s := "day") (v := Tote.ascii "day") (by decide) (by decide +kernel) w
  exact ⟨fun h => this.mp (V.str.inj h), fun h => congrArg V.str (this.mpr h)⟩
theorem ok_dayC {f : Addr} {fd : FuncData} (F : Fun K "check_day" "check_day" sDayC f fd) (Tl : TxLen mg) (cN : Err0 P w K mg base "NoCard" D.cNC (-8)) (cM : Cal P w K mg base (L2.CX P w) 4 "check_name" ["word"] (spName D)) :
    FnOk P w K mg base (L2.CX P w) 5 f fd ["words"] (spDayC K D) := by
  refine F.okX scDayC (fun vs H Q E h => ?_) (fun cdv A outer s H vs Q E hr h => ?_)
  · obtain ⟨a, ws, rfl, _⟩ := h
    rfl
  · obtain ⟨a, ws, rfl, hW, hS, k1, k2⟩ := h
    refine ⟨_, pss_cons (ps_if (PW.pt (pw_or (pt_cmpR op_ne (pe_callB call_len_seq (by rfl) Tl.len PySem.boot_len (pa_cons (pv 0) pa_nil)) pe_int (nomark _))
        (pw_or1 (pt_cmpR op_ne (pe_ix ix_list (pv 0) pe_int (fun _ _ => rfl)) pe_str (nomark _))))) (pss_one (ps_err cN rfl hr (by decide) (takes_of rfl rfl rfl rfl) rfl)) pss_nil)
      (pss_one (ps_expr (by exact (pe_cx cM hr (by decide) (takes_of rfl rfl rfl rfl) rfl (by exact (pa_cons (pe_ix ix_list (pv 0) pe_int (fun _ _ => rfl)) pa_nil)))))), ?_⟩
    refine ⟨_, rfl, a, _, rfl, .inl hW, rfl, _, rfl, ?_⟩
    have lenW : (ws.map fun w => V.str (T w)).length = ws.length := List.length_map ..
    rw [lenW]
    refine ite2 (fun h => k2 ?_) (fun h => ?_)
    · have h2 : ws.length ≠ 2 := fun q => by rw [q] at h; exact absurd h (by decide)
      match ws, h2 with
      | [], _ => rfl
      | [_], _ => rfl
      | [_, _], q => exact absurd rfl q
      | _ :: _ :: _ :: _, _ => rfl
    have h2 : ws.length = 2 := by
      by_cases q : ws.length = 2
      · exact q
      · have : V.int ((ws.length : Nat) : Int) ≠ V.int 2 := fun e => q (by have := V.int.inj e; omega)
        rw [decide_eq_false this] at h
        exact absurd rfl h
    obtain ⟨d, n, rfl⟩ : ∃ d n, ws = [d, n] := by
      match ws, h2 with
      | [d, n], _ => exact ⟨d, n, rfl⟩
    refine ⟨_, rfl, a, _, _, _, rfl, rfl, hW, atI_nat (j := 0) (word_at (i := 0) rfl), rfl, _, rfl, ?_⟩
    by_cases hd : d = Tote.ascii "day"
    · rw [decide_eq_true ((day_lit d).mpr hd)]
      refine iteF ?_
      refine ⟨_, rfl, a, _, _, _, rfl, rfl, hW, atI_nat (j := 1) (word_at (i := 1) rfl), n, rfl, hS.2 n (by simp), fun hn => k1 ?_, fun hn => k2 ?_⟩
      · show (if d = Tote.ascii "day" ∧ isName n = true then _ else none : Option Tote.Card).isSome = true
        rw [if_pos ⟨hd, hn⟩]
        rfl
      · show (if d = Tote.ascii "day" ∧ isName n = true then _ else none : Option Tote.Card) = none
        rw [if_neg (fun q => by rw [hn] at q; exact Bool.noConfusion q.2)]
    · rw [decide_eq_false (fun q => hd ((day_lit d).mp q))]
      refine iteT (k2 ?_)
      show (if d = Tote.ascii "day" ∧ isName n = true then _ else none : Option Tote.Card) = none
      rw [if_neg (fun q => hd q.1)]
end
end RD
namespace RM
open Tote
/-- couples as a card's race may have them -/
structure CInv (n : Nat) (had : List (Nat × Nat)) : Prop where
  ok : ∀ c ∈ had, 1 ≤ c.1 ∧ c.1 < c.2 ∧ c.2 ≤ n
  apart : ∀ c ∈ had, ∀ d ∈ had, c.1 ≠ d.2
  one : ∀ c ∈ had, ∀ d ∈ had, c.2 = d.2 → c = d
theorem CInv.nil (n : Nat) : CInv n [] := ⟨fun _ h => (by cases h), fun _ h => (by cases h), fun _ h => (by cases h)⟩
theorem head_free {n m : Nat} {had : List (Nat × Nat)} (h : ∀ c ∈ had, c.2 ≠ m) : Race.head ⟨n, had⟩ m = m := by
  unfold Race.head
  rw [List.find?_eq_none.mpr (fun c hc => by simpa using h c hc)]
  rfl
theorem head_of {n : Nat} {had : List (Nat × Nat)} (I : CInv n had) {c : Nat × Nat} (hc : c ∈ had) : Race.head ⟨n, had⟩ c.2 = c.1 := by
  unfold Race.head
  cases h : had.find? fun (d : Nat × Nat) => d.2 == c.2 with
  | none =>
    have := List.find?_eq_none.mp h c hc
    simp at this
  | some d =>
    have hd := List.mem_of_find?_eq_some h
    have e : d.2 = c.2 := by simpa using List.find?_some h
    rw [I.one d hd c hc e]
    rfl
theorem head_self {n m : Nat} {had : List (Nat × Nat)} (I : CInv n had) : Race.head ⟨n, had⟩ m = m ↔ ∀ c ∈ had, c.2 ≠ m := by
  constructor
  · intro h c hc q
    subst q
    rw [head_of I hc] at h
    have := (I.ok c hc).2.1
    omega
  · exact head_free
theorem head_le {n m : Nat} {had : List (Nat × Nat)} (I : CInv n had) (h : m ≤ n) : Race.head ⟨n, had⟩ m ≤ n := by
  by_cases q : ∀ c ∈ had, c.2 ≠ m
  · rw [head_free q]; exact h
  · simp only [Classical.not_forall, Decidable.not_not] at q
    obtain ⟨c, hc, rfl⟩ := q
    rw [head_of I hc]
    have := I.ok c hc
    omega
theorem head_pos {n m : Nat} {had : List (Nat × Nat)} (I : CInv n had) (h : 1 ≤ m) : 1 ≤ Race.head ⟨n, had⟩ m := by
  by_cases q : ∀ c ∈ had, c.2 ≠ m
  · rw [head_free q]; exact h
  · simp only [Classical.not_forall, Decidable.not_not] at q
    obtain ⟨c, hc, rfl⟩ := q
    rw [head_of I hc]
    exact (I.ok c hc).1
def hl (n : Nat) (had : List (Nat × Nat)) : List Nat := (List.range (n + 1)).map (Race.head ⟨n, had⟩)
theorem hl_len (n : Nat) (had : List (Nat × Nat)) : (hl n had).length = n + 1 := by simp [hl]
theorem hl_at {n m : Nat} {had : List (Nat × Nat)} (h : m ≤ n) : (hl n had)[m]? = some (Race.head ⟨n, had⟩ m) := by
  unfold hl
  rw [List.getElem?_map, List.getElem?_range (by omega)]
  rfl
theorem count_two {l : List Nat} {i j b : Nat} (hi : l[i]? = some b) (hj : l[j]? = some b) (h : i < j) : 2 ≤ l.count b := by
  have e : l = l.take (i + 1) ++ l.drop (i + 1) := (List.take_append_drop _ _).symm
  rw [e, List.count_append]
  have h1 : 0 < (l.take (i + 1)).count b := List.count_pos_iff.mpr (List.mem_of_getElem? (i := i) (by rw [List.getElem?_take, if_pos (by omega)]; exact hi))
  have h2 : 0 < (l.drop (i + 1)).count b := List.count_pos_iff.mpr (List.mem_of_getElem? (i := j - (i + 1)) (by rw [List.getElem?_drop, show i + 1 + (j - (i + 1)) = j by omega]; exact hj))
  omega
theorem count_one_of {l : List Nat} {i b : Nat} (hi : l[i]? = some b) (h : ∀ j, l[j]? = some b → j = i) : l.count b = 1 := by
  have h1 : 0 < l.count b := List.count_pos_iff.mpr (List.mem_of_getElem? hi)
  have e : l = l.take i ++ l.drop i := (List.take_append_drop _ _).symm
  have hlt : i < l.length := (List.getElem?_eq_some_iff.mp hi).1
  have h2 : (l.take i).count b = 0 := List.count_eq_zero.mpr fun hm => by
    obtain ⟨j, hj⟩ := List.mem_iff_getElem?.mp hm
    rw [List.getElem?_take] at hj
    split at hj
    · have := h j hj
      omega
    · cases hj
  have h3 : l.drop i = b :: l.drop (i + 1) := by
    rw [List.drop_eq_getElem_cons hlt]
    congr 1
    have := (List.getElem?_eq_some_iff.mp hi).2
    exact this
  have h4 : (l.drop (i + 1)).count b = 0 := List.count_eq_zero.mpr fun hm => by
    obtain ⟨j, hj⟩ := List.mem_iff_getElem?.mp hm
    rw [List.getElem?_drop] at hj
    have := h _ hj
    omega
  rw [e, List.count_append, h2, h3, List.count_cons, h4]
  simp
theorem count_is {n b : Nat} {had : List (Nat × Nat)} (I : CInv n had) (hb : b ≤ n) : (hl n had).count b = 1 ↔ (had.any fun (z : Nat × Nat) => z.1 == b || z.2 == b) = false := by
  have at_ : ∀ j v, (hl n had)[j]? = some v → j ≤ n ∧ Race.head ⟨n, had⟩ j = v := fun j v h => by
    have hj : j < n + 1 := by
      have := (List.getElem?_eq_some_iff.mp h).1
      rw [hl_len] at this
      exact this
    rw [hl_at (by omega)] at h
    exact ⟨by omega, Option.some.inj h⟩
  constructor
  · intro h
    refine Bool.eq_false_iff.mpr fun q => ?_
    obtain ⟨c, hc, e⟩ := List.any_eq_true.mp q
    simp only [Bool.or_eq_true, beq_iff_eq] at e
    by_cases hs : ∃ d ∈ had, d.2 = b
    · obtain ⟨d, hd, rfl⟩ := hs
      have : (hl n had).count d.2 = 0 := List.count_eq_zero.mpr fun hm => by
        obtain ⟨j, hj⟩ := List.mem_iff_getElem?.mp hm
        obtain ⟨hjn, hj⟩ := at_ j _ hj
        by_cases hf : ∀ c ∈ had, c.2 ≠ j
        · rw [head_free hf] at hj
          exact hf d hd hj.symm
        · simp only [Classical.not_forall, Decidable.not_not] at hf
          obtain ⟨g, hg, rfl⟩ := hf
          rw [head_of I hg] at hj
          exact I.apart g hg d hd hj
      omega
    · simp only [not_exists, not_and] at hs
      have hf := head_free (n := n) (m := b) (fun c hc q => hs c hc q)
      rcases e with e | e
      · subst e
        have h1 : (hl n had)[c.1]? = some c.1 := by rw [hl_at hb, hf]
        have h2 : (hl n had)[c.2]? = some c.1 := by rw [hl_at (I.ok c hc).2.2, head_of I hc]
        have := count_two h1 h2 (I.ok c hc).2.1
        omega
      · exact hs c hc e
  · intro h
    have h' : ∀ c ∈ had, c.1 ≠ b ∧ c.2 ≠ b := fun c hc => by
      have := List.any_eq_false.mp h c hc
      simp only [Bool.or_eq_true, beq_iff_eq, not_or] at this
      exact this
    refine count_one_of (i := b) (by rw [hl_at hb, head_free fun c hc => (h' c hc).2]) fun j hj => ?_
    obtain ⟨hjn, hj⟩ := at_ j _ hj
    by_cases hf : ∀ c ∈ had, c.2 ≠ j
    · rw [head_free hf] at hj
      exact hj
    · simp only [Classical.not_forall, Decidable.not_not] at hf
      obtain ⟨g, hg, rfl⟩ := hf
      rw [head_of I hg] at hj
      exact absurd hj (h' g hg).1
theorem mem_putB {c d : Nat × Nat} : ∀ {l : List (Nat × Nat)}, d ∈ putB c l ↔ d = c ∨ d ∈ l
  | [] => by simp [putB]
  | x :: l => by
    unfold putB
    split
    · simp
    · rw [List.mem_cons, mem_putB, List.mem_cons]
      constructor
      · rintro (h | h | h)
        · exact .inr (.inl h)
        · exact .inl h
        · exact .inr (.inr h)
      · rintro (h | h | h)
        · exact .inr (.inl h)
        · exact .inl h
        · exact .inr (.inr h)
theorem CInv.put {n a b : Nat} {had : List (Nat × Nat)} (I : CInv n had) (h1 : 1 ≤ a) (h2 : a < b) (h3 : b ≤ n) (ha : (had.any fun (z : Nat × Nat) => z.2 == a) = false) (hb : (had.any fun (z : Nat × Nat) => z.1 == b || z.2 == b) = false) :
    CInv n (putB (a, b) had) := by
  have ha' : ∀ c ∈ had, c.2 ≠ a := fun c hc => by simpa using List.any_eq_false.mp ha c hc
  have hb' : ∀ c ∈ had, c.1 ≠ b ∧ c.2 ≠ b := fun c hc => by
    have := List.any_eq_false.mp hb c hc
    simp only [Bool.or_eq_true, beq_iff_eq, not_or] at this
    exact this
  refine ⟨fun c hc => ?_, fun c hc d hd => ?_, fun c hc d hd e => ?_⟩
  · rcases mem_putB.mp hc with rfl | hc
    · exact ⟨h1, h2, h3⟩
    · exact I.ok c hc
  · rcases mem_putB.mp hc with rfl | hc
    · rcases mem_putB.mp hd with rfl | hd
      · exact Nat.ne_of_lt h2
      · exact fun q => ha' d hd q.symm
    · rcases mem_putB.mp hd with rfl | hd
      · exact (hb' c hc).1
      · exact I.apart c hc d hd
  · rcases mem_putB.mp hc with rfl | hc
    · rcases mem_putB.mp hd with rfl | hd
      · rfl
      · exact absurd e.symm (hb' d hd).2
    · rcases mem_putB.mp hd with rfl | hd
      · exact absurd e (hb' c hc).2
      · exact I.one c hc d hd e
theorem head_put {n a b m : Nat} {had : List (Nat × Nat)} (I : CInv n (putB (a, b) had)) : Race.head ⟨n, putB (a, b) had⟩ m = if m = b then a else Race.head ⟨n, had⟩ m := by
  by_cases h : m = b
  · subst h
    rw [if_pos rfl]
    exact head_of I (c := (a, m)) (mem_putB.mpr (.inl rfl))
  · rw [if_neg h]
    have J : CInv n had := ⟨fun c hc => I.ok c (mem_putB.mpr (.inr hc)), fun c hc d hd => I.apart c (mem_putB.mpr (.inr hc)) d (mem_putB.mpr (.inr hd)), fun c hc d hd => I.one c (mem_putB.mpr (.inr hc)) d (mem_putB.mpr (.inr hd))⟩
    by_cases hf : ∀ c ∈ had, c.2 ≠ m
    · rw [head_free hf, head_free]
      intro c hc
      rcases mem_putB.mp hc with rfl | hc
      · exact fun q => h q.symm
      · exact hf c hc
    · simp only [Classical.not_forall, Decidable.not_not] at hf
      obtain ⟨c, hc, rfl⟩ := hf
      rw [head_of J hc, head_of I (mem_putB.mpr (.inr hc))]
theorem hl_put {n a b : Nat} {had : List (Nat × Nat)} (I : CInv n (putB (a, b) had)) : hl n (putB (a, b) had) = (hl n had).set b a := by
  refine List.ext_getElem? fun i => ?_
  by_cases hi : i ≤ n
  · rw [hl_at hi, head_put I, List.getElem?_set, hl_at hi, hl_len]
    by_cases h : b = i
    · subst h
      rw [if_pos rfl, if_pos rfl, if_pos (by omega)]
    · rw [if_neg (fun q => h q.symm), if_neg h]
  · rw [List.getElem?_eq_none (by rw [hl_len]; omega), List.getElem?_eq_none (by rw [List.length_set, hl_len]; omega)]
/-- one couple's words -/
def coupT (n : Nat) (had : List (Nat × Nat)) (c a b : Bytes) : Option (List (Nat × Nat)) := if c = ascii "couple" then (bnd 1 n a).bind fun x =>
    if (had.any fun (z : Nat × Nat) => z.2 == x) = true then none else (bnd 1 n b).bind fun y =>
      if (decide (x < y) && !(had.any fun (z : Nat × Nat) => z.1 == y || z.2 == y)) = true then some (putB (x, y) had) else none
  else none
theorem couples_step (n k : Nat) (had : List (Nat × Nat)) (c a b : Bytes) (l : List Bytes) : couplesT n (k + 1) had (c :: a :: b :: l) = (coupT n had c a b).bind fun h => couplesT n k h l := by
  unfold coupT
  rw [couplesT]
  by_cases h1 : c = ascii "couple"
  · rw [if_pos h1, if_pos h1]
    cases bnd 1 n a with
    | none => rfl
    | some x =>
      dsimp only [Option.bind]
      by_cases h2 : (had.any fun (z : Nat × Nat) => z.2 == x) = true
      · rw [if_pos h2, if_pos h2]
      · rw [if_neg h2, if_neg h2]
        cases bnd 1 n b with
        | none => rfl
        | some y =>
          dsimp only [Option.bind]
          by_cases h3 : (decide (x < y) && !(had.any fun (z : Nat × Nat) => z.1 == y || z.2 == y)) = true
          · rw [if_pos h3, if_pos h3]
          · rw [if_neg h3, if_neg h3]
  · rw [if_neg h1, if_neg h1]
    rfl
theorem coup_parts {n : Nat} {had h : List (Nat × Nat)} {c a b : Bytes} (e : coupT n had c a b = some h) : ∃ x y, c = ascii "couple" ∧ bnd 1 n a = some x ∧ (had.any fun (z : Nat × Nat) => z.2 == x) = false ∧ bnd 1 n b = some y ∧ x < y ∧
    (had.any fun (z : Nat × Nat) => z.1 == y || z.2 == y) = false ∧ h = putB (x, y) had := by
  unfold coupT at e
  split at e
  · rename_i hc
    obtain ⟨x, hx, e⟩ := Option.bind_eq_some_iff.mp e
    split at e
    · cases e
    · rename_i h1
      obtain ⟨y, hy, e⟩ := Option.bind_eq_some_iff.mp e
      split at e
      · rename_i h2
        cases e
        rw [Bool.and_eq_true, decide_eq_true_eq, Bool.not_eq_true'] at h2
        exact ⟨x, y, hc, hx, Bool.eq_false_iff.mpr h1, hy, h2.1, h2.2, rfl⟩
      · cases e
  · cases e
theorem coup_inv {n : Nat} {had h : List (Nat × Nat)} {c a b : Bytes} (I : CInv n had) (e : coupT n had c a b = some h) : CInv n h := by
  obtain ⟨x, y, _, hx, h1, hy, h2, h3, rfl⟩ := coup_parts e
  exact I.put (bnd_num hx).2.1 h2 (bnd_num hy).2.2 h1 h3
theorem couples_len {n : Nat} : ∀ {k : Nat} {had h : List (Nat × Nat)} {l : List Bytes}, couplesT n k had l = some h → l.length % 3 = 0 ∧ l.length ≤ 3 * k
  | _, _, _, [], _ => ⟨rfl, Nat.zero_le _⟩
  | 0, _, _, _ :: _, h => by simp [couplesT] at h
  | k + 1, _, _, [_], h => by simp [couplesT] at h
  | k + 1, _, _, [_, _], h => by simp [couplesT] at h
  | k + 1, had, r, c :: a :: b :: l, h => by
    rw [couples_step] at h
    obtain ⟨h1, _, e⟩ := Option.bind_eq_some_iff.mp h
    have := couples_len e
    simp only [List.length_cons]
    omega
theorem race_len {r : Race} : ∀ {l : List Bytes}, raceT l = some r → (l.length + 1) % 3 = 2 ∧ l.length + 1 ≤ 26
  | [], h => nomatch h
  | n :: cs, h => by
    unfold raceT at h
    dsimp only at h
    cases hn : bnd 2 24 n with
    | none => rw [hn] at h; cases h
    | some m =>
      rw [hn] at h
      obtain ⟨c, hc, _⟩ := Option.map_eq_some_iff.mp h
      have := couples_len hc
      simp only [List.length_cons]
      omega
theorem couples_inv {n : Nat} : ∀ {k : Nat} {had h : List (Nat × Nat)} {l : List Bytes}, CInv n had → couplesT n k had l = some h → CInv n h
  | _, _, _, [], I, h => by
    have : ∀ k had, couplesT n k had [] = some had := fun k had => by cases k <;> rfl
    rw [this] at h
    cases h
    exact I
  | 0, _, _, _ :: _, _, h => by simp [couplesT] at h
  | k + 1, _, _, [_], _, h => by simp [couplesT] at h
  | k + 1, _, _, [_, _], _, h => by simp [couplesT] at h
  | k + 1, had, r, c :: a :: b :: l, I, h => by
    rw [couples_step] at h
    obtain ⟨h1, e1, e⟩ := Option.bind_eq_some_iff.mp h
    exact couples_inv (coup_inv I e1) e
/-- a race as a card may have it -/
def RInv (r : Race) : Prop := 2 ≤ r.runners ∧ r.runners ≤ 24 ∧ CInv r.runners r.couples
theorem race_inv {r : Race} : ∀ {l : List Bytes}, raceT l = some r → RInv r
  | [], h => nomatch h
  | n :: cs, h => by
    unfold raceT at h
    dsimp only at h
    cases hn : bnd 2 24 n with
    | none => rw [hn] at h; cases h
    | some m =>
      rw [hn] at h
      obtain ⟨c, hc, rfl⟩ := Option.map_eq_some_iff.mp h
      exact ⟨(bnd_num hn).2.1, (bnd_num hn).2.2, couples_inv (CInv.nil _) hc⟩
end RM
namespace RD
open PySem PySem.Spec PyProof.Rows L2 RX RT
open Tote (Bytes numberOf)
open RM (bnd RInv CInv coupT)
/-! ### a race's methods -/
abbrev sInts : Stmt := inClass (top 35) 1
abbrev sCoup : Stmt := inClass (top 35) 2
abbrev sUnc : Stmt := inClass (top 35) 3
theorem headsL_eq (r : Tote.Race) : headsL r = RM.hl r.runners r.couples := rfl
theorem headsL_at {r : Tote.Race} {m : Nat} (h : m ≤ r.runners) : (headsL r)[m]? = some (r.head m) := by
  rw [headsL_eq]
  exact RM.hl_at h
def fRace (r : Tote.Race) (l : Addr) : List (Str × V) := two "runners" "heads" (.int (r.runners : Int)) (.ref l)
theorem fRace_r (r : Tote.Race) (l : Addr) : (fRace r l).lookup ("runners" : Str) = some (.int (r.runners : Int)) := rfl
theorem fRace_h (r : Tote.Race) (l : Addr) : (fRace r l).lookup ("heads" : Str) = some (.ref l) := rfl
def spInts (C : Addr) : Sp := fun vs H Q _ => ∃ (p l : Addr) (r : Tote.Race), vs = [.ref p] ∧ RaceAt C H p l r ∧ r.runners ≤ 1000 ∧ ∀ H' q, Same H H' → H q = none → H' q = some (.lst (natV r.heads)) → Q (.ref q) H'
def spCoup (C : Addr) : Sp := fun vs H Q _ => ∃ (p l : Addr) (r : Tote.Race) (a b : Nat), vs = [.ref p, .int a, .int b] ∧ RaceAt C H p l r ∧ b ≤ r.runners ∧ Q .non (upd H l (.lst (natV ((headsL r).set b a))))
def spUnc (C : Addr) : Sp := fun vs H Q _ => ∃ (p l : Addr) (r : Tote.Race) (n : Nat), vs = [.ref p, .int n] ∧ RaceAt C H p l r ∧ Q (.bl (decide ((headsL r).count n = 1))) H
theorem natV_ints (l : List Nat) : natV l = (l.map fun (n : Nat) => (n : Int)).map V.int := by
  unfold natV
  rw [List.map_map]
  rfl
theorem natV_set (l : List Nat) (i a : Nat) : (natV l).set i (V.int (a : Int)) = natV (l.set i a) := by
  unfold natV
  rw [List.map_set]
theorem count_ints (l : List Nat) (n : Nat) : (l.map fun (n : Nat) => (n : Int)).count (n : Int) = l.count n := by
  induction l with
  | nil => rfl
  | cons x l ih =>
    rw [List.map_cons, List.count_cons, List.count_cons, ih]
    congr 1
    by_cases h : x = n
    · subst h; simp
    · rw [if_neg (by simp only [beq_iff_eq]; omega), if_neg (by simpa using h)]
section
variable {P : Program} {w : World} {K : PySem.W.Frag} {mg : Str → Option Value} {base : Heap}
theorem scUnc : FnScope ["self", "runner"] ["self", "runner"] (defScope sUnc) := ⟨rfl, rfl, rfl, by decide +kernel, rfl, by decide +kernel, by decide +kernel⟩
theorem ok_unc {f C : Addr} {fd : FuncData} (F : Fun K "uncoupled" "Race.uncoupled" sUnc f fd) (Tx : TxR K C) : FnOk P w K mg base CX0 1 f fd ["self", "runner"] (spUnc C) := by
  refine F.ok scUnc (fun vs H Q E h => ?_) (fun cdv A outer s H vs Q E hr h => ?_)
  · obtain ⟨p, l, r, n, rfl, _⟩ := h
    rfl
  · obtain ⟨p, l, r, n, rfl, R, k⟩ := h
    obtain ⟨⟨dx, hp⟩, hl⟩ := R
    refine ⟨_, pss_one (ps_ret (pe_cmpR op_eq (pe_bm PySem.F.plainAttrs_list PySem.F.slot_list_count PySem.F.type_list_count mt_lcount (pe_fld (pv 0) rfl) (pa_cons (pv 1) pa_nil)) pe_int (nomark _))), ?_⟩
    refine ⟨_, rfl, p, C, dx, _, _, rfl, hp, Tx.cl, Tx.n2, fRace_h r l, .inl ⟨rfl, _, SqL.of hl⟩, _, rfl, l, _, _, rfl, rfl, SqL.of (by rw [← natV_ints]; exact hl), rfl, ?_⟩
    rw [count_ints]
    have e : decide (V.int (((headsL r).count n : Nat) : Int) = V.int 1) = decide ((headsL r).count n = 1) := by
      by_cases h : (headsL r).count n = 1
      · rw [h]; rfl
      · rw [decide_eq_false h, decide_eq_false (fun q => h (by have := V.int.inj q; omega))]
    rw [e]
    exact k
theorem scCoup : FnScope ["self", "a", "b"] ["self", "a", "b"] (defScope sCoup) := ⟨rfl, rfl, rfl, by decide +kernel, rfl, by decide +kernel, by decide +kernel⟩
theorem ok_coup {f C : Addr} {fd : FuncData} (F : Fun K "couple" "Race.couple" sCoup f fd) (Tx : TxR K C) : FnOk P w K mg base CX0 1 f fd ["self", "a", "b"] (spCoup C) := by
  refine F.ok scCoup (fun vs H Q E h => ?_) (fun cdv A outer s H vs Q E hr h => ?_)
  · obtain ⟨p, l, r, a, b, rfl, _⟩ := h
    rfl
  · obtain ⟨p, l, r, a, b, rfl, R, hb, k⟩ := h
    obtain ⟨⟨dx, hp⟩, hl⟩ := R
    refine ⟨_, pss_one (ps_asg (pv 1) (pg_sub (pe_fld (pv 0) rfl) (pv 2) set_list)), ?_⟩
    refine ⟨_, rfl, _, rfl, p, C, dx, _, _, rfl, hp, Tx.cl, Tx.n2, fRace_h r l, _, rfl, l, _, (b : Int), b, rfl, rfl, hl, ?_, ?_⟩
    · have := RM.hl_len r.runners r.couples
      unfold ixN
      rw [natV_len, headsL_eq, this, if_pos (by omega), if_pos (by omega)]
      simp
    · rw [natV_set]
      exact k
theorem scInts : FnScope ["self", "runner"] ["self"] (defScope sInts) := ⟨rfl, rfl, rfl, by decide +kernel, rfl, by decide +kernel, by decide +kernel⟩
theorem ok_ints {f C : Addr} {fd : FuncData} (F : Fun K "interests" "Race.interests" sInts f fd) (Tx : TxR K C) (Tl : TxLen mg) : FnOk P w K mg base CX0 1 f fd ["self"] (spInts C) := by
  refine F.ok scInts (fun vs H Q E h => ?_) (fun cdv A outer s H vs Q E hr h => ?_)
  · obtain ⟨p, l, r, rfl, _⟩ := h
    rfl
  · obtain ⟨p, l, r, rfl, R, hn, k⟩ := h
    obtain ⟨⟨dx, hp⟩, hl⟩ := R
    refine ⟨_, pss_one (ps_ret (pe_lc (own := [("runner", 1)]) (g := gName 1) (tt := tTest (tOp rEq (tOp (rIxL K) (tFld K (tVar 0) "heads") (tVar 1)) (tVar 1))) rfl scInts.nd (pi_range2 (by rfl) Tl.range (pa_cons pe_int (pa_cons (pe_op op_add (pe_fld (pv 0) rfl) pe_int) pa_nil))) (blkOk_by (N := ["self", "runner"]) (sc := defScope sInts) (by decide +kernel))
        (fun _ _ _ _ _ => pg_name (i := 1) scInts.nd rfl (Or.inl rfl)) (fun _ _ _ _ _ => pts_one (pt_cmpR op_eq (pe_ix ix_list (pe_fld (pv 0) rfl) (pv 1) (fun _ _ => rfl)) (pv 1) (nomark _)))
        (fun _ _ _ _ _ => pv 1))), ?_⟩
    refine ⟨_, rfl, p, C, dx, _, _, rfl, hp, Tx.cl, Tx.n1, fRace_r r l, _, _, rfl, rfl, _, _, rfl, ⟨by omega, by omega, by omega, by omega⟩, fun D hD => ?_⟩
    have s0 : Same H (upd H D (.lst [])) := same_upd hD
    have e0 : ((r.runners : Int) + 1 - 1).toNat = r.runners := by omega
    refine lc_it walk_range (fun i H' => H' D = some (.lst (natV ((((List.range i).map fun (i : Nat) => i + 1).filter fun (n : Nat) => r.head n == n)))) ∧ Same H H') ⟨upd_same, s0⟩ (fun _ _ _ _ => trivial) ?_ ?_
    · rintro i x H1 H2 hi ⟨q1, q2⟩ ⟨rfl, rfl⟩
      rw [e0] at hi
      have h1 : (headsL r)[i + 1]? = some (r.head (i + 1)) := headsL_at (by omega)
      refine ⟨rfl, _, rfl, p, C, dx, _, _, rfl, q2 _ _ hp, Tx.cl, Tx.n2, fRace_h r l, _, rfl, l, _, _, _, rfl, rfl, SqL.of (q2 _ _ hl), at_of (j := i + 1) (by omega) (natV_get h1), _, rfl, rfl, _, rfl, ?_⟩
      have step : ((List.range (i + 1)).map fun (i : Nat) => i + 1).filter (fun (n : Nat) => r.head n == n) = ((List.range i).map fun (i : Nat) => i + 1).filter (fun (n : Nat) => r.head n == n) ++ (if r.head (i + 1) = i + 1 then [i + 1] else []) := by
        rw [List.range_succ, List.map_append, List.filter_append]
        congr 1
        show List.filter _ [i + 1] = _
        by_cases h : r.head (i + 1) = i + 1
        · rw [if_pos h, List.filter_cons, if_pos (by simpa using h)]
          rfl
        · rw [if_neg h, List.filter_cons, if_neg (by simpa using h)]
          rfl
      by_cases h : r.head (i + 1) = i + 1
      · rw [decide_eq_true (show V.int ((r.head (i + 1) : Nat) : Int) = V.int (1 + (i : Int)) by rw [h]; congr 1; omega)]
        refine iteT ?_
        refine ⟨_, rfl, _, q1, ?_, ?_, q2.put hD⟩
        · rw [natV_len]
          exact Nat.lt_of_le_of_lt (Nat.le_trans (List.length_filter_le _ _) (by rw [List.length_map, List.length_range]; omega)) (show 1000 < sizeLine by decide)
        · rw [upd_same, step, if_pos h]
          unfold natV
          rw [List.map_append]
          congr 3
          show [V.int (1 + (i : Int))] = [V.int _]
          congr 2
          omega
      · rw [decide_eq_false (fun q => h (by have := V.int.inj q; omega))]
        refine iteF ?_
        refine ⟨?_, q2⟩
        rw [step, if_neg h, List.append_nil]
        exact q1
    · rintro H1 ⟨q1, q2⟩
      rw [e0] at q1
      exact k H1 D q2 hD q1
end
end RD
namespace RD
open PySem PySem.Spec PyProof.Rows L2 RX RT
open Tote (Bytes numberOf)
open RM (bnd RInv CInv coupT)
abbrev sRC : Stmt := top 43
abbrev sRR : Stmt := top 42
def spRC (K : PySem.W.Frag) (D : Ad) : Sp := fun vs H Q E => ∃ (aw p l : Addr) (w0 w1 w2 : Bytes) (r : Tote.Race), vs = [.ref aw, .ref p] ∧ WordsAt K H aw [w0, w1, w2] ∧ Short [w0, w1, w2] ∧ RaceAt D.cRc H p l r ∧ r.runners ≤ 24 ∧ CInv r.runners r.couples ∧
  (∀ cs, coupT r.runners r.couples w0 w1 w2 = some cs → Q .non (upd H l (.lst (natV (headsL ⟨r.runners, cs⟩))))) ∧ (coupT r.runners r.couples w0 w1 w2 = none → NoC D H E)
/-- a race's class and its methods -/
structure TxRc (P : Program) (w : World) (K : PySem.W.Frag) (mg : Str → Option Value) (base : Heap) (D : Ad) : Prop where
  tx : TxR K D.cRc
  mak : Mak P w K mg base "Race" D.cRc ["self", "runners"] (spRaceI D.cRc)
  inter : Met P w K mg base D.cRc "interests" ["self"] (spInts D.cRc)
  coup : Met P w K mg base D.cRc "couple" ["self", "a", "b"] (spCoup D.cRc)
  unc : Met P w K mg base D.cRc "uncoupled" ["self", "runner"] (spUnc D.cRc)
theorem couple_lit (w : Bytes) : V.str (T w) = V.str (Str.ofString "couple") ↔ w = Tote.ascii "couple" := by
  have := T_lit (s := "couple") (v := Tote.ascii "couple") (by decide) (by decide +kernel) w
  exact ⟨fun h => this.mp (V.str.inj h), fun h => congrArg V.str (this.mpr h)⟩
theorem fRace_m (r : Tote.Race) (l : Addr) {m : Str} (h1 : ¬ m = "runners") (h2 : ¬ m = "heads") : (fRace r l).lookup m = none := by
  unfold fRace two
  rw [lookup_putF, if_neg h2, lookup_putF, if_neg h1]
  rfl
section
variable {P : Program} {w : World} {K : PySem.W.Frag} {mg : Str → Option Value} {base : Heap} {D : Ad}
theorem scRC : FnScope ["words", "race", "a", "b"] ["words", "race"] (defScope sRC) := ⟨rfl, rfl, rfl, by decide +kernel, rfl, by decide +kernel, by decide +kernel⟩
theorem ok_rc {f : Addr} {fd : FuncData} (F : Fun K "read_couple" "read_couple" sRC f fd) (R : TxRc P w K mg base D) (cN : Err0 P w K mg base "NoCard" D.cNC (-8)) (cM : Cal P w K mg base (L2.CX P w) 4 "read_number" ["word", "low", "high"] (spNum D)) :
    FnOk P w K mg base (L2.CX P w) 5 f fd ["words", "race"] (spRC K D) := by
  refine F.okX scRC (fun vs H Q E h => ?_) (fun cdv A outer s H vs Q E hr h => ?_)
  · obtain ⟨aw, p, l, w0, w1, w2, r, rfl, _⟩ := h
    rfl
  · obtain ⟨aw, p, l, w0, w1, w2, r, rfl, hW, hS, hR, hn, hI, k1, k2⟩ := h
    have Tx := R.tx
    obtain ⟨dx, hp⟩ := hR.ins
    refine ⟨_, pss_cons (ps_if (pt_cmpR op_ne (pe_ix ix_list (pv 0) pe_int (fun _ _ => rfl)) pe_str (nomark _)) (pss_one (ps_err cN rfl hr (by decide) (takes_of rfl rfl rfl rfl) rfl)) pss_nil)
      (pss_cons (ps_set (i := 2) scRC.nd rfl (Or.inl rfl) (by exact (pe_cx cM hr (by decide) (takes_of rfl rfl rfl rfl) rfl (by exact (pa_cons (pe_ix ix_list (pv 0) pe_int (fun _ _ => rfl)) (pa_cons pe_int (pa_cons (pe_fld (pv 1) rfl) pa_nil)))))))
      (pss_cons (ps_set (i := 3) scRC.nd rfl (Or.inl rfl) (by exact (pe_cx cM hr (by decide) (takes_of rfl rfl rfl rfl) rfl (by exact (pa_cons (pe_ix ix_list (pv 0) pe_int (fun _ _ => rfl)) (pa_cons pe_int (pa_cons (pe_fld (pv 1) rfl) pa_nil)))))))
      (pss_cons (ps_if (PW.pt (pw_or (pt_cmpR op_ge (pv 2) (pv 3) (nomark _)) (pw_or (pt_cmpR op_ne (pe_ix ix_list (pe_fld (pv 1) rfl) (pv 2) (fun _ _ => rfl)) (pv 2) (nomark _)) (pw_or1 (pt_not (pt_val (pe_mt R.unc hr (by decide) (pv 1) (by exact (pa_cons (pv 3) pa_nil)))))))))
        (pss_one (ps_err cN rfl hr (by decide) (takes_of rfl rfl rfl rfl) rfl)) pss_nil)
      (pss_one (ps_expr (by exact (pe_mt R.coup hr (by decide) (pv 1) (by exact (pa_cons (pv 2) (pa_cons (pv 3) pa_nil)))))))))), ?_⟩
    have no : ∀ {x : Option (List (Nat × Nat))}, x = coupT r.runners r.couples w0 w1 w2 → x = none → NoC D H E := fun h h2 => k2 (h.symm.trans h2)
    refine ⟨_, rfl, aw, _, _, _, rfl, rfl, hW, atI_nat (j := 0) (word_at (i := 0) rfl), rfl, _, rfl, ?_⟩
    by_cases h0 : w0 = Tote.ascii "couple"
    · rw [decide_eq_true ((couple_lit w0).mpr h0)]
      refine iteF ?_
      have c0 : coupT r.runners r.couples w0 w1 w2 = (bnd 1 r.runners w1).bind fun x => if (r.couples.any fun (z : Nat × Nat) => z.2 == x) = true then none else (bnd 1 r.runners w2).bind fun y =>
          if (decide (x < y) && !(r.couples.any fun (z : Nat × Nat) => z.1 == y || z.2 == y)) = true then some (Tote.putB (x, y) r.couples) else none := if_pos h0
      refine ⟨_, rfl, aw, _, _, _, rfl, rfl, hW, atI_nat (j := 1) (word_at (i := 1) rfl), _, rfl, p, _, dx, _, _, rfl, hp, Tx.cl, Tx.n1, fRace_r r l, w1, 1, r.runners, rfl, by omega, hS.2 w1 (by simp), fun x hx => ?_, fun hx => k2 (by rw [c0, hx]; rfl)⟩
      rw [hx] at c0
      refine ⟨_, rfl, aw, _, _, _, rfl, rfl, hW, atI_nat (j := 2) (word_at (i := 2) rfl), _, rfl, p, _, dx, _, _, rfl, hp, Tx.cl, Tx.n1, fRace_r r l, w2, 1, r.runners, rfl, by omega, hS.2 w2 (by simp), fun y hy => ?_, fun hy => k2 (by rw [c0, hy]; show (if _ then _ else _) = _; split <;> rfl)⟩
      rw [hy] at c0
      obtain ⟨_, x1, x2⟩ := RM.bnd_num hx
      obtain ⟨_, y1, y2⟩ := RM.bnd_num hy
      refine ⟨_, rfl, _, rfl, _, _, rfl, rfl, _, rfl, ?_⟩
      refine ite2 (fun h => k2 ?_) (fun h => ?_)
      · have hxy : ¬ x < y := by
          have := of_decide_eq_true h
          omega
        rw [c0]
        show (if _ then _ else (if _ then _ else _) : Option (List (Nat × Nat))) = _
        rw [decide_eq_false hxy, Bool.false_and, if_neg Bool.false_ne_true]
        split <;> rfl
      have hxy : x < y := by
        have := of_decide_eq_false (Bool.eq_false_iff.mpr h)
        omega
      have hxa : (headsL r)[x]? = some (r.head x) := headsL_at x2
      refine ⟨_, rfl, p, _, dx, _, _, rfl, hp, Tx.cl, Tx.n2, fRace_h r l, _, rfl, l, _, _, _, rfl, rfl, SqL.of hR.hs, at_of (j := x) rfl (natV_get hxa), _, rfl, rfl, _, rfl, ?_⟩
      have hself := RM.head_self (m := x) hI
      by_cases h1 : (r.couples.any fun (z : Nat × Nat) => z.2 == x) = true
      · have hne : r.head x ≠ x := fun q => by
          obtain ⟨c, hc, e⟩ := List.any_eq_true.mp h1
          exact hself.mp q c hc (by simpa using e)
        rw [decide_eq_false (show ¬ V.int ((r.head x : Nat) : Int) = V.int (x : Int) from fun q => hne (by have := V.int.inj q; omega))]
        refine iteT (k2 ?_)
        rw [c0]
        exact if_pos h1
      have hsame : r.head x = x := hself.mpr fun c hc q => h1 (List.any_eq_true.mpr ⟨c, hc, by simpa using q⟩)
      rw [decide_eq_true (show V.int ((r.head x : Nat) : Int) = V.int (x : Int) by rw [hsame])]
      refine iteF ?_
      refine ⟨_, rfl, p, dx, _, rfl, hp, fRace_m r l (by decide +kernel) (by decide +kernel), _, rfl, p, l, r, y, rfl, hR, ?_⟩
      have hcount : (headsL r).count y = 1 ↔ (r.couples.any fun (z : Nat × Nat) => z.1 == y || z.2 == y) = false := RM.count_is hI (b := y) y2
      refine ⟨_, rfl, ?_⟩
      by_cases h2 : (r.couples.any fun (z : Nat × Nat) => z.1 == y || z.2 == y) = true
      · have hne : ¬ (headsL r).count y = 1 := fun q => by
          rw [hcount.mp q] at h2
          exact Bool.noConfusion h2
        rw [decide_eq_false hne]
        refine iteT (k2 ?_)
        rw [c0]
        show (if _ then _ else (if _ then _ else _) : Option (List (Nat × Nat))) = _
        rw [h2, Bool.not_true, Bool.and_false, if_neg Bool.false_ne_true]
        split <;> rfl
      have h2' : (r.couples.any fun (z : Nat × Nat) => z.1 == y || z.2 == y) = false := Bool.eq_false_iff.mpr h2
      rw [decide_eq_true (hcount.mpr h2')]
      refine iteF ?_
      refine ⟨_, rfl, p, dx, _, rfl, hp, fRace_m r l (by decide +kernel) (by decide +kernel), _, rfl, _, rfl, p, l, r, x, y, rfl, hR, y2, ?_⟩
      have hcs : coupT r.runners r.couples w0 w1 w2 = some (Tote.putB (x, y) r.couples) := by
        rw [c0]
        show (if _ then _ else (if _ then _ else _) : Option (List (Nat × Nat))) = _
        rw [if_neg h1, h2', decide_eq_true hxy]
        rfl
      have k := k1 _ hcs
      have hI2 := RM.coup_inv hI hcs
      rw [headsL_eq, RM.hl_put hI2] at k
      exact k
    · rw [decide_eq_false (fun q => h0 ((couple_lit w0).mp q))]
      refine iteT (k2 ?_)
      exact if_neg h0
end
end RD
namespace RD
open PySem PySem.Spec PyProof.Rows L2 RX RT
open Tote (Bytes numberOf)
open RM (bnd RInv CInv coupT raceT couplesT)
structure TxC (mg : Str → Option Value) : Prop where
  mc : ∃ t, mg "MOST_COUPLES" = some (.int 8 t)
def spRR (K : PySem.W.Frag) (D : Ad) : Sp := fun vs H Q E => ∃ (a : Addr) (ws : List Bytes), vs = [.ref a] ∧ WordsAt K H a ws ∧ Short ws ∧
  (∀ r, raceT ws.tail = some r → ∀ H' p l, Same H H' → RaceAt D.cRc H' p l r → Q (.ref p) H') ∧ (raceT ws.tail = none → NoC D H E)
theorem cut_words {ws : List Bytes} {i : Nat} {a b c : Bytes} {l : List Bytes} (h : ws.drop i = a :: b :: c :: l) : cutV (ws.map fun w => V.str (T w)) (some (i : Int)) (some ((i : Int) + 3)) = [a, b, c].map fun w => V.str (T w) := by
  have hl : i + 3 ≤ ws.length := by
    have := congrArg List.length h
    rw [List.length_drop] at this
    simp only [List.length_cons] at this
    omega
  unfold cutV
  rw [List.length_map, HT.sIx_nat, show ((i : Int) + 3) = ((i + 3 : Nat) : Int) by omega, HT.sIx_nat]
  rw [show min i ws.length = i by omega, show min (i + 3) ws.length = i + 3 by omega, show i + 3 - i = 3 by omega]
  rw [← List.map_drop, h]
  rfl
section
variable {P : Program} {w : World} {K : PySem.W.Frag} {mg : Str → Option Value} {base : Heap} {D : Ad}
theorem scRR : FnScope ["words", "race", "at"] ["words"] (defScope sRR) := ⟨rfl, rfl, rfl, by decide +kernel, rfl, by decide +kernel, by decide +kernel⟩
theorem ok_rr {f : Addr} {fd : FuncData} (F : Fun K "read_race" "read_race" sRR f fd) (R : TxRc P w K mg base D) (Tl : TxLen mg) (Tc : TxC mg) (cN : Err0 P w K mg base "NoCard" D.cNC (-8)) (cM : Cal P w K mg base (L2.CX P w) 4 "read_number" ["word", "low", "high"] (spNum D))
    (cC : Cal P w K mg base (L2.CX P w) 5 "read_couple" ["words", "race"] (spRC K D)) :
    FnOk P w K mg base (L2.CX P w) 6 f fd ["words"] (spRR K D) := by
  obtain ⟨tm, hm⟩ := Tc.mc
  refine F.okX scRR (fun vs H Q E h => ?_) (fun cdv A outer s H vs Q E hr h => ?_)
  · obtain ⟨a, ws, rfl, _⟩ := h
    rfl
  · obtain ⟨a, ws, rfl, hW, hS, k1, k2⟩ := h
    refine ⟨_, pss_cons (ps_if (PW.pt (pw_or (pt_cmpR op_ne (pe_op op_modN (pe_callB call_len_seq (by rfl) Tl.len PySem.boot_len (pa_cons (pv 0) pa_nil)) pe_int) pe_int (nomark _))
        (pw_or1 (pt_cmpR op_gt (pe_callB call_len_seq (by rfl) Tl.len PySem.boot_len (pa_cons (pv 0) pa_nil)) (pe_op op_add pe_int (pe_op op_mul pe_int (pe_glob (v := .int 8) rfl hm ⟨_, rfl⟩))) (nomark _))))) (pss_one (ps_err cN rfl hr (by decide) (takes_of rfl rfl rfl rfl) rfl)) pss_nil)
      (pss_cons (ps_set (i := 1) scRR.nd rfl (Or.inl rfl) (by exact (pe_mk R.mak hr (by decide) rfl (by exact (pa_cons (pe_cx cM hr (by decide) (takes_of rfl rfl rfl rfl) rfl (by exact (pa_cons (pe_ix ix_list (pv 0) pe_int (fun _ _ => rfl)) (pa_cons pe_int (pa_cons pe_int pa_nil))))) pa_nil)))))
      (pss_cons (ps_for (passes_of rfl) rfl (pi_range3 (by rfl) Tl.range (by exact (pa_cons pe_int (pa_cons (pe_callB call_len_seq (by rfl) Tl.len PySem.boot_len (pa_cons (pv 0) pa_nil)) (pa_cons pe_int pa_nil))))) (pg_name (i := 2) scRR.nd rfl (Or.inl rfl))
        (pss_one (ps_expr (by exact (pe_cx cC hr (by decide) (takes_of rfl rfl rfl rfl) rfl (by exact (pa_cons (pe_slice sl_list (pv 0) (po_some (pv 2)) (po_some (pe_op op_add (pv 2) pe_int))) (pa_cons (pv 1) pa_nil))))))))
      (pss_one (ps_ret (pv 1))))), ?_⟩
    have lenW : (ws.map fun w => V.str (T w)).length = ws.length := List.length_map ..
    refine ⟨_, rfl, a, _, rfl, .inl hW, _, _, rfl, rfl, show (3 : Int) ≠ 0 by decide, rfl, _, rfl, ?_⟩
    rw [lenW]
    have em : ((ws.length : Nat) : Int).fmod 3 = ((ws.length % 3 : Nat) : Int) := by
      rw [Int.fmod_eq_emod_of_nonneg _ (by decide)]
      rfl
    have bad : ¬ (ws.length % 3 = 2 ∧ ws.length ≤ 26) → raceT ws.tail = none := fun h => by
      cases hr : raceT ws.tail with
      | none => rfl
      | some r =>
        exfalso
        have := RM.race_len hr
        cases ws with
        | nil => cases hr
        | cons x t => exact h (by simpa using this)
    refine ite2 (fun h => k2 (bad fun q => ?_)) (fun h => ?_)
    · have h' : (!decide (V.int (((ws.length : Nat) : Int).fmod 3) = V.int 2)) = true := h
      rw [em, q.1] at h'
      exact absurd h' (by decide)
    have h1 : ws.length % 3 = 2 := by
      have h' : ¬ (!decide (V.int (((ws.length : Nat) : Int).fmod 3) = V.int 2)) = true := h
      rw [em] at h'
      by_cases q : ws.length % 3 = 2
      · exact q
      · rw [decide_eq_false (fun e => q (by have := V.int.inj e; omega))] at h'
        exact absurd rfl h'
    refine ⟨_, rfl, a, _, rfl, .inl hW, _, _, rfl, rfl, .inl ⟨by decide, by decide⟩, _, _, rfl, rfl, _, _, rfl, rfl, _, rfl, ?_⟩
    rw [lenW]
    refine ite2 (fun h => k2 (bad fun q => ?_)) (fun h => ?_)
    · have h' : decide ((2 : Int) + 3 * 8 < (ws.length : Int)) = true := h
      have := of_decide_eq_true h'
      omega
    have h2 : ws.length ≤ 26 := by
      have h' : ¬ decide ((2 : Int) + 3 * 8 < (ws.length : Int)) = true := h
      have := of_decide_eq_false (Bool.eq_false_iff.mpr h')
      omega
    obtain ⟨w0, wn, cs, rfl⟩ : ∃ w0 wn cs, ws = w0 :: wn :: cs := by
      match ws, h1 with
      | w0 :: wn :: cs, _ => exact ⟨w0, wn, cs, rfl⟩
    simp only [List.length_cons] at h1 h2
    have e0 : raceT (wn :: cs) = match bnd 2 24 wn with
      | none => none
      | some n => (couplesT n 8 [] cs).map fun c => ⟨n, c⟩ := rfl
    refine ⟨_, rfl, a, _, _, _, rfl, rfl, hW, atI_nat (j := 1) (word_at (i := 1) rfl), wn, 2, 24, rfl, by decide, hS.2 wn (by simp), fun n hn => ?_, fun hn => k2 (by show raceT (wn :: cs) = none; rw [e0, hn])⟩
    obtain ⟨_, n1, n2⟩ := RM.bnd_num hn
    rw [hn] at e0
    intro x dx nx ndx ne
    refine ⟨x, dx, n, rfl, by omega, upd_same, fun H1 l nl nlx hR hbut => ⟨rfl, ?_⟩⟩
    have s1 : Same H H1 := Same.made nx ndx fun b o e hb => hbut b o e hb
    have fl : H l = none := by
      rw [upd_ne nlx] at nl
      by_cases q : l = dx
      · rw [q, upd_same] at nl; cases nl
      · rw [upd_ne q] at nl; exact nl
    obtain ⟨m, hm3, hm8⟩ : ∃ m, cs.length = 3 * m ∧ m < 9 := ⟨cs.length / 3, by omega, by omega⟩
    have rg : ∀ m, m < 9 → RgC 2 (((3 * m + 1 + 1 : Nat)) : Int) 3 m := by
      have z : ∀ m, m < 9 → Builtin.Range.small 2 (((3 * m + 1 + 1 : Nat)) : Int) 3 = true ∧ Builtin.Range.rangeSize 2 (((3 * m + 1 + 1 : Nat)) : Int) 3 = m := by decide +kernel
      exact fun m h => ⟨by decide, by decide, (z m h).1, (z m h).2⟩
    refine ⟨_, rfl, a, _, rfl, .inl (hW.on s1), _, _, _, m, rfl, ?_, ?_⟩
    · have := rg m hm8
      rw [← hm3] at this
      rw [lenW]
      exact this
    have fin : ∀ {r : Option Tote.Race}, r = raceT (wn :: cs) → raceT (wn :: cs) = r := fun h => h.symm
    refine for_rangeC (fun i σ H' => ∃ (v : Option V) (had : List (Nat × Nat)), σ = [some (.ref a), some (.ref x), v] ∧ RaceAt D.cRc H' x l ⟨n, had⟩ ∧ CInv n had ∧ couplesT n 8 [] cs = couplesT n (8 - i) had (cs.drop (3 * i)) ∧ Same H H')
      ⟨none, [], rfl, hR, CInv.nil n, rfl, s1⟩ ?_ ?_
    · rintro i σ H2 hi ⟨v, had, rfl, hR2, hI, hc, s2⟩
      obtain ⟨c, b1, b2, rest, ed⟩ : ∃ c b1 b2 rest, cs.drop (3 * i) = c :: b1 :: b2 :: rest := by
        have hl : (cs.drop (3 * i)).length = 3 * (m - i) := by
          rw [List.length_drop]
          omega
        match hq : cs.drop (3 * i), hl with
        | [], h => simp at h; omega
        | [_], h => simp at h; omega
        | [_, _], h => simp at h; omega
        | c :: b1 :: b2 :: rest, _ => exact ⟨c, b1, b2, rest, rfl⟩
      have hmem : ∀ w ∈ c :: b1 :: b2 :: rest, w ∈ cs := fun w hw => by
        rw [← ed] at hw
        exact List.mem_of_mem_drop hw
      have e2 : (2 : Int) + (i : Int) * 3 = ((2 + 3 * i : Nat) : Int) := by omega
      refine ⟨_, rfl, _, rfl, _, rfl, _, rfl, _, _, rfl, rfl, _, rfl, a, _, rfl, hW.on s2, fun q hq => ?_⟩
      rw [e2, cut_words (i := 2 + 3 * i) (ws := w0 :: wn :: cs) (a := c) (b := b1) (c := b2) (l := rest) (by
        rw [show 2 + 3 * i = (3 * i) + 1 + 1 by omega]
        exact ed)]
      have sq : Same H2 (upd H2 q (.lst ([c, b1, b2].map fun w => V.str (T w)))) := same_upd hq
      have hR3 := hR2.on sq
      have hcs : couplesT n 8 [] cs = (coupT n had c b1 b2).bind fun h => couplesT n (8 - (i + 1)) h rest := by
        rw [hc, ed, show 8 - i = (8 - (i + 1)) + 1 by omega, RM.couples_step]
      refine ⟨_, rfl, q, x, l, c, b1, b2, ⟨n, had⟩, rfl, SqL.of upd_same, ⟨by show 3 ≤ 100000; decide, fun w hw => hS.2 w ?_⟩, hR3, n2, hI, fun cs2 hcs2 => ?_, fun hno => ?_⟩
      · refine List.mem_cons_of_mem _ (List.mem_cons_of_mem _ (hmem w ?_))
        simp only [List.mem_cons, List.not_mem_nil, or_false] at hw ⊢
        rcases hw with h | h | h
        · exact .inl h
        · exact .inr (.inl h)
        · exact .inr (.inr (.inl h))
      · have hcs2' : coupT n had c b1 b2 = some cs2 := hcs2
        refine ⟨_, cs2, rfl, ⟨?_, upd_same⟩, RM.coup_inv hI hcs2', ?_, (s2.trans sq).put fl⟩
        · obtain ⟨dx3, h3⟩ := hR3.ins
          exact ⟨dx3, by rw [upd_ne (Ne.symm nlx)]; exact h3⟩
        · rw [hcs, hcs2']
          show couplesT n (8 - (i + 1)) cs2 rest = _
          congr 1
          have := congrArg (List.drop 3) ed
          rw [List.drop_drop] at this
          rw [show 3 * (i + 1) = 3 * i + 3 by omega, this]
          rfl
      · have hno' : coupT n had c b1 b2 = none := hno
        refine Fails.mono (k2 ?_) (s2.trans sq)
        show raceT (wn :: cs) = none
        rw [e0]
        show (couplesT n 8 [] cs).map _ = none
        rw [hcs, hno']
        rfl
    · rintro σ H2 ⟨v, had, rfl, hR2, hI, hc, s2⟩
      refine ⟨_, rfl, k1 ⟨n, had⟩ ?_ H2 x l s2 hR2⟩
      show raceT (wn :: cs) = _
      rw [e0]
      show (couplesT n 8 [] cs).map _ = _
      rw [hc, ← hm3, List.drop_length]
      cases 8 - m <;> rfl
end
end RD
namespace RM
open Tote
def leastT (ls un : Bytes) : Option (Nat × Nat) := (bnd 0 20000 ls).bind fun m => (bnd 1 10000 un).bind fun u => if (m == 0 || inside u (2 * u) m) = true then some (m, u) else none
def kindTT (races : List Race) (kd k rc : Bytes) : Option (Kind × Nat × Nat) := (kindT kd).bind fun kd => (bnd (leastK kd) (mostK kd) k).bind fun k => (bnd 1 races.length rc).bind fun rc =>
  if ((kd != .legs || decide (rc + k ≤ races.length + 1)) && (kd == .legs || ((races[rc - 1]?).map fun (x : Race) => decide (k ≤ x.heads.length)).getD false)) = true then some (kd, k, rc) else none
theorem bnd_narrow {lo hi hi2 n : Nat} {w : Bytes} (h : hi ≤ hi2) : bnd lo hi w = some n ↔ bnd lo hi2 w = some n ∧ n ≤ hi := by
  constructor
  · intro q
    obtain ⟨a, b, c⟩ := bnd_num q
    refine ⟨?_, c⟩
    unfold bnd
    rw [a]
    dsimp only
    rw [if_neg (by omega)]
  · rintro ⟨q, c⟩
    obtain ⟨a, b, _⟩ := bnd_num q
    unfold bnd
    rw [a]
    dsimp only
    rw [if_neg (by omega)]
/-- the program's way with least and unit -/
theorem least_no_unit {ls un : Bytes} (h : bnd 1 10000 un = none) : leastT ls un = none := by
  unfold leastT
  rw [h]
  cases bnd 0 20000 ls <;> rfl
theorem least_no_least {ls un : Bytes} {u : Nat} (hu : bnd 1 10000 un = some u) (h : bnd 0 (2 * u) ls = none) : leastT ls un = none := by
  unfold leastT
  have u2 := (bnd_num hu).2.2
  cases hq : bnd 0 20000 ls with
  | none => rfl
  | some m =>
    rw [hu]
    dsimp only [Option.bind]
    have hm : ¬ m ≤ 2 * u := fun q => by
      rw [(bnd_narrow (by omega)).mpr ⟨hq, q⟩] at h
      cases h
    rw [if_neg]
    intro q
    rcases Bool.or_eq_true_iff.mp q with q | q
    · have : m = 0 := by simpa using q
      omega
    · unfold inside at q
      rw [Bool.and_eq_true, decide_eq_true_eq, decide_eq_true_eq] at q
      omega
theorem least_is {ls un : Bytes} {u m : Nat} (hu : bnd 1 10000 un = some u) (h : bnd 0 (2 * u) ls = some m) : leastT ls un = if 0 < m ∧ m < u then none else some (m, u) := by
  unfold leastT
  have u2 := (bnd_num hu).2.2
  obtain ⟨hq, hm⟩ := (bnd_narrow (hi2 := 20000) (by omega)).mp h
  rw [hq, hu]
  dsimp only [Option.bind]
  by_cases c : 0 < m ∧ m < u
  · rw [if_pos c, if_neg]
    intro q
    rcases Bool.or_eq_true_iff.mp q with q | q
    · have : m = 0 := by simpa using q
      omega
    · unfold inside at q
      rw [Bool.and_eq_true, decide_eq_true_eq, decide_eq_true_eq] at q
      omega
  · rw [if_neg c, if_pos]
    by_cases z : m = 0
    · subst z; rfl
    · rw [show (m == 0) = false by simpa using z, Bool.false_or]
      unfold inside
      rw [decide_eq_true (by omega), decide_eq_true hm]
      rfl
theorem pool_make {races : List Race} {nm kd k rc tk bk ls un nn : Bytes} {x : Kind × Nat × Nat} {t b : Nat} {lu : Nat × Nat} {z : None_} (hn : isName nm = true) (hk : kindTT races kd k rc = some x) (ht : bnd 0 400 tk = some t) (hb : bnd 1 1000 bk = some b) (hl : leastT ls un = some lu) (hz : noneT x.1 nn = some z) :
    poolT races [nm, kd, k, ascii "from", rc, ascii "take", tk, ascii "break", bk, ascii "least", ls, ascii "unit", un, ascii "none", nn] = some ⟨nm, x.1, x.2.1, x.2.2, z, t, b, lu.1, lu.2⟩ := by
  unfold kindTT at hk
  simp only [Option.bind_eq_some_iff, Option.ite_none_right_eq_some, Option.some.injEq, Bool.and_eq_true] at hk
  obtain ⟨kd', h1, k', h2, rc', h3, ⟨h4, h5⟩, rfl⟩ := hk
  unfold leastT at hl
  simp only [Option.bind_eq_some_iff, Option.ite_none_right_eq_some, Option.some.injEq] at hl
  obtain ⟨m, h6, u, h7, h8, rfl⟩ := hl
  unfold poolT
  dsimp only at hz ⊢
  rw [if_pos hn, h1]
  dsimp only [Option.bind]
  rw [h2]
  dsimp only
  rw [if_pos rfl, h3]
  dsimp only
  rw [if_pos h4, if_pos h5, if_pos rfl, ht]
  dsimp only
  rw [if_pos rfl, hb]
  dsimp only
  rw [if_pos rfl, h6]
  dsimp only
  rw [if_pos rfl, h7]
  dsimp only
  rw [if_pos h8, if_pos rfl, hz]
theorem pool_kind {races : List Race} {nm kd k rc w1 w2 tk w3 bk w4 ls w5 un w6 nn : Bytes} {p : Pool} (h : poolT races [nm, kd, k, w1, rc, w2, tk, w3, bk, w4, ls, w5, un, w6, nn] = some p) :
    w1 = ascii "from" ∧ w2 = ascii "take" ∧ w3 = ascii "break" ∧ w4 = ascii "least" ∧ w5 = ascii "unit" ∧ w6 = ascii "none" ∧ isName nm = true ∧ kindTT races kd k rc = some (p.kind, p.k, p.race) ∧ bnd 0 400 tk = some p.take ∧ bnd 1 1000 bk = some p.brk ∧ leastT ls un = some (p.least, p.unit) ∧ noneT p.kind nn = some p.none_ := by
  obtain ⟨nm', kd', k', rc', tk', bk', ls', un', nn', e, h1, h2, h3, h4, h5, h6, h7, h8, h9, _, h10, h11, h12⟩ := pool_parts h
  simp only [List.cons.injEq, and_true] at e
  obtain ⟨rfl, rfl, rfl, rfl, rfl, rfl, rfl, rfl, rfl, rfl, rfl, rfl, rfl, rfl, rfl⟩ := e
  refine ⟨rfl, rfl, rfl, rfl, rfl, rfl, h1, ?_, h5, h6, ?_, h9⟩
  · unfold kindTT
    rw [h2]
    dsimp only [Option.bind]
    rw [h3]
    dsimp only
    rw [h4]
    dsimp only
    rw [h10, h11]
    rfl
  · unfold leastT
    rw [h7]
    dsimp only [Option.bind]
    rw [h8]
    dsimp only
    rw [h12]
    rfl
theorem pool_len {races : List Race} {r : List Bytes} {p : Pool} (h : poolT races r = some p) : r.length = 15 := by
  obtain ⟨_, _, _, _, _, _, _, _, _, rfl, _⟩ := pool_parts h
  rfl
end RM
namespace RX
open PySem PySem.Spec PyProof.Rows L2
/-! ### xs[4::2] of sixteen -/
def every2 {α : Type} (l : List α) : List α := [l[4]?, l[6]?, l[8]?, l[10]?, l[12]?, l[14]?].filterMap id
theorem pick2 {its : List Value} (h : its.length = 16) : slicePick its.toArray (some 4) none (some 2) = (every2 its).toArray := by
  match its, h with
  | [a0, a1, a2, a3, a4, a5, a6, a7, a8, a9, a10, a11, a12, a13, a14, a15], _ =>
    have e : sliceRange (sliceBounds (some 4) none (some 2) 16).1 (sliceBounds (some 4) none (some 2) 16).2.1 (sliceBounds (some 4) none (some 2) 16).2.2 = [4, 6, 8, 10, 12, 14] := by decide +kernel
    unfold slicePick
    show ((sliceRange (sliceBounds (some 4) none (some 2) 16).1 (sliceBounds (some 4) none (some 2) 16).2.1 (sliceBounds (some 4) none (some 2) 16).2.2).filterMap _).toArray = _
    rw [e]
    rfl
theorem every2_vals {xs : List V} {us : List Value} (h : Vals xs us) (h16 : xs.length = 16) : Vals (every2 xs) (every2 us) := by
  have h2 : us.length = 16 := by rw [← Paired.length h]; exact h16
  match xs, us, h16, h2, h with
  | [a0, a1, a2, a3, a4, a5, a6, a7, a8, a9, a10, a11, a12, a13, a14, a15], [b0, b1, b2, b3, b4, b5, b6, b7, b8, b9, b10, b11, b12, b13, b14, b15], _, _, h =>
    cases h with | cons _ h => cases h with | cons _ h => cases h with | cons _ h => cases h with | cons _ h => cases h with | cons r4 h => cases h with | cons _ h => cases h with | cons r6 h => cases h with | cons _ h => cases h with | cons r8 h => cases h with | cons _ h =>
      cases h with | cons r10 h => cases h with | cons _ h => cases h with | cons r12 h => cases h with | cons _ h => cases h with | cons r14 h => exact .cons r4 (.cons r6 (.cons r8 (.cons r10 (.cons r12 (.cons r14 .nil)))))
def tEvery (K : PySem.W.Frag) (te : TE) : TE := fun σ H Q => te σ H fun x H1 => ∃ a xs, x = .ref a ∧ SqL K H1 a xs ∧ xs.length = 16 ∧ ∀ p, H1 p = none → Q (.ref p) (upd H1 p (.lst (every2 xs)))
theorem pe_every {X : Cx} {e : Expr} {te : TE} {k k2 : Nat} {p1 p2 p3 pos : Pos} (he : PE X e te) : PE X (.Subscript e (.Slice (some (.Constant (.int 4) k p1)) none (some (.Constant (.int 2) k2 p2)) p3) pos) (tEvery X.K te) := by
  refine ⟨fun pins s σ H Q I h => ?_⟩
  refine Subscript_ (thn (he.run pins s σ H _ I h) ?_)
  rintro v s1 ⟨x, H1, I1, r1, a, xs, rfl, hx, h16, q⟩
  cases r1
  have p4 : PO X (some (.Constant (.int 4) k p1)) (tPart (tC (.int 4))) := po_some pe_int
  have p2' : PO X (some (.Constant (.int 2) k2 p2)) (tPart (tC (.int 2))) := po_some pe_int
  refine wpAny_Slice (thn (p4.run pins s1 σ H1 (fun o H2 => o = some 4 ∧ H2 = H1) I1 ⟨4, rfl, rfl, rfl⟩) ?_)
  rintro vl s2 ⟨l, H2, I2, pl, rfl, rfl⟩
  refine thn (po_none.run pins s2 σ H2 (fun o H3 => o = none ∧ H3 = H2) I2 ⟨rfl, rfl⟩) ?_
  rintro vu s3 ⟨u, H3, I3, pu, rfl, rfl⟩
  refine thn (p2'.run pins s3 σ H3 (fun o H4 => o = some 2 ∧ H4 = H3) I3 ⟨2, rfl, rfl, rfl⟩) ?_
  rintro vs s4 ⟨o, H4, I4, ps, rfl, rfl⟩
  have I5 := I4.kept (t' := s4.toks) (h' := s4.heap.push { cls := .type "slice", data := .fields #[vl, vu, vs] }) fun b ob q => Heap.get?_push_of_some _ q
  obtain ⟨its, r, ht, hz⟩ := I5.list hx
  have hlen := r.length
  have i16 : its.length = 16 := by rw [← hlen]; exact h16
  refine tail_any (ops := [.ref a, .ref s4.heap.objs.size]) ht.isList.typeIs (PySem.slot_list_getitem.lookup) ?_ (by with_unfolding_all rfl)
  refine wpAny_getItem_list_slice ht.isList (Heap.IsSliceOf.new _ vl vu vs) pl pu ps (by decide) ?_ (by rw [List.size_toArray, i16, sizeLine_eq]; omega)
  rw [pick2 i16]
  refine ⟨.ref _, _, I5.laid (t' := s4.toks) (o := .lst (every2 xs)) (fun b ob q => Heap.get?_push_of_some _ q) (Nat.le_refl _) ?_, rfl, q _ (I5.hok.fresh (Nat.le_refl _))⟩
  refine ⟨?_, _, 0, every2_vals r h16, Heap.get?_push_size _ rfl⟩
  match xs, h16 with
  | [a0, a1, a2, a3, a4, a5, a6, a7, a8, a9, a10, a11, a12, a13, a14, a15], _ => show 6 ≤ sizeLine; rw [sizeLine_eq]; omega
/-! ### lists of texts compared -/
theorem eqv_strs : ∀ xs ys : List Str, PyData.eqvAll (xs.map PyData.str) (ys.map PyData.str) = decide (xs = ys)
  | [], [] => by simp [PyData.eqvAll]
  | [], _ :: _ => by simp [PyData.eqvAll]
  | _ :: _, [] => by simp [PyData.eqvAll]
  | x :: xs, y :: ys => by
    rw [List.map_cons, List.map_cons, PyData.eqvAll, eqv_strs xs ys]
    have e : PyData.eqv (.str x) (.str y) = decide (x = y) := by
      show (x == y) = _
      rfl
    rw [e, ← Bool.decide_and]
    exact decide_eq_decide.mpr (by rw [List.cons.injEq])
theorem dp_strs {K : PySem.W.Frag} {H : Hp} : ∀ xs : List Str, DpAll K H (xs.map V.str) (xs.map PyData.str)
  | [] => .nil
  | x :: xs => .cons (.str x) (dp_strs xs)
end RX
namespace RD
open PySem PySem.Spec PyProof.Rows L2 RX RT
open Tote (Bytes numberOf leastK mostK)
open RM (bnd RInv kindT kindTT leastT)
abbrev sLst : Stmt := top 46
abbrev sKnd : Stmt := top 45
def spLst (D : Ad) : Sp := fun vs H Q E => ∃ (ls un : Bytes), vs = [.str (T ls), .str (T un)] ∧ ls.length ≤ 100000 ∧ un.length ≤ 100000 ∧ ((leastT ls un).isSome = true → Q .non H) ∧ (leastT ls un = none → NoC D H E)
/-- a list of races stands at a -/
def RacesAt (C : Addr) (H : Hp) (a : Addr) (rs : List Tote.Race) : Prop := ∃ ps : List (Addr × Addr), H a = some (.lst (ps.map fun p => V.ref p.1)) ∧ ps.length = rs.length ∧ ∀ (i : Nat) p r, ps[i]? = some p → rs[i]? = some r → RaceAt C H p.1 p.2 r
theorem RacesAt.on {C : Addr} {H H' : Hp} {a : Addr} {rs : List Tote.Race} (h : RacesAt C H a rs) (s : Same H H') : RacesAt C H' a rs := by
  obtain ⟨ps, h1, h2, h3⟩ := h
  exact ⟨ps, s _ _ h1, h2, fun i p r a b => (h3 i p r a b).on s⟩
/-- the written dict of kinds -/
structure TxK (w : World) (K : PySem.W.Frag) (mg : Str → Option Value) : Prop where
  ex : ∃ (a : Addr) (es : Array DictEntry) (n : Nat), mg "KINDS" = some (.ref a) ∧ KDict K w a es n ∧ (∀ kd : Bytes, kindT kd = none → PySem.W.nsIn K a (T kd) = some none) ∧
    ∀ (kd : Bytes) (k : Tote.Kind), kindT kd = some k → ∃ p, PySem.W.nsIn K a (T kd) = some (some (.ref p)) ∧ ∀ H, SqT K H p [.int (leastK k : Nat), .int (mostK k : Nat)]
/-- a pool of this kind's text, k, first race stands at p -/
def PlAt (C : Addr) (H : Hp) (p : Addr) (kd : Bytes) (k race : Nat) : Prop := ∃ dx, H p = some (.ins C dx (three "kind" "k" "race" (.str (T kd)) (.int (k : Int)) (.int (race : Int))))
theorem PlAt.on {C p : Addr} {H H' : Hp} {kd : Bytes} {k race : Nat} (h : PlAt C H p kd k race) (s : Same H H') : PlAt C H' p kd k race := by
  obtain ⟨dx, e⟩ := h
  exact ⟨dx, s _ _ e⟩
def spKnd (D : Ad) : Sp := fun vs H Q E => ∃ (kd k rc : Bytes) (a : Addr) (rs : List Tote.Race), vs = [.str (T kd), .str (T k), .str (T rc), .ref a] ∧ k.length ≤ 100000 ∧ rc.length ≤ 100000 ∧ RacesAt D.cRc H a rs ∧ rs.length ≤ 100000 ∧ (∀ r ∈ rs, RInv r) ∧
  (∀ x, kindTT rs kd k rc = some x → ∀ H' p, Same H H' → H p = none → PlAt D.cPl H' p kd x.2.1 x.2.2 → Q (.ref p) H') ∧ (kindTT rs kd k rc = none → NoC D H E)
theorem legs_lit (w : Bytes) : V.str (T w) = V.str (Str.ofString "legs") ↔ w = Tote.ascii "legs" := by
  have := T_lit (s := "legs") (v := Tote.ascii "legs") (by decide) (by decide +kernel) w
  exact ⟨fun h => this.mp (V.str.inj h), fun h => congrArg V.str (this.mpr h)⟩
theorem kind_legs {kd : Bytes} {k : Tote.Kind} (h : kindT kd = some k) : k = .legs ↔ kd = Tote.ascii "legs" := by
  unfold kindT at h
  obtain ⟨y, hy, e⟩ := Option.map_eq_some_iff.mp h
  have e2 : Tote.ascii y.2 = kd := by
    have := List.find?_some hy
    exact eq_of_beq this
  have hm := List.mem_of_find?_eq_some hy
  rw [← e, ← e2]
  have : ∀ y ∈ Tote.KINDS, y.1 = Tote.Kind.legs ↔ Tote.ascii y.2 = Tote.ascii "legs" := by decide
  exact this y hm
theorem heads_le (r : Tote.Race) : r.heads.length ≤ r.runners := by
  unfold Tote.Race.heads
  exact Nat.le_trans (List.length_filter_le _ _) (by rw [List.length_map, List.length_range]; exact Nat.le_refl _)
section
variable {P : Program} {w : World} {K : PySem.W.Frag} {mg : Str → Option Value} {base : Heap} {D : Ad}
theorem scLst : FnScope ["least_word", "unit_word", "unit", "least"] ["least_word", "unit_word"] (defScope sLst) := ⟨rfl, rfl, rfl, by decide +kernel, rfl, by decide +kernel, by decide +kernel⟩
theorem ok_lst {f : Addr} {fd : FuncData} (F : Fun K "check_least" "check_least" sLst f fd) (cN : Err0 P w K mg base "NoCard" D.cNC (-8)) (cM : Cal P w K mg base (L2.CX P w) 4 "read_number" ["word", "low", "high"] (spNum D)) :
    FnOk P w K mg base (L2.CX P w) 5 f fd ["least_word", "unit_word"] (spLst D) := by
  refine F.okX scLst (fun vs H Q E h => ?_) (fun cdv A outer s H vs Q E hr h => ?_)
  · obtain ⟨ls, un, rfl, _⟩ := h
    rfl
  · obtain ⟨ls, un, rfl, h1, h2, k1, k2⟩ := h
    refine ⟨_, pss_cons (ps_set (i := 2) scLst.nd rfl (Or.inl rfl) (by exact (pe_cx cM hr (by decide) (takes_of rfl rfl rfl rfl) rfl (by exact (pa_cons (pv 1) (pa_cons pe_int (pa_cons pe_int pa_nil)))))))
      (pss_cons (ps_set (i := 3) scLst.nd rfl (Or.inl rfl) (by exact (pe_cx cM hr (by decide) (takes_of rfl rfl rfl rfl) rfl (by exact (pa_cons (pv 0) (pa_cons pe_int (pa_cons (pe_op op_mul pe_int (pv 2)) pa_nil)))))))
      (pss_one (ps_if (PW.pt (pw_and (pt_cmpR op_gt (pv 3) pe_int (nomark _)) (pw_and1 (pt_cmpR op_lt (pv 3) (pv 2) (nomark _))))) (pss_one (ps_err cN rfl hr (by decide) (takes_of rfl rfl rfl rfl) rfl)) pss_nil))), ?_⟩
    refine ⟨_, rfl, un, 1, 10000, rfl, by decide, h2, fun u hu => ?_, fun hu => k2 (RM.least_no_unit hu)⟩
    have u2 := (RM.bnd_num hu).2.2
    refine ⟨_, rfl, _, rfl, _, _, rfl, rfl, .inl ⟨by decide, by decide⟩, ls, 0, 2 * u, ?_, by omega, h1, fun m hm => ?_, fun hm => k2 (RM.least_no_least hu hm)⟩
    · show [V.str (T ls), V.int 0, V.int (2 * (u : Int))] = [V.str (T ls), V.int ((0 : Nat) : Int), V.int ((2 * u : Nat) : Int)]
      congr 3
    have e := RM.least_is hu hm
    refine ⟨_, rfl, _, _, rfl, rfl, _, rfl, ?_⟩
    refine ite2 (fun h => ?_) (fun h => ?_)
    · have c1 := of_decide_eq_true h
      refine ⟨_, rfl, _, rfl, _, _, rfl, rfl, _, rfl, ?_⟩
      refine ite2 (fun h' => k2 ?_) (fun h' => k1 ?_)
      · have c2 := of_decide_eq_true h'
        rw [e, if_pos ⟨by omega, by omega⟩]
      · have c2 := of_decide_eq_false (Bool.eq_false_iff.mpr h')
        rw [e, if_neg (fun q => c2 (by omega))]
        rfl
    · have c1 := of_decide_eq_false (Bool.eq_false_iff.mpr h)
      refine k1 ?_
      rw [e, if_neg (fun q => c1 (by omega))]
      rfl
theorem scKnd : FnScope ["kind", "length", "first", "races", "k", "race"] ["kind", "length", "first", "races"] (defScope sKnd) := ⟨rfl, rfl, rfl, by decide +kernel, rfl, by decide +kernel, by decide +kernel⟩
theorem ok_knd {f : Addr} {fd : FuncData} (F : Fun K "read_kind" "read_kind" sKnd f fd) (Tk : TxK w K mg) (Tl : TxLen mg) (R : TxRc P w K mg base D) (cN : Err0 P w K mg base "NoCard" D.cNC (-8)) (cM : Cal P w K mg base (L2.CX P w) 4 "read_number" ["word", "low", "high"] (spNum D)) (mP : Mak P w K mg base "Pool" D.cPl ["self", "kind", "k", "race"] (spIn3 D.cPl "kind" "k" "race")) :
    FnOk P w K mg base (L2.CX P w) 5 f fd ["kind", "length", "first", "races"] (spKnd D) := by
  obtain ⟨aK, es, nK, gK, dK, miss, hit⟩ := Tk.ex
  refine F.okX scKnd (fun vs H Q E h => ?_) (fun cdv A outer s H vs Q E hr h => ?_)
  · obtain ⟨kd, k, rc, a, rs, rfl, _⟩ := h
    rfl
  · obtain ⟨kd, k, rc, a, rs, rfl, lk, lrc, hR, hrs, hI, k1, k2⟩ := h
    refine ⟨_, pss_cons (ps_if (pt_cmpR (op_notIn_kd dK) (pv 0) (pe_glob (v := .ref aK) rfl gK rfl) (by rfl)) (pss_one (ps_err cN rfl hr (by decide) (takes_of rfl rfl rfl rfl) rfl)) pss_nil)
      (pss_cons (ps_set (i := 4) scKnd.nd rfl (Or.inl rfl) (by exact (pe_cx cM hr (by decide) (takes_of rfl rfl rfl rfl) rfl (by exact (pa_cons (pv 1) (pa_cons (pe_ix ix_tup (pe_ix ix_kdict (pe_glob (v := .ref aK) rfl gK rfl) (pv 0) (fun _ _ => rfl)) pe_int (fun _ _ => rfl)) (pa_cons (pe_ix ix_tup (pe_ix ix_kdict (pe_glob (v := .ref aK) rfl gK rfl) (pv 0) (fun _ _ => rfl)) pe_int (fun _ _ => rfl)) pa_nil)))))))
      (pss_cons (ps_set (i := 5) scKnd.nd rfl (Or.inl rfl) (by exact (pe_cx cM hr (by decide) (takes_of rfl rfl rfl rfl) rfl (by exact (pa_cons (pv 2) (pa_cons pe_int (pa_cons (pe_callB call_len_seq (by rfl) Tl.len PySem.boot_len (pa_cons (pv 3) pa_nil)) pa_nil)))))))
      (pss_cons (ps_if (pt_cmpR op_eq (pv 0) pe_str (nomark _))
        (pss_one (ps_if (pt_cmpR op_gt (pe_op op_sub (pe_op op_add (pv 5) (pv 4)) pe_int) (pe_callB call_len_seq (by rfl) Tl.len PySem.boot_len (pa_cons (pv 3) pa_nil)) (nomark _)) (pss_one (ps_err cN rfl hr (by decide) (takes_of rfl rfl rfl rfl) rfl)) pss_nil))
        (pss_one (ps_if (pt_cmpR op_lt (pe_callB call_len_seq (by rfl) Tl.len PySem.boot_len (pa_cons (pe_mt0 R.inter hr (by decide) (pe_ix ix_list (pv 3) (pe_op op_sub (pv 5) pe_int) (fun _ _ => rfl))) pa_nil)) (pv 4) (nomark _)) (pss_one (ps_err cN rfl hr (by decide) (takes_of rfl rfl rfl rfl) rfl)) pss_nil)))
      (pss_one (ps_ret (by exact (pe_mk mP hr (by decide) rfl (by exact (pa_cons (pv 0) (pa_cons (pv 4) (pa_cons (pv 5) pa_nil))))))))))), ?_⟩
    cases hk : kindT kd with
    | none =>
      refine ⟨_, rfl, T kd, none, rfl, rfl, miss kd hk, _, rfl, ?_⟩
      refine iteT (k2 ?_)
      unfold kindTT
      rw [hk]
      rfl
    | some kk =>
      obtain ⟨p, hp, tp⟩ := hit kd kk hk
      refine ⟨_, rfl, T kd, _, rfl, rfl, hp, _, rfl, ?_⟩
      refine iteF ?_
      have e0 : kindTT rs kd k rc = (RM.bnd (leastK kk) (mostK kk) k).bind fun k => (RM.bnd 1 rs.length rc).bind fun rc =>
          if ((kk != .legs || decide (rc + k ≤ rs.length + 1)) && (kk == .legs || ((rs[rc - 1]?).map fun (x : Tote.Race) => decide (k ≤ x.heads.length)).getD false)) = true then some (kk, k, rc) else none := by
        unfold kindTT
        rw [hk]
        rfl
      obtain ⟨ps, ha, hps, hat⟩ := hR
      have lenP : (ps.map fun p => V.ref p.1).length = rs.length := by rw [List.length_map, hps]
      have hm : mostK kk ≤ 1000000 := by cases kk <;> decide
      have kd_ : KDct K w aK (T kd) (V.ref p) := ⟨es, nK, _, dK.at_, dK.lit, hp, rfl⟩
      refine ⟨_, rfl, _, rfl, aK, T kd, _, rfl, rfl, kd_, p, _, _, _, rfl, rfl, tp H, atI_nat (j := 0) rfl, _, rfl, aK, T kd, _, rfl, rfl, kd_, p, _, _, _, rfl, rfl, tp H, atI_nat (j := 1) rfl, k, leastK kk, mostK kk, rfl, hm, lk, fun k' hk' => ?_, fun hk' => k2 (by rw [e0, hk']; rfl)⟩
      rw [hk'] at e0
      have kb := RM.bnd_num hk'
      refine ⟨_, rfl, _, rfl, a, _, rfl, .inl (SqL.of ha), rc, 1, rs.length, by rw [lenP]; rfl, by omega, lrc, fun rc' hrc => ?_, fun hrc => k2 (by rw [e0]; show (RM.bnd 1 rs.length rc).bind _ = none; rw [hrc]; rfl)⟩
      obtain ⟨_, r1, r2⟩ := RM.bnd_num hrc
      have e1 : kindTT rs kd k rc = if ((kk != .legs || decide (rc' + k' ≤ rs.length + 1)) && (kk == .legs || ((rs[rc' - 1]?).map fun (x : Tote.Race) => decide (k' ≤ x.heads.length)).getD false)) = true then some (kk, k', rc') else none := by
        rw [e0]
        show (RM.bnd 1 rs.length rc).bind _ = _
        rw [hrc]
        rfl
      refine ⟨_, rfl, rfl, _, rfl, ?_⟩
      by_cases hl : kd = Tote.ascii "legs"
      · rw [decide_eq_true ((legs_lit kd).mpr hl)]
        refine iteT ?_
        have ek : kk = .legs := (kind_legs hk).mpr hl
        subst ek
        refine ⟨_, rfl, _, rfl, _, _, rfl, rfl, _, _, rfl, rfl, _, rfl, a, _, rfl, .inl (SqL.of ha), _, _, rfl, rfl, _, rfl, ?_⟩
        rw [lenP]
        refine ite2 (fun h => k2 ?_) (fun h => ⟨_, rfl, _, rfl, _, rfl, fun x dx nx nd ndx => ⟨x, dx, _, _, _, rfl, upd_same, fun H9 hx hb => ⟨rfl, k1 (Tote.Kind.legs, k', rc') ?_ H9 x (Same.made nx nd fun b o e hb' => hb b o e hb') nx ⟨dx, hx⟩⟩⟩⟩)
        · have := of_decide_eq_true h
          rw [e1, show decide (rc' + k' ≤ rs.length + 1) = false from decide_eq_false (by omega)]
          rfl
        · have := of_decide_eq_false (Bool.eq_false_iff.mpr h)
          rw [e1, show decide (rc' + k' ≤ rs.length + 1) = true from decide_eq_true (by omega)]
          rfl
      · rw [decide_eq_false (fun q => hl ((legs_lit kd).mp q))]
        refine iteF ?_
        have ek : kk ≠ .legs := fun q => hl ((kind_legs hk).mp q)
        have e2 : kindTT rs kd k rc = if ((rs[rc' - 1]?).map fun (x : Tote.Race) => decide (k' ≤ x.heads.length)).getD false = true then some (kk, k', rc') else none := by
          rw [e1]
          have b1 : (kk != .legs) = true := by simpa using ek
          have b2 : (kk == .legs) = false := by simpa using ek
          rw [b1, b2, Bool.true_or, Bool.true_and, Bool.false_or]
        obtain ⟨r, hr⟩ : ∃ r, rs[rc' - 1]? = some r := ⟨_, List.getElem?_eq_getElem (by omega)⟩
        obtain ⟨pp, hpp⟩ : ∃ pp, ps[rc' - 1]? = some pp := ⟨_, List.getElem?_eq_getElem (by omega)⟩
        have hra := hat _ pp r hpp hr
        have hri := hI r (List.mem_of_getElem? hr)
        rw [hr] at e2
        obtain ⟨dx, hins⟩ := hra.ins
        refine ⟨_, rfl, _, rfl, _, _, rfl, rfl, a, _, _, _, rfl, rfl, SqL.of ha, at_of (j := rc' - 1) (by omega) (show (ps.map fun p => V.ref p.1)[rc' - 1]? = some (V.ref pp.1) by rw [List.getElem?_map, hpp]; rfl), pp.1, dx, _, rfl, hins, fRace_m r pp.2 (by decide +kernel) (by decide +kernel), pp.1, pp.2, r, rfl, hra, by have := hri.2.1; omega, fun H' q sH nq hq => ?_⟩
        refine ⟨q, _, rfl, .inl (SqL.of hq), _, rfl, _, _, rfl, rfl, _, rfl, ?_⟩
        rw [natV_len]
        refine ite2 (fun h => (k2 ?_).mono sH) (fun h => ⟨_, rfl, _, rfl, _, rfl, fun x dx nx nd ndx => ⟨x, dx, _, _, _, rfl, upd_same, fun H9 hx hb => ⟨rfl, k1 (kk, k', rc') ?_ H9 x (sH.trans (Same.made nx nd fun b o e hb' => hb b o e hb')) (sH.free nx) ⟨dx, hx⟩⟩⟩⟩)
        · have := of_decide_eq_true h
          rw [e2]
          show (if decide (k' ≤ r.heads.length) = true then _ else _) = _
          rw [decide_eq_false (by omega)]
          rfl
        · have := of_decide_eq_false (Bool.eq_false_iff.mpr h)
          rw [e2]
          show (if decide (k' ≤ r.heads.length) = true then _ else _) = _
          rw [decide_eq_true (by omega)]
          rfl
end
end RD
namespace RM
open Tote
/-! ### rising lists of numbers -/
theorem asc_eq : ∀ {a b : List Nat}, a.Pairwise (· < ·) → b.Pairwise (· < ·) → (∀ x, x ∈ a ↔ x ∈ b) → a = b
  | [], [], _, _, _ => rfl
  | [], y :: b, _, _, h => by have := (h y).mpr List.mem_cons_self; cases this
  | x :: a, [], _, _, h => by have := (h x).mp List.mem_cons_self; cases this
  | x :: a, y :: b, ha, hb, h => by
    rw [List.pairwise_cons] at ha hb
    have e : x = y := by
      have h1 := (h x).mp List.mem_cons_self
      have h2 := (h y).mpr List.mem_cons_self
      rcases List.mem_cons.mp h1 with q | q
      · exact q
      rcases List.mem_cons.mp h2 with q2 | q2
      · exact q2.symm
      have := hb.1 x q
      have := ha.1 y q2
      omega
    subst e
    congr 1
    refine asc_eq ha.2 hb.2 fun z => ?_
    have hz := h z
    rw [List.mem_cons, List.mem_cons] at hz
    constructor
    · intro q
      rcases hz.mp (.inr q) with e | e
      · subst e
        exact absurd (ha.1 z q) (Nat.lt_irrefl _)
      · exact e
    · intro q
      rcases hz.mpr (.inr q) with e | e
      · subst e
        exact absurd (hb.1 z q) (Nat.lt_irrefl _)
      · exact e
theorem heads_asc (r : Race) : r.heads.Pairwise (· < ·) := by
  unfold Race.heads
  refine List.Pairwise.filter _ ?_
  rw [List.pairwise_map]
  exact List.pairwise_lt_range.imp fun h => by omega
theorem mem_heads {r : Race} {h : Nat} : h ∈ r.heads ↔ (1 ≤ h ∧ h ≤ r.runners) ∧ r.head h = h := by
  unfold Race.heads
  rw [List.mem_filter, List.mem_map]
  constructor
  · rintro ⟨⟨i, hi, rfl⟩, h2⟩
    rw [List.mem_range] at hi
    exact ⟨by omega, by simpa using h2⟩
  · rintro ⟨⟨h1, h2⟩, h3⟩
    exact ⟨⟨h - 1, by rw [List.mem_range]; omega, by omega⟩, by simpa using h3⟩
theorem mem_runners {r : Race} {h m : Nat} : m ∈ r.runnersOf h ↔ (1 ≤ m ∧ m ≤ r.runners) ∧ r.head m = h := by
  unfold Race.runnersOf
  rw [List.mem_filter, List.mem_map]
  constructor
  · rintro ⟨⟨i, hi, rfl⟩, h2⟩
    rw [List.mem_range] at hi
    exact ⟨by omega, by simpa using h2⟩
  · rintro ⟨⟨h1, h2⟩, h3⟩
    exact ⟨⟨m - 1, by rw [List.mem_range]; omega, by omega⟩, by simpa using h3⟩
theorem head_head {n m : Nat} {had : List (Nat × Nat)} (I : CInv n had) : Race.head ⟨n, had⟩ (Race.head ⟨n, had⟩ m) = Race.head ⟨n, had⟩ m := by
  rw [head_self I]
  intro c hc q
  by_cases h : ∀ c ∈ had, c.2 ≠ m
  · rw [head_free h] at q
    exact h c hc q
  · have h : ∃ d, d ∈ had ∧ d.2 = m := Classical.byContradiction fun z => h fun d hd e => z ⟨d, hd, e⟩
    obtain ⟨d, hd, rfl⟩ := h
    rw [head_of I hd] at q
    exact I.apart d hd c hc q.symm
/-- a race's heads are heads of its runners -/
theorem heads_of {r : Race} (I : RInv r) {m : Nat} (h1 : 1 ≤ m) (h2 : m ≤ r.runners) : r.head m ∈ r.heads := by
  obtain ⟨_, _, I⟩ := I
  exact mem_heads.mpr ⟨⟨head_pos I h1, head_le I h2⟩, head_head I⟩
/-- who's new by a group -/
def newBy (r : Race) (g had : List Nat) : List Nat := r.heads.filter fun (h : Nat) => !had.contains h && (r.runnersOf h).any g.contains
theorem came_cons (r : Race) (g : List Nat) (t : List (List Nat)) (had : List Nat) : Race.came r (g :: t) had = newBy r g had :: Race.came r t (had ++ newBy r g had) := rfl
theorem mem_new {r : Race} (I : RInv r) {g had : List Nat} (hg : ∀ m ∈ g, 1 ≤ m ∧ m ≤ r.runners) {h : Nat} : h ∈ newBy r g had ↔ ¬ h ∈ had ∧ ∃ m ∈ g, r.head m = h := by
  unfold newBy
  rw [List.mem_filter, Bool.and_eq_true, List.any_eq_true]
  constructor
  · rintro ⟨h1, h2, m, hm, hc⟩
    refine ⟨by simpa using h2, m, List.contains_iff_mem.mp hc, (mem_runners.mp hm).2⟩
  · rintro ⟨h1, m, hm, rfl⟩
    obtain ⟨a, b⟩ := hg m hm
    exact ⟨heads_of I a b, by simpa using h1, m, mem_runners.mpr ⟨⟨a, b⟩, rfl⟩, List.contains_iff_mem.mpr hm⟩
theorem new_congr {r : Race} {g had had' : List Nat} (h : ∀ x, x ∈ had ↔ x ∈ had') : newBy r g had = newBy r g had' := by
  unfold newBy
  refine List.filter_congr fun x _ => ?_
  congr 2
  rw [Bool.eq_iff_iff, List.contains_iff_mem, List.contains_iff_mem]
  exact h x
theorem sorted_is {ys zs : List Nat} {ns : List Int} (hp : ns.Perm (ys.map fun (n : Nat) => (n : Int))) (ho : ns.Pairwise (· ≤ ·)) (hn : ys.Nodup) (hz : zs.Pairwise (· < ·)) (hm : ∀ x, x ∈ ys ↔ x ∈ zs) : ns = zs.map fun (n : Nat) => (n : Int) := by
  have e1 : ns = (ns.map Int.toNat).map fun (n : Nat) => (n : Int) := by
    rw [List.map_map]
    refine (List.map_id ns).symm.trans (List.map_congr_left fun i hi => ?_)
    obtain ⟨n, _, rfl⟩ := List.mem_map.mp (hp.mem_iff.mp hi)
    rfl
  have e2 : (ns.map Int.toNat).Perm ys := by
    have := hp.map Int.toNat
    rw [List.map_map] at this
    have e : (ys.map (Int.toNat ∘ fun (n : Nat) => (n : Int))) = ys := by
      refine (List.map_congr_left fun i _ => ?_).trans (List.map_id ys)
      rfl
    rw [e] at this
    exact this
  have e3 : (ns.map Int.toNat).Pairwise (· < ·) := by
    have a : (ns.map Int.toNat).Pairwise (· ≤ ·) := by
      rw [List.pairwise_map]
      refine ho.imp_of_mem fun {x y} hx hy h => ?_
      omega
    have b : (ns.map Int.toNat).Pairwise (· ≠ ·) := e2.nodup_iff.mpr hn
    exact (a.and b).imp fun h => Nat.lt_of_le_of_ne h.1 h.2
  rw [e1, asc_eq e3 hz fun x => (e2.mem_iff).trans (hm x)]
end RM
namespace RM
open Tote
/-! ### what a read card's pools are -/
structure PInv (races : List Race) (p : Pool) : Prop where
  k1 : leastK p.kind ≤ p.k
  k2 : p.k ≤ mostK p.kind
  r1 : 1 ≤ p.race
  r2 : p.race + p.legs ≤ races.length + 1
  hs : p.kind ≠ .legs → ∃ r, races[p.race - 1]? = some r ∧ p.k ≤ r.heads.length
theorem pool_inv {races : List Race} {r : List Bytes} {p : Pool} (h : poolT races r = some p) : PInv races p := by
  obtain ⟨_, _, _, _, _, _, _, _, _, _, _, _, h2, h3, _, _, _, _, _, _, h4, h5, _⟩ := pool_parts h
  obtain ⟨_, a1, a2⟩ := bnd_num h2
  obtain ⟨_, b1, b2⟩ := bnd_num h3
  refine ⟨a1, a2, b1, ?_, fun q => ?_⟩
  · unfold Pool.legs
    split
    · rename_i e
      rw [e] at h4
      exact of_decide_eq_true h4
    · omega
  · have e : (p.kind == Kind.legs) = false := by simpa using q
    rw [e, Bool.false_or] at h5
    cases hr : races[p.race - 1]? with
    | none => rw [hr] at h5; cases h5
    | some r => rw [hr] at h5; exact ⟨r, rfl, of_decide_eq_true h5⟩
theorem step_pools {C D : Card} {ws : List Bytes} (h : stepP C ws = some D) (hp : ∀ p ∈ C.pools, PInv C.races p) : ∀ p ∈ D.pools, PInv D.races p := by
  unfold stepP at h
  split at h
  · cases h
  · split at h
    · rename_i q
      obtain ⟨x, _, rfl⟩ := Option.map_eq_some_iff.mp h
      intro p z
      have z' : p ∈ C.pools := z
      rw [q.2] at z'
      cases z'
    · split at h
      · unfold withPoolT at h
        obtain ⟨x, hx, h⟩ := Option.bind_eq_some_iff.mp h
        split at h
        · cases h
        · cases h
          intro p z
          rcases List.mem_append.mp z with z | z
          · exact hp p z
          · rw [List.mem_singleton.mp z]
            exact pool_inv hx
      · cases h
theorem fold_pools : ∀ {ls : List Bytes} {C D : Card}, foldP C ls = some D → (∀ p ∈ C.pools, PInv C.races p) → ∀ p ∈ D.pools, PInv D.races p
  | [], C, D, h, hp => by
    cases h
    exact hp
  | l :: r, C, D, h, hp => by
    obtain ⟨E, h1, h2⟩ := Option.bind_eq_some_iff.mp h
    exact fold_pools h2 (step_pools h1 hp)
theorem card_parts {b : Bytes} {C : Card} (h : cardP b = some C) : fits C = true ∧ ∀ p ∈ C.pools, PInv C.races p := by
  unfold cardP at h
  split at h
  · cases h
  · split at h
    · split at h
      · cases h
      · obtain ⟨E, h1, h⟩ := Option.bind_eq_some_iff.mp h
        obtain ⟨F, h2, h⟩ := Option.bind_eq_some_iff.mp h
        split at h
        · rename_i q
          cases h
          refine ⟨q, fold_pools h2 fun p z => ?_⟩
          rw [(day_card h1).2] at z
          cases z
        · cases h
    · cases h
theorem kind_text {kd : Bytes} {k : Kind} (h : kindT kd = some k) : kindText k = kd := by
  unfold kindT at h
  obtain ⟨y, hy, e⟩ := Option.map_eq_some_iff.mp h
  have e2 : ascii y.2 = kd := by
    have := List.find?_some hy
    exact eq_of_beq this
  have hm := List.mem_of_find?_eq_some hy
  rw [← e, ← e2]
  have : ∀ y ∈ KINDS, kindText y.1 = ascii y.2 := by decide
  exact this y hm
end RM
namespace RD
open PySem PySem.Spec PyProof.Rows L2 RX RT
open Tote (Bytes numberOf leastK mostK ascii isName)
open RM (bnd RInv kindT kindTT leastT poolT noneT)
abbrev sPool : Stmt := top 44
def marks : List Bytes := [ascii "from", ascii "take", ascii "break", ascii "least", ascii "unit", ascii "none"]
def nones : List Bytes := [ascii "refund", ascii "carry", ascii "fewer"]
/-- a pool stands at a -/
def PoolAt (C : Addr) (H : Hp) (a : Addr) (p : Tote.Pool) : Prop := PlAt C H a (Tote.kindText p.kind) p.k p.race
theorem PoolAt.on {C a : Addr} {H H' : Hp} {p : Tote.Pool} (h : PoolAt C H a p) (s : Same H H') : PoolAt C H' a p := PlAt.on h s
structure TxP (K : PySem.W.Frag) (mg : Str → Option Value) : Prop where
  ma : ∃ a, mg "MARKS" = some (.ref a) ∧ ∀ H, SqT K H a (marks.map fun w => V.str (T w))
  nn : ∃ a, mg "NONES" = some (.ref a) ∧ ∀ H, SqT K H a (nones.map fun w => V.str (T w))
def spPool (K : PySem.W.Frag) (D : Ad) : Sp := fun vs H Q E => ∃ (aw a : Addr) (ws : List Bytes) (rs : List Tote.Race), vs = [.ref aw, .ref a] ∧ WordsAt K H aw ws ∧ Short ws ∧ RacesAt D.cRc H a rs ∧ rs.length ≤ 100000 ∧ (∀ r ∈ rs, RInv r) ∧
  (∀ p, ws.head? = some (ascii "pool") → poolT rs ws.tail = some p → ∀ H' x, Same H H' → H x = none → PoolAt D.cPl H' x p → Q (.ref x) H') ∧ ((ws.head? = some (ascii "pool") → poolT rs ws.tail = none) → NoC D H E)
theorem lit_of {s : String} {v : Bytes} (h : v.all told = true) (e : Str.ofString s = SX.S (v.map UInt8.toNat)) (w : Bytes) : V.str (T w) = V.str (Str.ofString s) ↔ w = v := by
  have := T_lit (s := s) (v := v) h e w
  exact ⟨fun h => this.mp (V.str.inj h), fun h => congrArg V.str (this.mpr h)⟩
theorem T_eq {w v : Bytes} (h : v.all told = true) : T w = T v ↔ w = v := by
  constructor
  · intro q
    have q' := SX.S_inj q
    have e : v.map dz = v.map UInt8.toNat := (map_dz_iff v v h).mpr rfl
    rw [e] at q'
    exact (map_dz_iff w v h).mp q'
  · rintro rfl
    rfl
theorem all_T_eq : ∀ {ws vs : List Bytes}, (∀ v ∈ vs, v.all told = true) → (ws.map T = vs.map T ↔ ws = vs)
  | [], [], _ => ⟨fun _ => rfl, fun _ => rfl⟩
  | [], _ :: _, _ => ⟨fun h => by simp at h, fun h => by simp at h⟩
  | _ :: _, [], _ => ⟨fun h => by simp at h, fun h => by simp at h⟩
  | w :: ws, v :: vs, h => by
    rw [List.map_cons, List.map_cons, List.cons.injEq, List.cons.injEq, T_eq (h v List.mem_cons_self), all_T_eq fun x hx => h x (List.mem_cons_of_mem _ hx)]
theorem in_T {w : Bytes} : ∀ {vs : List Bytes}, (∀ v ∈ vs, v.all told = true) → inV (V.str (T w)) (vs.map fun v => V.str (T v)) = vs.contains w
  | [], _ => rfl
  | v :: vs, h => by
    show (eqV (V.str (T v)) (V.str (T w)) || inV (V.str (T w)) (vs.map fun v => V.str (T v))) = _
    rw [in_T fun x hx => h x (List.mem_cons_of_mem _ hx), List.contains_cons]
    congr 1
    show (T v == T w) = (w == v)
    have := T_eq (w := w) (h v List.mem_cons_self)
    by_cases q : w = v
    · rw [q]; simp
    · rw [beq_eq_false_iff_ne.mpr q, beq_eq_false_iff_ne.mpr fun e => q (this.mp e.symm)]
theorem none_is (kd : Tote.Kind) (w : Bytes) : (noneT kd w).isSome = (nones.contains w && !(w == ascii "fewer" && kd == .place)) := by
  unfold noneT
  rw [Option.isSome_map]
  by_cases h1 : w = ascii "refund"
  · subst h1; cases kd <;> decide
  · by_cases h2 : w = ascii "carry"
    · subst h2; cases kd <;> decide
    · by_cases h3 : w = ascii "fewer"
      · subst h3; cases kd <;> decide
      · have : nones.contains w = false := by
          unfold nones
          simp [h1, h2, h3]
        rw [this, Bool.false_and]
        rw [Option.isSome_eq_false_iff, Option.isNone_iff_eq_none, List.find?_eq_none]
        intro y hy
        have hy' : y ∈ Tote.NONES := by
          split at hy
          · exact List.mem_of_mem_take hy
          · exact hy
        simp only [Tote.NONES, List.mem_cons, List.not_mem_nil, or_false] at hy'
        rcases hy' with rfl | rfl | rfl
        · simpa using fun e => h1 e.symm
        · simpa using fun e => h2 e.symm
        · simpa using fun e => h3 e.symm
theorem kind_place {kd : Bytes} {k : Tote.Kind} (h : kindT kd = some k) : k = .place ↔ kd = ascii "place" := by
  unfold kindT at h
  obtain ⟨y, hy, e⟩ := Option.map_eq_some_iff.mp h
  have e2 : ascii y.2 = kd := by
    have := List.find?_some hy
    exact eq_of_beq this
  have hm := List.mem_of_find?_eq_some hy
  rw [← e, ← e2]
  have : ∀ y ∈ Tote.KINDS, y.1 = Tote.Kind.place ↔ ascii y.2 = ascii "place" := by decide
  exact this y hm
theorem T_ok (v : Bytes) : PyData.strOk (T v) = true := by
  unfold PyData.strOk T
  rw [← Array.all_toList]
  refine List.all_eq_true.mpr fun c hc => ?_
  obtain ⟨x, _, rfl⟩ := List.mem_map.mp hc
  have := dz_small x
  exact decide_eq_true (by omega)
theorem shaped_strs (xs : List Str) (h : ∀ x ∈ xs, PyData.strOk x = true) : SeqAt.shaped (.list (xs.map PyData.str)) = true := by
  have e1 : ∀ xs : List Str, (∀ x ∈ xs, PyData.strOk x = true) → PyData.canLayAll0 (xs.map PyData.str) = true := by
    intro xs
    induction xs with
    | nil => intro _; rfl
    | cons x xs ih =>
      intro h
      rw [List.map_cons, PyData.canLayAll0, ih fun y hy => h y (List.mem_cons_of_mem _ hy), Bool.and_true, PyData.canLay0]
      exact h x List.mem_cons_self
  have e2 : ∀ xs : List Str, PyData.depthAll (xs.map PyData.str) = 0 := by
    intro xs
    induction xs with
    | nil => rfl
    | cons x xs ih => rw [List.map_cons, PyData.depthAll, ih, PyData.depth]; rfl
  unfold SeqAt.shaped
  rw [PyData.canLay0, e1 xs h, PyData.depth, e2]
  decide
section
variable {P : Program} {w : World} {K : PySem.W.Frag} {mg : Str → Option Value} {base : Heap} {D : Ad}
theorem scPool : FnScope ["words", "races", "pool"] ["words", "races"] (defScope sPool) := ⟨rfl, rfl, rfl, by decide +kernel, rfl, by decide +kernel, by decide +kernel⟩
theorem ok_pool {f : Addr} {fd : FuncData} (F : Fun K "read_pool" "read_pool" sPool f fd) (Tp : TxP K mg) (Tl : TxLen mg) (cN : Err0 P w K mg base "NoCard" D.cNC (-8)) (cM : Cal P w K mg base (L2.CX P w) 4 "read_number" ["word", "low", "high"] (spNum D))
    (cNm : Cal P w K mg base (L2.CX P w) 4 "check_name" ["word"] (spName D)) (cK : Cal P w K mg base (L2.CX P w) 5 "read_kind" ["kind", "length", "first", "races"] (spKnd D)) (cL : Cal P w K mg base (L2.CX P w) 5 "check_least" ["least_word", "unit_word"] (spLst D)) :
    FnOk P w K mg base (L2.CX P w) 6 f fd ["words", "races"] (spPool K D) := by
  obtain ⟨aM, gM, hM⟩ := Tp.ma
  obtain ⟨aN, gN, hN⟩ := Tp.nn
  refine F.okX scPool (fun vs H Q E h => ?_) (fun cdv A outer s H vs Q E hr h => ?_)
  · obtain ⟨aw, a, ws, rs, rfl, _⟩ := h
    rfl
  · obtain ⟨aw, a, ws, rs, rfl, hW, hS, hR, hrs, hI, k1, k2⟩ := h
    refine ⟨_, pss_cons (ps_if (PW.pt (pw_or (pt_cmpR op_ne (pe_callB call_len_seq (by rfl) Tl.len PySem.boot_len (pa_cons (pv 0) pa_nil)) pe_int (nomark _))
        (pw_or (pt_cmpR op_ne (pe_ix ix_list (pv 0) pe_int (fun _ _ => rfl)) pe_str (nomark _))
        (pw_or1 (pt_cmpR (op_neD hr.units) (pe_every (pv 0)) (pe_callTy call_list_of (by rfl) Tl.list (by decide +kernel) (pa_cons (pe_glob (v := .ref aM) rfl gM rfl) pa_nil)) (nomark _)))))) (pss_one (ps_err cN rfl hr (by decide) (takes_of rfl rfl rfl rfl) rfl)) pss_nil)
      (pss_cons (ps_expr (by exact (pe_cx cNm hr (by decide) (takes_of rfl rfl rfl rfl) rfl (by exact (pa_cons (pe_ix ix_list (pv 0) pe_int (fun _ _ => rfl)) pa_nil)))))
      (pss_cons (ps_set (i := 2) scPool.nd rfl (Or.inl rfl) (by exact (pe_cx cK hr (by decide) (takes_of rfl rfl rfl rfl) rfl (by exact (pa_cons (pe_ix ix_list (pv 0) pe_int (fun _ _ => rfl)) (pa_cons (pe_ix ix_list (pv 0) pe_int (fun _ _ => rfl)) (pa_cons (pe_ix ix_list (pv 0) pe_int (fun _ _ => rfl)) (pa_cons (pv 1) pa_nil))))))))
      (pss_cons (ps_expr (by exact (pe_cx cM hr (by decide) (takes_of rfl rfl rfl rfl) rfl (by exact (pa_cons (pe_ix ix_list (pv 0) pe_int (fun _ _ => rfl)) (pa_cons pe_int (pa_cons pe_int pa_nil)))))))
      (pss_cons (ps_expr (by exact (pe_cx cM hr (by decide) (takes_of rfl rfl rfl rfl) rfl (by exact (pa_cons (pe_ix ix_list (pv 0) pe_int (fun _ _ => rfl)) (pa_cons pe_int (pa_cons pe_int pa_nil)))))))
      (pss_cons (ps_expr (by exact (pe_cx cL hr (by decide) (takes_of rfl rfl rfl rfl) rfl (by exact (pa_cons (pe_ix ix_list (pv 0) pe_int (fun _ _ => rfl)) (pa_cons (pe_ix ix_list (pv 0) pe_int (fun _ _ => rfl)) pa_nil))))))
      (pss_cons (ps_if (PW.pt (pw_or (pt_cmpR op_notIn_seq (pe_ix ix_list (pv 0) pe_int (fun _ _ => rfl)) (pe_glob (v := .ref aN) rfl gN rfl) (by rfl)) (pw_or1 (PW.pt (pw_and (pt_cmpR op_eq (pe_ix ix_list (pv 0) pe_int (fun _ _ => rfl)) pe_str (nomark _)) (pw_and1 (pt_cmpR op_eq (pe_ix ix_list (pv 0) pe_int (fun _ _ => rfl)) pe_str (nomark _)))))))) (pss_one (ps_err cN rfl hr (by decide) (takes_of rfl rfl rfl rfl) rfl)) pss_nil)
      (pss_one (ps_ret (pv 2))))))))), ?_⟩
    have lenW : (ws.map fun w => V.str (T w)).length = ws.length := List.length_map ..
    refine ⟨_, rfl, aw, _, rfl, .inl hW, rfl, _, rfl, ?_⟩
    rw [lenW]
    refine ite2 (fun h => k2 fun _ => ?_) (fun h => ?_)
    · have hne : ws.length ≠ 16 := fun q => by rw [q] at h; exact absurd h (by decide)
      cases hq : poolT rs ws.tail with
      | none => rfl
      | some p =>
        have := RM.pool_len hq
        rw [List.length_tail] at this
        omega
    have h16 : ws.length = 16 := by
      by_cases q : ws.length = 16
      · exact q
      · rw [decide_eq_false (show ¬ V.int ((ws.length : Nat) : Int) = V.int 16 from fun e => q (by have := V.int.inj e; omega))] at h
        exact absurd rfl h
    obtain ⟨w0, nm, kd, k, w1, rc, w2, tk, w3, bk, w4, ls, w5, un, w6, nn, rfl⟩ : ∃ w0 nm kd k w1 rc w2 tk w3 bk w4 ls w5 un w6 nn, ws = [w0, nm, kd, k, w1, rc, w2, tk, w3, bk, w4, ls, w5, un, w6, nn] := by
      match ws, h16 with
      | [w0, nm, kd, k, w1, rc, w2, tk, w3, bk, w4, ls, w5, un, w6, nn], _ => exact ⟨w0, nm, kd, k, w1, rc, w2, tk, w3, bk, w4, ls, w5, un, w6, nn, rfl⟩
    have sh := hS.2
    refine ⟨_, rfl, aw, _, _, _, rfl, rfl, hW, atI_nat (j := 0) (word_at (i := 0) rfl), rfl, _, rfl, ?_⟩
    by_cases c0 : ¬ w0 = ascii "pool"
    · rw [decide_eq_false (fun q => c0 ((lit_of (s := "pool") (by decide) (by decide +kernel) w0).mp q))]
      exact iteT (k2 fun q => absurd (Option.some.inj q) c0)
    have c0 := Decidable.not_not.mp c0
    rw [decide_eq_true ((lit_of (s := "pool") (by decide) (by decide +kernel) w0).mpr c0)]
    refine iteF ?_
    have k1' : ∀ p, poolT rs [nm, kd, k, w1, rc, w2, tk, w3, bk, w4, ls, w5, un, w6, nn] = some p → ∀ H' x, Same H H' → H x = none → PoolAt D.cPl H' x p → Q (.ref x) H' := fun p => k1 p (congrArg some c0)
    have k2' : poolT rs [nm, kd, k, w1, rc, w2, tk, w3, bk, w4, ls, w5, un, w6, nn] = none → NoC D H E := fun h => k2 fun _ => h
    have no : ∀ {H'}, Same H H' → (∀ p, poolT rs [nm, kd, k, w1, rc, w2, tk, w3, bk, w4, ls, w5, un, w6, nn] = some p → False) → NoC D H' E := fun s h => (k2' (by
      cases hq : poolT rs [nm, kd, k, w1, rc, w2, tk, w3, bk, w4, ls, w5, un, w6, nn] with
      | none => rfl
      | some p => exact (h p hq).elim)).mono s
    refine ⟨_, rfl, aw, _, rfl, hW, rfl, fun l1 n1 => ?_⟩
    refine ⟨aM, _, rfl, .inr (hM _), fun l2 n2 => ?_⟩
    have s1 : Same H (upd H l1 (.lst (every2 ([w0, nm, kd, k, w1, rc, w2, tk, w3, bk, w4, ls, w5, un, w6, nn].map fun w => V.str (T w))))) := same_upd n1
    have s2 := s1.trans (same_upd (o := .lst (marks.map fun w => V.str (T w))) n2)
    have n12 : l1 ≠ l2 := ne_of_none upd_same n2
    have hmk : ∀ v ∈ marks, v.all told = true := by decide
    have eqm : ([w1, w2, w3, w4, w5, w6].map T = marks.map T) ↔ [w1, w2, w3, w4, w5, w6] = marks := all_T_eq hmk
    refine ⟨.list (([w1, w2, w3, w4, w5, w6].map T).map PyData.str), .list ((marks.map T).map PyData.str), Dp.lst (xs := ([w1, w2, w3, w4, w5, w6].map T).map V.str) (SqL.of (by rw [upd_ne n12]; exact upd_same)) (dp_strs _), Dp.lst (xs := (marks.map T).map V.str) (SqL.of upd_same) (dp_strs _), ?_, ?_, ?_⟩
    · exact shaped_strs _ (by intro x hx; obtain ⟨v, _, rfl⟩ := List.mem_map.mp hx; exact T_ok v)
    · exact shaped_strs _ (by intro x hx; obtain ⟨v, _, rfl⟩ := List.mem_map.mp hx; exact T_ok v)
    refine ⟨_, rfl, ?_⟩
    rw [show PyData.eqv (.list (([w1, w2, w3, w4, w5, w6].map T).map PyData.str)) (.list ((marks.map T).map PyData.str)) = decide ([w1, w2, w3, w4, w5, w6].map T = marks.map T) by
      show PyData.eqvAll _ _ = _
      exact eqv_strs _ _]
    by_cases cm : ¬ [w1, w2, w3, w4, w5, w6] = marks
    · rw [decide_eq_false (fun q => cm (eqm.mp q))]
      refine iteT (no s2 fun p hp => cm ?_)
      obtain ⟨rfl, rfl, rfl, rfl, rfl, rfl, _⟩ := RM.pool_kind hp
      rfl
    have cm := Decidable.not_not.mp cm
    rw [decide_eq_true (eqm.mpr cm)]
    refine iteF ?_
    simp only [marks, List.cons.injEq, and_true] at cm
    obtain ⟨rfl, rfl, rfl, rfl, rfl, rfl⟩ := cm
    have hW2 := hW.on s2
    -- the name
    refine ⟨_, rfl, aw, _, _, _, rfl, rfl, hW2, atI_nat (j := 1) (word_at (i := 1) rfl), nm, rfl, sh nm (by simp), fun hnm => ?_, fun hnm => no s2 fun p hp => by have := (RM.pool_kind hp).2.2.2.2.2.2.1; rw [hnm] at this; cases this⟩
    -- the kind
    refine ⟨_, rfl, aw, _, _, _, rfl, rfl, hW2, atI_nat (j := 2) (word_at (i := 2) rfl), _, rfl, aw, _, _, _, rfl, rfl, hW2, atI_nat (j := 3) (word_at (i := 3) rfl), _, rfl, aw, _, _, _, rfl, rfl, hW2, atI_nat (j := 5) (word_at (i := 5) rfl), _, rfl, kd, k, rc, a, rs, rfl, sh k (by simp), sh rc (by simp), hR.on s2, hrs, hI, fun x hx H3 px s3 npx hpx => ?_,
      fun hkk => no s2 fun p hp => by have := (RM.pool_kind hp).2.2.2.2.2.2.2.1; rw [hkk] at this; cases this⟩
    have npx : H px = none := s2.free npx
    have s3 := s2.trans s3
    have hW3 := hW.on s3
    -- take, break
    refine ⟨_, rfl, aw, _, _, _, rfl, rfl, hW3, atI_nat (j := 7) (word_at (i := 7) rfl), tk, 0, 400, rfl, by decide, sh tk (by simp), fun t ht => ?_, fun ht => no s3 fun p hp => by have := (RM.pool_kind hp).2.2.2.2.2.2.2.2.1; rw [ht] at this; cases this⟩
    refine ⟨_, rfl, aw, _, _, _, rfl, rfl, hW3, atI_nat (j := 9) (word_at (i := 9) rfl), bk, 1, 1000, rfl, by decide, sh bk (by simp), fun b hb => ?_, fun hb => no s3 fun p hp => by have := (RM.pool_kind hp).2.2.2.2.2.2.2.2.2.1; rw [hb] at this; cases this⟩
    -- least, unit
    refine ⟨_, rfl, aw, _, _, _, rfl, rfl, hW3, atI_nat (j := 11) (word_at (i := 11) rfl), _, rfl, aw, _, _, _, rfl, rfl, hW3, atI_nat (j := 13) (word_at (i := 13) rfl), ls, un, rfl, sh ls (by simp), sh un (by simp), fun hlu => ?_, fun hlu => no s3 fun p hp => by have := (RM.pool_kind hp).2.2.2.2.2.2.2.2.2.2.1; rw [hlu] at this; cases this⟩
    obtain ⟨lu, hlu⟩ := Option.isSome_iff_exists.mp hlu
    -- none
    have hk : kindT kd = some x.1 := by
      unfold kindTT at hx
      simp only [Option.bind_eq_some_iff, Option.ite_none_right_eq_some, Option.some.injEq] at hx
      obtain ⟨kd', h1, k', _, rc', _, _, rfl⟩ := hx
      exact h1
    have hpl : (kd = ascii "place") ↔ x.1 = .place := (kind_place hk).symm
    have isn := none_is x.1 nn
    have good : (noneT x.1 nn).isSome = true → Q (.ref px) H3 := fun h => by
      obtain ⟨z, hz⟩ := Option.isSome_iff_exists.mp h
      refine k1' _ (RM.pool_make hnm hx ht hb hlu hz) H3 px s3 npx ?_
      show PlAt D.cPl H3 px (Tote.kindText x.1) x.2.1 x.2.2
      rw [RM.kind_text hk]
      exact hpx
    have bad : (noneT x.1 nn).isSome = false → NoC D H3 E := fun h => no s3 fun p hp => by
      have q := RM.pool_kind hp
      have e := q.2.2.2.2.2.2.2.1
      rw [hx] at e
      have e1 : x.1 = p.kind := congrArg (·.1) (Option.some.inj e)
      rw [e1, q.2.2.2.2.2.2.2.2.2.2.2] at h
      cases h
    have hnn : ∀ v ∈ nones, v.all told = true := by decide
    have fl : (nones.map fun w => V.str (T w)).all flatV = true := rfl
    refine ⟨_, rfl, aw, _, _, _, rfl, rfl, hW3, atI_nat (j := 15) (word_at (i := 15) rfl), aN, _, rfl, .inr (hN _), rfl, fl, _, rfl, ?_⟩
    rw [in_T hnn]
    cases c1 : nones.contains nn with
    | false =>
      rw [c1, Bool.false_and] at isn
      exact iteT (bad isn)
    | true =>
      rw [c1, Bool.true_and] at isn
      refine iteF ?_
      refine ⟨_, rfl, aw, _, _, _, rfl, rfl, hW3, atI_nat (j := 15) (word_at (i := 15) rfl), rfl, _, rfl, ?_⟩
      by_cases c2 : nn = ascii "fewer"
      · rw [decide_eq_true ((lit_of (s := "fewer") (by decide) (by decide +kernel) nn).mpr c2)]
        refine iteT ?_
        refine ⟨_, rfl, aw, _, _, _, rfl, rfl, hW3, atI_nat (j := 2) (word_at (i := 2) rfl), rfl, _, rfl, ?_⟩
        have e2 : (nn == ascii "fewer") = true := by simpa using c2
        rw [e2, Bool.true_and] at isn
        by_cases c3 : kd = ascii "place"
        · rw [decide_eq_true ((lit_of (s := "place") (by decide) (by decide +kernel) kd).mpr c3)]
          rw [hpl.mp c3] at isn
          exact iteT (bad (by rw [hpl.mp c3]; exact isn))
        · rw [decide_eq_false (fun q => c3 ((lit_of (s := "place") (by decide) (by decide +kernel) kd).mp q))]
          have e3 : (x.1 == .place) = false := by simpa using fun q => c3 (hpl.mpr q)
          rw [e3] at isn
          exact iteF ⟨_, rfl, good isn⟩
      · rw [decide_eq_false (fun q => c2 ((lit_of (s := "fewer") (by decide) (by decide +kernel) nn).mp q))]
        have e2 : (nn == ascii "fewer") = false := by simpa using c2
        rw [e2, Bool.false_and] at isn
        exact iteF ⟨_, rfl, good isn⟩
end
end RD
namespace RX
open PySem PySem.Spec PyProof.Rows L2
/-! ### list(d.values()) -/
def rValuesL : V → Hp → VK → Prop := fun x H Q => ∃ (d : Addr) (kvs : List (Key × V)), x = .ref d ∧ H d = some (.dK kvs) ∧ ∀ p, H p = none → Q (.ref p) (upd H p (.lst (kvs.map fun kv => kv.2)))
def tListValues (te : TE) : TE := fun σ H Q => te σ H fun x H1 => rValuesL x H1 Q
theorem pe_listValues {X : Cx} {e : Expr} {te : TE} {p apos cpos pos : Pos} (hc : X.calm = true) (he : PE X e te) (hg : Gl X "list") (hm : X.mg "list" = none) (hv : bootBuiltins "list" = some (.type "list")) (hbase : attributeBase e "values" X.env (eval e X.env) = eval e X.env := by rfl) (hline : (apos.endLine == cpos.line) = true := by rfl)
    (hs : starEach [.Call (.Attribute e "values" apos) [] [] cpos] X.env = (false, eval (.Call (.Attribute e "values" apos) [] [] cpos) X.env) :: starEach [] X.env := by rfl) :
    PE X (.Call (.Name "list" p) [.Call (.Attribute e "values" apos) [] [] cpos] [] pos) (tListValues te) := by
  refine ⟨fun pins s σ H Q I hq => ?_⟩
  refine wpAny_Call_Name_kw (ld_blt I hg hm hv ?_)
  refine PyProof.Rows.callWith_type1 ?_ hs rfl
  rw [hs]
  show wpAny _ _ (spliced ((false, eval (.Call (.Attribute e "values" apos) [] [] cpos) X.env) :: backTo pos (starEach [] X.env))) _ _ s
  refine Calls.spliced_cons ?_
  refine wpAny_Call_method (T := "dict") (id := "dict.values") hbase rfl hline F.plainAttrs_dict F.slot_dict_values F.type_dict_values (thn (he.run pins s σ H _ I hq) fun u s1 ⟨x, H1, I1, rx, d, kvs, ex, hd, q⟩ => ?_)
  subst ex
  obtain rfl : u = Value.ref d := rx
  obtain ⟨hz, hs0, vs, kv, hdo⟩ := I1.hok d _ hd
  obtain ⟨ep, hat⟩ := hdo.dictAt
  have lk : kvs.length = vs.length := Paired.length kv
  have I2 : Inv X pins σ H1 { s1 with heap := s1.heap.push { cls := .type "dict_values", data := .fields #[.ref d] } } := I1.kept (t' := s1.toks) fun b ob q => Heap.get?_push_of_some _ q
  refine ⟨hdo.typeIs, hdo.mapOf.noDict, ?_⟩
  show wpAny _ _ (callWith cpos (.builtin "dict.values") [.ref d] [] []) _ X.xe s1
  refine method_meetsIn F.slot_dict_values F.entry_dict_values rfl (PySem.evalArgs_none ⟨rfl, hdo.typeIs, F.args_dict_values_1 _, _, meets_dict_values (mixKind X.prog X.w) d hs0, ⟨vs, hdo⟩, ?_⟩)
  refine Calls.spliced_nil ?_
  refine PySem.W.kdl_call (PySem.W.kdl_values (knd := mixKind X.prog X.w) (kvs := vs) (ep := ep)) (I2.ok.hd hc) ⟨⟨_, Heap.get?_push_size _ rfl, rfl, rfl⟩, hat.push _⟩ (by rw [← lk]; exact hz) fun h' tk acc c hk hS hacc => ?_
  refine ⟨.ref _, upd H1 _ (.lst (kvs.map fun kv => kv.2)), I2.laid hk (Nat.le_refl _) (show ObjOk X.prog X.w _ _ _ (.lst (kvs.map fun kv => kv.2)) from ⟨?_, acc.toList, c, ?_, ?_⟩), rfl, q _ (I2.hok.fresh (Nat.le_refl _))⟩
  · rw [List.length_map]; exact hz
  · have el : acc.toList.length = acc.size := by simp
    refine vals_of_at (by rw [List.length_map, el, hacc.1, lk]) fun j x w h1 h2 => ?_
    obtain ⟨k, hky⟩ := hacc.2 j w (by rw [← Array.getElem?_toList]; exact h2)
    rw [List.getElem?_map] at h1
    obtain ⟨pk, hp, rfl⟩ := Option.map_eq_some_iff.mp h1
    obtain ⟨qv, g1, g2, g3⟩ := LiI.paired_get kv hp
    rw [hky] at g1
    cases g1
    exact g3
  · rw [Array.toArray_toList]; exact hS
end RX
namespace RD
open PySem PySem.Spec PyProof.Rows L2 RX RT
open Tote (Bytes numberOf ascii isName)
open RM (bnd RInv raceT poolT cut cardP foldP stepP dayT fits withPoolT)
abbrev sCard : Stmt := top 38
structure TxM (mg : Str → Option Value) : Prop where
  mr : ∃ t, mg "MOST_RACES" = some (.int 16 t)
  mp : ∃ t, mg "MOST_POOLS" = some (.int 64 t)
/-- a list of pools stands at a -/
def PoolsAt (C : Addr) (H : Hp) (a : Addr) (ps : List Tote.Pool) : Prop := ∃ as : List Addr, H a = some (.lst (as.map V.ref)) ∧ as.length = ps.length ∧ ∀ (i : Nat) p x, as[i]? = some p → ps[i]? = some x → PoolAt C H p x
theorem PoolsAt.on {C : Addr} {H H' : Hp} {a : Addr} {ps : List Tote.Pool} (h : PoolsAt C H a ps) (s : Same H H') : PoolsAt C H' a ps := by
  obtain ⟨as, h1, h2, h3⟩ := h
  exact ⟨as, s _ _ h1, h2, fun i p r a b => (h3 i p r a b).on s⟩
/-- a card stands at x -/
def CardAt (D : Ad) (H : Hp) (x : Addr) (C : Tote.Card) : Prop := ∃ dx ra pa, H x = some (.ins D.cCd dx (two "races" "pools" (.ref ra) (.ref pa))) ∧ RacesAt D.cRc H ra C.races ∧ PoolsAt D.cPl H pa C.pools
def spCard (K : PySem.W.Frag) (D : Ad) : Sp := fun vs H Q E => ∃ (a : Addr) (b : Bytes), vs = [.ref a] ∧ SqL K H a (byV b) ∧ b.length ≤ 65536 ∧
  (∀ C, cardP b = some C → (∀ r ∈ C.races, RInv r) → ∀ H' x, Same H H' → H x = none → CardAt D H' x C → Q (.ref x) H') ∧ (cardP b = none → NoC D H E)
theorem fold_app : ∀ (l1 l2 : List Bytes) (C : Tote.Card), foldP C (l1 ++ l2) = (foldP C l1).bind fun D => foldP D l2
  | [], _, _ => rfl
  | x :: l1, l2, C => by
    show (stepP C (cut 32 x)).bind (fun D => foldP D (l1 ++ l2)) = ((stepP C (cut 32 x)).bind fun D => foldP D l1).bind _
    cases stepP C (cut 32 x) with
    | none => rfl
    | some D => exact fold_app l1 l2 D
/-- the names that are taken -/
def nameKv (ps : List (Tote.Pool × Addr)) : List (Key × V) := ps.map fun p => (Sum.inr (T p.1.name), V.ref p.2)
theorem name_told {w : Bytes} (h : isName w = true) : w.all told = true := by
  unfold Tote.isName at h
  simp only [Bool.and_eq_true, decide_eq_true_eq] at h
  refine List.all_eq_true.mpr fun c hc => ?_
  have := List.all_eq_true.mp h.2.2.1 c hc
  have e : ∀ c : UInt8, (Tote.isSmall c || Tote.isDigit c) = true → told c = true := all_bytes (by decide +kernel)
  exact e c this
theorem name_any {ps : List (Tote.Pool × Addr)} (h : ∀ p ∈ ps, isName p.1.name = true) (w : Bytes) : ((nameKv ps).any fun kv => decide (kv.1 = Sum.inr (T w))) = (ps.map fun (p : Tote.Pool × Addr) => p.1.name).contains w := by
  induction ps with
  | nil => rfl
  | cons p ps ih =>
    show (decide ((Sum.inr (T p.1.name) : Key) = Sum.inr (T w)) || (nameKv ps).any _) = _
    rw [ih fun q hq => h q (List.mem_cons_of_mem _ hq), List.map_cons, List.contains_cons, key_rr]
    congr 1
    have := T_eq (w := w) (name_told (h p List.mem_cons_self))
    by_cases q : w = p.1.name
    · rw [decide_eq_true (this.mpr q).symm, q]; simp
    · rw [decide_eq_false fun e => q (this.mp e.symm), beq_eq_false_iff_ne.mpr q]
theorem name_val {ps : List (Tote.Pool × Addr)} (h : ∀ p ∈ ps, isName p.1.name = true) (w : Bytes) : (valV (nameKv ps) (Sum.inr (T w))).isSome = (ps.map fun (p : Tote.Pool × Addr) => p.1.name).contains w := by
  rw [← name_any h w]
  unfold valV
  rw [Option.isSome_map, Bool.eq_iff_iff, List.find?_isSome, List.any_eq_true]
theorem name_put {ps : List (Tote.Pool × Addr)} {p : Tote.Pool} {a : Addr} (h : ∀ p ∈ ps, isName p.1.name = true) (hn : (ps.map fun (p : Tote.Pool × Addr) => p.1.name).contains p.name = false) : putK (nameKv ps) (Sum.inr (T p.name)) (V.ref a) = nameKv (ps ++ [(p, a)]) := by
  unfold putK
  rw [name_any h, hn, if_neg Bool.false_ne_true]
  unfold nameKv
  rw [List.map_append]
  rfl
theorem natV_ne {r : Tote.Race} {ps : List (Addr × Addr)} : HO.lst (natV (headsL r)) ≠ HO.lst (ps.map fun p => V.ref p.1) := fun h => by
  have h' := HO.lst.inj h
  have e : natV (headsL r) = V.int (r.head 0 : Nat) :: natV ((List.range r.runners).map fun i => r.head (i + 1)) := by
    unfold headsL natV
    rw [List.range_succ_eq_map, List.map_cons, List.map_cons, List.map_map, List.map_map, List.map_map]
    rfl
  rw [e] at h'
  cases ps with
  | nil => cases h'
  | cons p ps => cases h'
theorem RaceAt.off {C p l a : Addr} {H : Hp} {r : Tote.Race} {ps : List (Addr × Addr)} {o : HO} (h : RaceAt C H p l r) (ha : H a = some (.lst (ps.map fun p => V.ref p.1))) : RaceAt C (upd H a o) p l r := by
  obtain ⟨⟨dx, e1⟩, e2⟩ := h
  refine ⟨⟨dx, ?_⟩, ?_⟩
  · rw [upd_ne (ne_of e1 ha (by intro z; cases z))]
    exact e1
  · rw [upd_ne (ne_of e2 ha natV_ne)]
    exact e2
theorem RacesAt.push {C a p l : Addr} {H : Hp} {rs : List Tote.Race} {r : Tote.Race} (h : RacesAt C H a rs) (hr : RaceAt C H p l r) : ∃ xs, H a = some (.lst xs) ∧ xs.length = rs.length ∧ RacesAt C (upd H a (.lst (xs ++ [V.ref p]))) a (rs ++ [r]) := by
  obtain ⟨ps, ha, hl, hat⟩ := h
  refine ⟨_, ha, by rw [List.length_map, hl], ps ++ [(p, l)], by rw [upd_same, List.map_append]; rfl, by rw [List.length_append, List.length_append, hl]; rfl, fun i q s h1 h2 => ?_⟩
  by_cases hi : i < rs.length
  · rw [List.getElem?_append_left (by omega)] at h1 h2
    exact (hat i q s h1 h2).off ha
  · rw [List.getElem?_append_right (by omega)] at h1 h2
    rw [hl] at h1
    cases hj : i - rs.length with
    | zero =>
      rw [hj] at h1 h2
      cases h1
      cases h2
      exact hr.off ha
    | succ j =>
      rw [hj] at h1
      cases h1
/-- a change at an address that holds no race's part -/
theorem RacesAt.away {C a q : Addr} {H : Hp} {rs : List Tote.Race} {u o : HO} (h : RacesAt C H a rs) (hq : H q = some u) (nl : ∀ xs, u ≠ .lst xs) (ni : ∀ C' dx fs, u ≠ .ins C' dx fs) : RacesAt C (upd H q o) a rs := by
  obtain ⟨ps, h1, h2, h3⟩ := h
  have k : ∀ {b : Addr} {v : HO}, H b = some v → u ≠ v → upd H q o b = some v := fun e n => by
    rw [upd_ne (ne_of e hq (Ne.symm n))]
    exact e
  refine ⟨ps, k h1 (nl _), h2, fun i p r a b => ?_⟩
  obtain ⟨⟨dx, e1⟩, e2⟩ := h3 i p r a b
  exact ⟨⟨dx, k e1 (ni _ _ _)⟩, k e2 (nl _)⟩
theorem cut_len (c : UInt8) : ∀ l : Bytes, (cut c l).length ≤ l.length + 1 ∧ ∀ w ∈ cut c l, w.length ≤ l.length
  | [] => ⟨Nat.le_refl _, fun w h => by rw [List.mem_singleton.mp h]; exact Nat.le_refl _⟩
  | x :: r => by
    obtain ⟨h1, h2⟩ := cut_len c r
    obtain ⟨w, t, e⟩ := RM.cut_ex c r
    by_cases hx : x = c
    · subst hx
      rw [RM.cut_cons_eq]
      refine ⟨Nat.succ_le_succ h1, fun v hv => ?_⟩
      rcases List.mem_cons.mp hv with rfl | hv
      · exact Nat.zero_le _
      · exact Nat.le_succ_of_le (h2 v hv)
    · rw [RM.cut_cons_ne hx e]
      rw [e] at h1 h2
      refine ⟨Nat.le_succ_of_le h1, fun v hv => ?_⟩
      rcases List.mem_cons.mp hv with rfl | hv
      · exact Nat.succ_le_succ (h2 w List.mem_cons_self)
      · exact Nat.le_succ_of_le (h2 v (List.mem_cons_of_mem _ hv))
theorem cut_short (c : UInt8) {l : Bytes} (h : l.length ≤ 70000) : Short (cut c l) := by
  obtain ⟨h1, h2⟩ := cut_len c l
  exact ⟨by omega, fun w hw => Nat.le_trans (h2 w hw) (by omega)⟩
theorem strs_words (ws : List Bytes) : (ws.map T).map V.str = ws.map fun w => V.str (T w) := by rw [List.map_map]; rfl
theorem nl_S : Str.ofString "\n" = SX.S [(10 : UInt8).toNat] := by decide +kernel
theorem sp_S : Str.ofString " " = SX.S [(32 : UInt8).toNat] := by decide +kernel
theorem day_races {ws : List Bytes} {C : Tote.Card} (h : dayT ws = some C) : C.races = [] ∧ C.pools = [] := RM.day_card h
section
variable {P : Program} {w : World} {K : PySem.W.Frag} {mg : Str → Option Value} {base : Heap} {D : Ad}
abbrev nCard : List Str := ["data", "lines", "races", "pools", "line", "words", "pool"]
theorem scCard : FnScope nCard ["data"] (defScope sCard) := ⟨rfl, rfl, rfl, by decide +kernel, rfl, by decide +kernel, by decide +kernel⟩
theorem ok_card {f : Addr} {fd : FuncData} (F : Fun K "read_card" "read_card" sCard f fd) (Tm : TxM mg) (Tl : TxLen mg) (cN : Err0 P w K mg base "NoCard" D.cNC (-8)) (cD : Cal P w K mg base CX0 1 "decoded" ["data"] (spDec K))
    (cDy : Cal P w K mg base (L2.CX P w) 5 "check_day" ["words"] (spDayC K D)) (cR : Cal P w K mg base (L2.CX P w) 6 "read_race" ["words"] (spRR K D)) (cP : Cal P w K mg base (L2.CX P w) 6 "read_pool" ["words", "races"] (spPool K D)) (mC : Mak P w K mg base "Card" D.cCd ["self", "races", "pools"] (spIn2 D.cCd "races" "pools")) :
    FnOk P w K mg base (L2.CX P w) 7 f fd ["data"] (spCard K D) := by
  obtain ⟨tr, gR⟩ := Tm.mr
  obtain ⟨tp, gP⟩ := Tm.mp
  refine F.okX scCard (fun vs H Q E h => ?_) (fun cdv A outer s H vs Q E hr h => ?_)
  · obtain ⟨a, b, rfl, _⟩ := h
    rfl
  · obtain ⟨a, b, rfl, hL, hb, k1, k2⟩ := h
    have hu := hu_of hr
    refine ⟨_, pss_cons (ps_set (i := 1) scCard.nd rfl (Or.inl rfl) (pe_split (pe_c0 cD hr (by decide) rfl (by exact (pa_cons (pv 0) pa_nil))) pe_str))
      (pss_cons (ps_if (PW.pt (pw_or (pt_cmpR op_ne (pe_bm0 PySem.F.plainAttrs_list PySem.F.slot_list_pop PySem.F.type_list_pop mt_pop (pv 1)) pe_str (nomark _)) (pw_or1 (pt_cmpR op_eq (pe_callB call_len_seq (by rfl) Tl.len PySem.boot_len (pa_cons (pv 1) pa_nil)) pe_int (nomark _))))) (pss_one (ps_err cN rfl hr (by decide) (takes_of rfl rfl rfl rfl) rfl)) pss_nil)
      (pss_cons (ps_expr (by exact (pe_cx cDy hr (by decide) (takes_of rfl rfl rfl rfl) rfl (by exact (pa_cons (pe_split (pe_ix ix_list (pv 1) pe_int (fun _ _ => rfl)) pe_str) pa_nil)))))
      (pss_cons (ps_set (i := 2) scCard.nd rfl (Or.inl rfl) (pe_lst pa_nil))
      (pss_cons (ps_set (i := 3) scCard.nd rfl (Or.inl rfl) pe_dnewK)
      (pss_cons (ps_for (passes_of rfl) rfl (pi_list (pe_slice sl_list (pv 1) (po_some pe_int) po_none)) (pg_name (i := 4) scCard.nd rfl (Or.inl rfl))
        (pss_cons (ps_set (i := 5) scCard.nd rfl (Or.inl rfl) (pe_split (pv 4) pe_str))
        (pss_one (ps_if (PW.pt (pw_and (pt_cmpR op_eq (pe_ix ix_list (pv 5) pe_int (fun _ _ => rfl)) pe_str (nomark _)) (pw_and1 (pt_cmpR op_eq (pe_callB call_lenD (by rfl) Tl.len PySem.boot_len (pa_cons (pv 3) pa_nil)) pe_int (nomark _)))))
          (pss_one (ps_expr (pe_bm PySem.F.plainAttrs_list PySem.F.slot_list_append PySem.F.type_list_append mt_append (pv 2) (pa_cons (by exact (pe_cx cR hr (by decide) (takes_of rfl rfl rfl rfl) rfl (by exact (pa_cons (pv 5) pa_nil)))) pa_nil))))
          (pss_cons (ps_set (i := 6) scCard.nd rfl (Or.inl rfl) (by exact (pe_cx cP hr (by decide) (takes_of rfl rfl rfl rfl) rfl (by exact (pa_cons (pv 5) (pa_cons (pv 2) pa_nil))))))
          (pss_cons (ps_if (pt_cmp (pc_din hu (pe_ix ix_list (pv 5) pe_int (fun _ _ => rfl)) (pv 3))) (pss_one (ps_err cN rfl hr (by decide) (takes_of rfl rfl rfl rfl) rfl)) pss_nil)
          (pss_one (ps_dput hu (pv 3) (pe_ix ix_list (pv 5) pe_int (fun _ _ => rfl)) (pv 6) rfl))))))))
      (pss_cons (ps_if (PW.pt (pw_or (pt_cmpR op_lt (pe_callB call_len_seq (by rfl) Tl.len PySem.boot_len (pa_cons (pv 2) pa_nil)) pe_int (nomark _)) (pw_or (pt_cmpR op_gt (pe_callB call_len_seq (by rfl) Tl.len PySem.boot_len (pa_cons (pv 2) pa_nil)) (pe_glob (v := .int 16) rfl gR ⟨_, rfl⟩) (nomark _))
          (pw_or1 (pt_cmpR op_gt (pe_callB call_lenD (by rfl) Tl.len PySem.boot_len (pa_cons (pv 3) pa_nil)) (pe_glob (v := .int 64) rfl gP ⟨_, rfl⟩) (nomark _)))))) (pss_one (ps_err cN rfl hr (by decide) (takes_of rfl rfl rfl rfl) rfl)) pss_nil)
      (pss_one (ps_ret (by exact (pe_mk mC hr (by decide) rfl (by exact (pa_cons (pv 2) (pa_cons (by exact (pe_listValues rfl (pv 3) (by rfl) Tl.list (by decide +kernel))) pa_nil))))))))))))), ?_⟩
    obtain ⟨bl, bw⟩ := cut_len 10 b
    obtain ⟨d0, t0, e0⟩ := RM.cut_ex 10 b
    obtain ⟨ls, last, eL⟩ : ∃ ls last, cut 10 b = ls ++ [last] := ⟨_, _, (List.dropLast_concat_getLast (RM.cut_ne 10 b)).symm⟩
    have hcard : cardP b = if last = [] then match ls with
        | [] => none
        | d :: ls => (dayT (cut 32 d)).bind fun C => (foldP C ls).bind fun D => if fits D = true then some D else none
      else none := by
      unfold cardP
      rw [e0] at eL
      rw [e0]
      dsimp only
      rw [eL, List.getLast?_concat, List.dropLast_concat]
      by_cases h : last = []
      · rw [if_pos (by rw [h]), if_pos h]
        all_goals (cases ls <;> rfl)
      · rw [if_neg (fun q => h (Option.some.inj q)), if_neg h]
    have hmem : ∀ v ∈ ls, v.length ≤ 70000 := fun v hv => Nat.le_trans (bw v (by rw [eL]; exact List.mem_append_left _ hv)) (by omega)
    -- lines = decoded(data).split(newline)
    refine ⟨_, rfl, a, b, rfl, hL, by omega, fun H1 s1 => ⟨⟨_, rfl⟩, _, _, rfl, rfl, by decide +kernel, by rw [T_len]; exact Nat.le_trans (Nat.add_le_add_right hb 2) (by decide), fun l1 n1 => ?_⟩⟩
    rw [split_T (v := 10) (by decide) b nl_S, eL, List.map_append, List.map_append]
    have f1 : H l1 = none := s1.free n1
    -- lines.pop()
    refine ⟨_, rfl, .inl ⟨rfl, _, SqL.of upd_same⟩, l1, _, V.str (T last), rfl, rfl, upd_same, ?_, rfl, _, rfl, ?_⟩
    · rw [List.length_append]
      show _[_ + 1 - 1]? = _
      rw [Nat.add_sub_cancel, List.getElem?_append_right (Nat.le_refl _), Nat.sub_self]
      rfl
    rw [show ((ls.map T).map V.str ++ ([last].map T).map V.str).dropLast = (ls.map T).map V.str by rw [List.map_cons, List.map_cons, List.map_nil, List.map_nil, List.dropLast_concat], upd_upd, strs_words]
    have s2 : Same H (upd H1 l1 (.lst (ls.map fun w => V.str (T w)))) := s1.put f1
    generalize hH2 : upd H1 l1 (.lst (ls.map fun w => V.str (T w))) = H2 at s2
    have a1 : H2 l1 = some (.lst (ls.map fun w => V.str (T w))) := by rw [← hH2]; exact upd_same
    by_cases hlast : ¬ last = []
    · rw [decide_eq_false (fun q => hlast ((lit_of (s := "") (v := []) (by decide) (by decide +kernel) last).mp q))]
      refine iteT ((k2 ?_).mono s2)
      rw [hcard, if_neg hlast]
    have hlast := Decidable.not_not.mp hlast
    rw [decide_eq_true ((lit_of (s := "") (v := []) (by decide) (by decide +kernel) last).mpr hlast)]
    refine iteF ?_
    rw [if_pos hlast] at hcard
    refine ⟨_, rfl, l1, _, rfl, .inl (SqL.of a1), rfl, _, rfl, ?_⟩
    rw [List.length_map]
    cases ls with
    | nil => exact iteT ((k2 hcard).mono s2)
    | cons d ls =>
    have hcard : cardP b = (dayT (cut 32 d)).bind fun C => (foldP C ls).bind fun D => if fits D = true then some D else none := hcard
    rw [decide_eq_false (show ¬ V.int (((d :: ls).length : Nat) : Int) = V.int 0 from fun q => by have := V.int.inj q; rw [List.length_cons] at this; omega)]
    refine iteF ?_
    -- check_day
    refine ⟨_, rfl, l1, _, _, _, rfl, rfl, SqL.of a1, atI_nat (j := 0) rfl, ⟨_, rfl⟩, _, _, rfl, rfl, by decide +kernel, by rw [T_len]; exact Nat.le_trans (Nat.add_le_add_right (hmem d List.mem_cons_self) 2) (by decide), fun q1 nq1 => ?_⟩
    rw [split_T (v := 32) (by decide) d sp_S, strs_words]
    have s3 := s2.put (o := .lst ((cut 32 d).map fun w => V.str (T w))) (s2.free nq1)
    refine ⟨q1, _, rfl, SqL.of upd_same, cut_short 32 (hmem d List.mem_cons_self), fun hday => ?_, fun hday => (k2 (by rw [hcard, hday]; rfl)).mono s3⟩
    obtain ⟨C0, hC0⟩ := Option.isSome_iff_exists.mp hday
    rw [hC0] at hcard
    have hcard : cardP b = (foldP C0 ls).bind fun D => if fits D = true then some D else none := hcard
    obtain ⟨r0, p0⟩ := day_races hC0
    have a1' : upd H2 q1 (.lst ((cut 32 d).map fun w => V.str (T w))) l1 = some (.lst ((d :: ls).map fun w => V.str (T w))) := by rw [upd_ne (ne_of_none a1 nq1)]; exact a1
    generalize hH3 : upd H2 q1 (.lst ((cut 32 d).map fun w => V.str (T w))) = H3 at s3 a1'
    -- races, pools, lines[1:]
    refine ⟨Nat.zero_le _, fun ra nra => ?_⟩
    have fra : H ra = none := s3.free nra
    have s4 := s3.put (o := .lst []) fra
    intro pd npd
    have fpd : H pd = none := s4.free npd
    have s5 := s4.put (o := .dK []) fpd
    have era : upd (upd H3 ra (.lst [])) pd (.dK []) ra = some (.lst []) := by rw [upd_ne (ne_of_none upd_same npd)]; exact upd_same
    have el1 : upd (upd H3 ra (.lst [])) pd (.dK []) l1 = some (.lst ((d :: ls).map fun w => V.str (T w))) := by
      have x1 : upd H3 ra (.lst []) l1 = some (.lst ((d :: ls).map fun w => V.str (T w))) := by rw [upd_ne (ne_of_none a1' nra)]; exact a1'
      rw [upd_ne (ne_of_none x1 npd)]
      exact x1
    have epd : upd (upd H3 ra (.lst [])) pd (.dK []) pd = some (.dK []) := upd_same
    generalize hH5 : upd (upd H3 ra (.lst [])) pd (.dK []) = H5 at s5 era el1 epd
    refine ⟨_, rfl, _, rfl, l1, _, rfl, SqL.of el1, fun la nla => ?_⟩
    have ecut : cutV ((d :: ls).map fun w => V.str (T w)) (some 1) none = ls.map fun w => V.str (T w) := by
      unfold cutV
      rw [HT.sIx_none, show (1 : Int) = ((1 : Nat) : Int) from rfl, HT.sIx_nat, List.length_map, List.length_cons, show min 1 (ls.length + 1) = 1 by omega]
      show (ls.map fun w => V.str (T w)).take (ls.length + 1 - 1) = _
      rw [Nat.add_sub_cancel]
      exact List.take_of_length_le (by rw [List.length_map]; exact Nat.le_refl _)
    rw [ecut]
    have fla : H la = none := s5.free nla
    have s6 := s5.put (o := .lst (ls.map fun w => V.str (T w))) fla
    have nra : ra ≠ la := ne_of_none era nla
    refine ⟨la, rfl, ⟨_, SqL.of upd_same⟩, ?_⟩
    have hll : ls.length ≤ 65536 := by
      have := bl
      rw [eL, List.length_append, List.length_cons, List.length_singleton] at this
      omega
    have raceLit := lit_of (s := "race") (v := ascii "race") (by decide) (by decide +kernel)
    refine for_list (K := K) (a := la) (xs := ls.map fun w => V.str (T w)) (fun i σ H' => ∃ (v4 v5 v6 : Option V) (C : Tote.Card) (pp : List (Tote.Pool × Addr)), σ = [some (.ref a), some (.ref l1), some (.ref ra), some (.ref pd), v4, v5, v6] ∧ RacesAt D.cRc H' ra C.races ∧ H' pd = some (.dK (nameKv pp)) ∧ C.pools = pp.map Prod.fst ∧ (∀ z ∈ pp, PoolAt D.cPl H' z.2 z.1) ∧
        H' la = some (.lst (ls.map fun w => V.str (T w))) ∧ Same H H' ∧ (∀ r ∈ C.races, RInv r) ∧ (∀ p ∈ pp, isName p.1.name = true) ∧ C.races.length ≤ i ∧ pp.length ≤ i ∧ foldP C0 ls = foldP C (ls.drop i)) ?_ (fun i σ H' _ q => ?_) ?_ ?_
    · refine ⟨none, none, none, C0, [], rfl, ?_, ?_, p0, (fun _ h => (by cases h)), upd_same, s6, ?_, (fun _ h => (by cases h)), ?_, Nat.le_refl _, rfl⟩
      · rw [r0]
        exact ⟨[], by rw [upd_ne nra]; exact era, rfl, fun i p r h => by cases h⟩
      · rw [upd_ne (ne_of_none epd nla)]
        exact epd
      · rw [r0]; exact fun r h => by cases h
      · rw [r0]; exact Nat.le_refl _
    · obtain ⟨_, _, _, _, _, _, _, _, _, _, q, _⟩ := q
      exact SqL.of q
    · rintro i x σ H6 hi ⟨v4, v5, v6, C, pp, rfl, hRA, hPD, hPP, hPA, hLA, s7, hRI, hNM, hrl, hpl, hfold⟩
      obtain ⟨l, hl, rfl⟩ : ∃ l, ls[i]? = some l ∧ x = V.str (T l) := by
        rw [List.getElem?_map] at hi
        obtain ⟨l, hl, e⟩ := Option.map_eq_some_iff.mp hi
        exact ⟨l, hl, e.symm⟩
      have hil : i < ls.length := (List.getElem?_eq_some_iff.mp hl).1
      have hl7 : l.length ≤ 70000 := hmem l (List.mem_cons_of_mem _ (List.mem_of_getElem? hl))
      have hdrop : ls.drop i = l :: ls.drop (i + 1) := by
        rw [List.drop_eq_getElem_cons hil]
        congr 1
        exact (List.getElem?_eq_some_iff.mp hl).2
      have hf : foldP C0 ls = (stepP C (cut 32 l)).bind fun D => foldP D (ls.drop (i + 1)) := by rw [hfold, hdrop]; rfl
      have fail : stepP C (cut 32 l) = none → cardP b = none := fun h => by rw [hcard, hf, h]; rfl
      -- words = line.split(blank)
      refine ⟨_, rfl, ⟨_, rfl⟩, _, _, rfl, rfl, by decide +kernel, by rw [T_len]; exact Nat.le_trans (Nat.add_le_add_right hl7 2) (by decide), fun q nq => ?_⟩
      rw [split_T (v := 32) (by decide) l sp_S, strs_words]
      have fq : H q = none := s7.free nq
      have s8 := s7.put (o := .lst ((cut 32 l).map fun w => V.str (T w))) fq
      have sq : Same H6 (upd H6 q (.lst ((cut 32 l).map fun w => V.str (T w)))) := same_upd nq
      have hRA := hRA.on sq
      have hPD := sq _ _ hPD
      have hLA := sq _ _ hLA
      have hPA : ∀ z ∈ pp, PoolAt D.cPl _ z.2 z.1 := fun z hz => (hPA z hz).on sq
      have hqq : upd H6 q (.lst ((cut 32 l).map fun w => V.str (T w))) q = some (.lst ((cut 32 l).map fun w => V.str (T w))) := upd_same
      generalize hH7 : upd H6 q (.lst ((cut 32 l).map fun w => V.str (T w))) = H7 at s8 hRA hPD hLA hqq hPA
      obtain ⟨w0, ws, ew⟩ := RM.cut_ex 32 l
      have hsh := cut_short 32 hl7
      have hW : WordsAt K H7 q (cut 32 l) := SqL.of hqq
      rw [ew] at hqq hf fail hsh hW
      have hstep : stepP C (w0 :: ws) = if w0 = ascii "race" ∧ C.pools = [] then (raceT ws).map fun x => { C with races := C.races ++ [x] } else if w0 = ascii "pool" then withPoolT C ws else none := rfl
      refine ⟨_, rfl, q, _, _, _, rfl, rfl, SqL.of hqq, atI_nat (j := 0) rfl, rfl, _, rfl, ?_⟩
      by_cases hc : w0 = ascii "race" ∧ C.pools = []
      · rw [decide_eq_true ((raceLit w0).mpr hc.1)]
        refine iteT ?_
        refine ⟨_, rfl, pd, _, rfl, hPD, rfl, _, rfl, ?_⟩
        have hpp0 : pp = [] := List.map_eq_nil_iff.mp (hPP.symm.trans hc.2)
        subst hpp0
        refine iteT ?_
        rw [if_pos hc] at hstep
        obtain ⟨ps, hra, hpsl, _⟩ := id hRA
        refine ⟨_, rfl, .inl ⟨rfl, _, SqL.of hra⟩, _, rfl, q, w0 :: ws, rfl, hW, hsh, fun r hr H8 p lh s9 hRn => ?_, fun hno => (k2 (fail (by rw [hstep]; show (raceT ws).map _ = none; rw [show raceT ws = none from hno]; rfl))).mono s8⟩
        have hr' : raceT ws = some r := hr
        obtain ⟨xs, hxs, hxl, hpush⟩ := (hRA.on s9).push hRn
        have hnra : ∀ {u : HO} {z : Addr}, H8 z = some u → z ≠ ra → upd H8 ra (.lst (xs ++ [V.ref p])) z = some u := fun h n => by rw [upd_ne n]; exact h
        have nla2 : la ≠ ra := Ne.symm nra
        have npd2 : pd ≠ ra := fun e => by
          have := s9 _ _ hPD
          rw [e, hxs] at this
          cases this
        refine ⟨ra, xs, _, rfl, rfl, hxs, by rw [hxl]; exact Nat.lt_of_le_of_lt (Nat.le_trans hrl (Nat.le_of_lt hil)) (Nat.lt_of_le_of_lt hll (by decide)), ?_⟩
        refine ⟨_, _, _, { C with races := C.races ++ [r] }, [], rfl, hpush, hnra (s9 _ _ hPD) npd2, hPP, (fun _ h => (by cases h)), hnra (s9 _ _ hLA) nla2, (s8.trans s9).put fra, ?_, hNM, ?_, Nat.le_succ_of_le hpl, ?_⟩
        · intro r' hr''
          rcases List.mem_append.mp hr'' with h | h
          · exact hRI r' h
          · rw [List.mem_singleton.mp h]
            exact RM.race_inv hr'
        · show (C.races ++ [r]).length ≤ i + 1
          rw [List.length_append, List.length_singleton]
          omega
        · rw [hf, hstep, hr']
          rfl
      · rcases Classical.em (w0 = ascii "race") with hw | hw
        all_goals first
          | (rw [decide_eq_true ((raceLit w0).mpr hw)]
             refine iteT ?_
             refine ⟨_, rfl, pd, _, rfl, hPD, rfl, _, rfl, ?_⟩
             rw [decide_eq_false (show ¬ V.int (((nameKv pp).length : Nat) : Int) = V.int 0 from fun e => hc ⟨hw, by
               have := V.int.inj e
               unfold nameKv at this
               rw [List.length_map] at this
               rw [hPP, List.length_eq_zero_iff.mp (show pp.length = 0 by omega)]
               rfl⟩)]
             refine iteF ?_)
          | (rw [decide_eq_false (fun e => hw ((raceLit w0).mp e))]
             refine iteF ?_)
        all_goals
          rw [if_neg hc] at hstep
          refine ⟨_, rfl, _, rfl, q, ra, w0 :: ws, C.races, rfl, hW, hsh, hRA, by omega, hRI, fun p hp1 hp2 H8 px s9 npx hpx => ?_, fun hno => (k2 (fail (by
            rw [hstep]
            by_cases hp : w0 = ascii "pool"
            · rw [if_pos hp]
              unfold withPoolT
              rw [show poolT C.races ws = none from hno (congrArg some hp)]
              rfl
            · rw [if_neg hp]))).mono s8⟩
          have hp0 : w0 = ascii "pool" := Option.some.inj hp1
          have hp2' : poolT C.races ws = some p := hp2
          rw [if_pos hp0] at hstep
          have hwp : stepP C (w0 :: ws) = if (C.pools.map fun (p : Tote.Pool) => p.name).contains p.name = true then none else some { C with pools := C.pools ++ [p] } := by
            rw [hstep]
            unfold withPoolT
            rw [hp2']
            rfl
          obtain ⟨nm, rest, ewn⟩ : ∃ nm rest, ws = nm :: rest := by
            cases ws with
            | nil => cases hp2'
            | cons nm rest => exact ⟨nm, rest, rfl⟩
          have hpn : p.name = nm := RM.pool_name (by rw [← ewn]; exact hp2')
          have hpi : isName p.name = true := by
            obtain ⟨_, _, _, _, _, _, _, _, _, e, h1, _, _, _, _, _, _, _, _, h2, _⟩ := RM.pool_parts hp2'
            rw [h2]
            exact h1
          have hcon0 : (C.pools.map fun (p : Tote.Pool) => p.name).contains p.name = (pp.map fun (p : Tote.Pool × Addr) => p.1.name).contains p.name := by rw [hPP, List.map_map]; rfl
          have h1w : ((w0 :: ws).map fun w => V.str (T w))[1]? = some (V.str (T p.name)) := by rw [ewn, hpn]; rfl
          have hPD8 := s9 _ _ hPD
          refine ⟨_, rfl, q, _, _, _, rfl, rfl, SqL.of (s9 _ _ hqq), atI_nat (j := 1) h1w, _, rfl, pd, _, rfl, DGet.k (k := Sum.inr (T p.name)) hPD8, _, rfl, ?_⟩
          rw [name_val hNM]
          rw [hcon0] at hwp
          cases hcon : (pp.map fun (p : Tote.Pool × Addr) => p.1.name).contains p.name with
          | true =>
            rw [hcon] at hwp
            exact iteT ((k2 (fail hwp)).mono (s8.trans s9))
          | false =>
            rw [hcon] at hwp
            refine iteF ?_
            have npdla : pd ≠ la := fun e => by
              have := s9 _ _ hLA
              rw [← e, hPD8] at this
              cases this
            have npdra : pd ≠ ra := fun e => by
              obtain ⟨ps, hra, _⟩ := hRA
              have := s9 _ _ hra
              rw [← e, hPD8] at this
              cases this
            refine ⟨_, rfl, _, rfl, _, rfl, q, _, _, _, rfl, rfl, SqL.of (s9 _ _ hqq), atI_nat (j := 1) h1w, pd, _, rfl, DPut.k (k := Sum.inr (T p.name)) hPD8 (by
              unfold nameKv
              rw [List.length_map]
              exact Nat.lt_of_le_of_lt (Nat.le_trans hpl (Nat.le_of_lt hil)) (Nat.lt_of_le_of_lt hll (by decide))), ?_⟩
            rw [name_put hNM hcon]
            have offP : ∀ {z : Addr} {x : Tote.Pool} {o : HO}, PoolAt D.cPl H8 z x → PoolAt D.cPl (upd H8 pd o) z x := fun ⟨dx, e⟩ => ⟨dx, by rw [upd_ne (ne_of e hPD8 (by intro z; cases z))]; exact e⟩
            refine ⟨_, _, _, { C with pools := C.pools ++ [p] }, pp ++ [(p, px)], rfl, ?_, upd_same, ?_, ?_, by rw [upd_ne (Ne.symm npdla)]; exact s9 _ _ hLA, (s8.trans s9).put fpd, hRI, ?_, Nat.le_succ_of_le hrl, ?_, ?_⟩
            · exact (hRA.on s9).away hPD8 (fun _ z => by cases z) (fun _ _ _ z => by cases z)
            · show C.pools ++ [p] = _
              rw [hPP, List.map_append]
              rfl
            · intro z hz
              rcases List.mem_append.mp hz with h | h
              · exact offP ((hPA z h).on s9)
              · rw [List.mem_singleton.mp h]
                exact offP hpx
            · intro p' hp'
              rcases List.mem_append.mp hp' with h | h
              · exact hNM p' h
              · rw [List.mem_singleton.mp h]
                exact hpi
            · rw [List.length_append, List.length_singleton]
              omega
            · rw [hf, hwp]
              rfl
    · rintro σ H6 ⟨v4, v5, v6, C, pp, rfl, hRA, hPD, hPP, hPA, hLA, s7, hRI, hNM, hrl, hpl, hfold⟩
      rw [List.length_map] at hrl hpl hfold
      rw [List.drop_length] at hfold
      have hcC : cardP b = if fits C = true then some C else none := by rw [hcard, hfold]; rfl
      obtain ⟨ps, hra, hpsl, _⟩ := id hRA
      have lenR : (ps.map fun p => V.ref p.1).length = C.races.length := by rw [List.length_map, hpsl]
      have lenP : (nameKv pp).length = C.pools.length := by rw [hPP, List.length_map]; exact List.length_map ..
      refine ⟨_, rfl, ra, _, rfl, .inl (SqL.of hra), _, _, rfl, rfl, _, rfl, ?_⟩
      rw [lenR]
      have bad : ¬ (1 ≤ C.races.length ∧ C.races.length ≤ 16 ∧ C.pools.length ≤ 64) → cardP b = none := fun h => by
        rw [hcC, if_neg]
        intro q
        unfold RM.fits at q
        simp only [Bool.and_eq_true, decide_eq_true_eq] at q
        exact h q
      refine ite2 (fun h => (k2 (bad fun q => ?_)).mono s7) (fun h1 => ?_)
      · have := of_decide_eq_true h
        omega
      have h1 := of_decide_eq_false (Bool.eq_false_iff.mpr h1)
      refine ⟨_, rfl, ra, _, rfl, .inl (SqL.of hra), _, _, rfl, rfl, _, rfl, ?_⟩
      rw [lenR]
      refine ite2 (fun h => (k2 (bad fun q => ?_)).mono s7) (fun h2 => ?_)
      · have := of_decide_eq_true h
        omega
      have h2 := of_decide_eq_false (Bool.eq_false_iff.mpr h2)
      refine ⟨_, rfl, pd, _, rfl, hPD, _, _, rfl, rfl, _, rfl, ?_⟩
      rw [lenP]
      refine ite2 (fun h => (k2 (bad fun q => ?_)).mono s7) (fun h3 => ?_)
      · have := of_decide_eq_true h
        omega
      have h3 := of_decide_eq_false (Bool.eq_false_iff.mpr h3)
      have hC : cardP b = some C := by
        rw [hcC, if_pos]
        unfold RM.fits
        simp only [Bool.and_eq_true, decide_eq_true_eq]
        omega
      refine ⟨_, rfl, _, rfl, pd, _, rfl, hPD, fun q nq => ?_⟩
      intro x dx nx nd ndx
      have sq : Same H6 (upd H6 q (.lst ((nameKv pp).map fun kv => kv.2))) := same_upd nq
      refine ⟨x, dx, _, _, rfl, upd_same, fun H9 hx hb => ⟨rfl, ?_⟩⟩
      have sm : Same (upd H6 q (.lst ((nameKv pp).map fun kv => kv.2))) H9 := Same.made nx nd fun b o e hb' => hb b o e hb'
      have s9 : Same H6 H9 := sq.trans sm
      have eq_ : ((nameKv pp).map fun kv => kv.2) = (pp.map Prod.snd).map V.ref := by
        unfold nameKv
        rw [List.map_map, List.map_map]
        rfl
      have hq9 := sm _ _ (upd_same (H := H6) (a := q) (o := .lst ((nameKv pp).map fun kv => kv.2)))
      rw [eq_] at hq9
      refine k1 C hC hRI H9 x (s7.trans s9) ((s7.trans sq).free nx) ⟨dx, ra, q, hx, hRA.on s9, pp.map Prod.snd, hq9, ?_, fun i p x e1 e2 => ?_⟩
      · rw [hPP, List.length_map, List.length_map]
      · rw [List.getElem?_map] at e1
        rw [hPP, List.getElem?_map] at e2
        obtain ⟨z, hz, rfl⟩ := Option.map_eq_some_iff.mp e1
        rw [hz] at e2
        cases e2
        exact (hPA z (List.mem_of_getElem? hz)).on s9
end
end RD
namespace RD
open PySem PySem.Spec PyProof.Rows L2 RX RT
open Tote (Bytes numberOf ascii badByte)
open RM (bnd cut placed)
abbrev Flt (D : Ad) (k p : Nat) (H : Hp) (E : XK) : Prop := Fails D.cF (faultF k p) H E
/-! ### words with their places -/
def fWord (w : Tote.Word) : List (Str × V) := two "text" "place" (.str (T w.w)) (.int (w.at_ : Int))
theorem fWord_t (w : Tote.Word) : (fWord w).lookup ("text" : Str) = some (.str (T w.w)) := rfl
theorem fWord_p (w : Tote.Word) : (fWord w).lookup ("place" : Str) = some (.int (w.at_ : Int)) := rfl
def WordAt (C : Addr) (H : Hp) (p : Addr) (w : Tote.Word) : Prop := ∃ dx, H p = some (.ins C dx (fWord w))
theorem WordAt.on {C p : Addr} {H H' : Hp} {w : Tote.Word} (h : WordAt C H p w) (s : Same H H') : WordAt C H' p w := by
  obtain ⟨dx, e⟩ := h
  exact ⟨dx, s _ _ e⟩
/-- their addresses -/
def WsOf (C : Addr) (H : Hp) (ps : List Addr) (ws : List Tote.Word) : Prop := ps.length = ws.length ∧ ∀ (i : Nat) p w, ps[i]? = some p → ws[i]? = some w → WordAt C H p w
theorem WsOf.on {C : Addr} {H H' : Hp} {ps : List Addr} {ws : List Tote.Word} (h : WsOf C H ps ws) (s : Same H H') : WsOf C H' ps ws := ⟨h.1, fun i p w a b => (h.2 i p w a b).on s⟩
theorem WsOf.get {C : Addr} {H : Hp} {ps : List Addr} {ws : List Tote.Word} (h : WsOf C H ps ws) {i : Nat} {w : Tote.Word} (e : ws[i]? = some w) : ∃ p, ps[i]? = some p ∧ WordAt C H p w := by
  have hi : i < ps.length := by
    rw [h.1]
    exact (List.getElem?_eq_some_iff.mp e).1
  exact ⟨ps[i], List.getElem?_eq_getElem hi, h.2 i _ _ (List.getElem?_eq_getElem hi) e⟩
theorem WsOf.drop {C : Addr} {H : Hp} {ps : List Addr} {ws : List Tote.Word} (h : WsOf C H ps ws) (n : Nat) : WsOf C H (ps.drop n) (ws.drop n) := by
  refine ⟨by rw [List.length_drop, List.length_drop, h.1], fun i p w a b => ?_⟩
  rw [List.getElem?_drop] at a b
  exact h.2 _ p w a b
theorem WsOf.push {C : Addr} {H : Hp} {ps : List Addr} {ws : List Tote.Word} {p : Addr} {w : Tote.Word} (h : WsOf C H ps ws) (hw : WordAt C H p w) : WsOf C H (ps ++ [p]) (ws ++ [w]) := by
  refine ⟨by rw [List.length_append, List.length_append, h.1]; rfl, fun i q v a b => ?_⟩
  by_cases hi : i < ws.length
  · rw [List.getElem?_append_left (by rw [h.1]; exact hi)] at a
    rw [List.getElem?_append_left hi] at b
    exact h.2 i q v a b
  · rw [List.getElem?_append_right (by rw [h.1]; omega), h.1] at a
    rw [List.getElem?_append_right (by omega)] at b
    cases hj : i - ws.length with
    | zero =>
      rw [hj] at a b
      cases a
      cases b
      exact hw
    | succ j =>
      rw [hj] at a
      cases a
/-- a list of words at a -/
def WsAt (C : Addr) (H : Hp) (a : Addr) (ws : List Tote.Word) : Prop := ∃ ps, H a = some (.lst (ps.map V.ref)) ∧ WsOf C H ps ws
theorem WsAt.on {C a : Addr} {H H' : Hp} {ws : List Tote.Word} (h : WsAt C H a ws) (s : Same H H') : WsAt C H' a ws := by
  obtain ⟨ps, e, w⟩ := h
  exact ⟨ps, s _ _ e, w.on s⟩
theorem ref_at {ps : List Addr} {i : Nat} {p : Addr} (h : ps[i]? = some p) : (ps.map V.ref)[i]? = some (V.ref p) := by rw [List.getElem?_map, h]; rfl
abbrev sThere : Stmt := top 21
abbrev sEnded : Stmt := top 22
abbrev sSigns : Stmt := top 19
abbrev sSplit : Stmt := top 20
def spThere (D : Ad) : Sp := fun vs H Q E => ∃ (p : Addr) (w : Tote.Word), vs = [.ref p] ∧ WordAt D.cW H p w ∧ (w.w ≠ [] → Q .non H) ∧ (w.w = [] → Flt D 3 w.at_ H E)
def spEnded (D : Ad) : Sp := fun vs H Q E => ∃ (p : Addr) (w : Tote.Word), vs = [.ref p] ∧ WordAt D.cW H p w ∧ (w.w = [] → Q .non H) ∧ (w.w ≠ [] → Flt D 3 w.at_ H E)
def spSigns (K : PySem.W.Frag) (D : Ad) : Sp := fun vs H Q E => ∃ (a : Addr) (b l r : Bytes) (p : Nat), vs = [.ref a, .int p, .int ((p + l.length : Nat) : Int)] ∧ SqL K H a (byV b) ∧ b.length ≤ 66000 ∧ b.drop p = l ++ 10 :: r ∧
  (badByte true 0 l = none → Q .non H) ∧ (∀ i, badByte true 0 l = some i → Flt D 2 (p + i) H E)
def spSplit (D : Ad) : Sp := fun vs H Q _ => ∃ (l : Bytes) (p : Nat), vs = [.str (T l), .int p] ∧ l.length ≤ 66000 ∧
  ∀ H' a, Same H H' → H a = none → WsAt D.cW H' a (placed p (cut 32 l) ++ [⟨[], p + l.length⟩]) → Q (.ref a) H'
theorem empty_lit (w : Bytes) : V.str (T w) = V.str (Str.ofString "") ↔ w = [] := lit_of (s := "") (v := []) (by decide) (by decide +kernel) w
theorem V_byte (c d : UInt8) : V.int (c.toNat : Int) = V.int (d.toNat : Int) ↔ c = d := by
  constructor
  · intro h
    have := V.int.inj h
    exact UInt8.toNat_inj.mp (by omega)
  · rintro rfl; rfl
section
variable {P : Program} {w : World} {K : PySem.W.Frag} {mg : Str → Option Value} {base : Heap} {D : Ad}
theorem scThere : FnScope ["word"] ["word"] (defScope sThere) := ⟨rfl, rfl, rfl, by decide +kernel, rfl, by decide +kernel, by decide +kernel⟩
theorem ok_there {f : Addr} {fd : FuncData} (F : Fun K "check_there" "check_there" sThere f fd) (Tw : TxW K D.cW) (cF : ErrF P w K mg base D.cF) : FnOk P w K mg base (L2.CX P w) 4 f fd ["word"] (spThere D) := by
  refine F.okX scThere (fun vs H Q E h => ?_) (fun cdv A outer s H vs Q E hr h => ?_)
  · obtain ⟨p, w, rfl, _⟩ := h
    rfl
  · obtain ⟨p, w, rfl, ⟨dx, hp⟩, k1, k2⟩ := h
    refine ⟨_, pss_one (ps_if (pt_cmpR op_eq (pe_fld (pv 0) rfl) pe_str (nomark _)) (pss_one (ps_flt cF rfl hr (by decide) (takes_of rfl rfl rfl rfl) rfl (by exact (pa_cons pe_int (pa_cons (pe_fld (pv 0) rfl) pa_nil))))) pss_nil), ?_⟩
    refine ⟨_, rfl, p, _, dx, _, _, rfl, hp, Tw.cl, Tw.n1, fWord_t w, rfl, _, rfl, ?_⟩
    by_cases h : w.w = []
    · rw [decide_eq_true ((empty_lit w.w).mpr h)]
      exact iteT ⟨_, rfl, p, _, dx, _, _, rfl, hp, Tw.cl, Tw.n2, fWord_p w, _, _, rfl, k2 h⟩
    · rw [decide_eq_false (fun q => h ((empty_lit w.w).mp q))]
      exact iteF (k1 h)
theorem scEnded : FnScope ["word"] ["word"] (defScope sEnded) := ⟨rfl, rfl, rfl, by decide +kernel, rfl, by decide +kernel, by decide +kernel⟩
theorem ok_ended {f : Addr} {fd : FuncData} (F : Fun K "check_ended" "check_ended" sEnded f fd) (Tw : TxW K D.cW) (cF : ErrF P w K mg base D.cF) : FnOk P w K mg base (L2.CX P w) 4 f fd ["word"] (spEnded D) := by
  refine F.okX scEnded (fun vs H Q E h => ?_) (fun cdv A outer s H vs Q E hr h => ?_)
  · obtain ⟨p, w, rfl, _⟩ := h
    rfl
  · obtain ⟨p, w, rfl, ⟨dx, hp⟩, k1, k2⟩ := h
    refine ⟨_, pss_one (ps_if (pt_cmpR op_ne (pe_fld (pv 0) rfl) pe_str (nomark _)) (pss_one (ps_flt cF rfl hr (by decide) (takes_of rfl rfl rfl rfl) rfl (by exact (pa_cons pe_int (pa_cons (pe_fld (pv 0) rfl) pa_nil))))) pss_nil), ?_⟩
    refine ⟨_, rfl, p, _, dx, _, _, rfl, hp, Tw.cl, Tw.n1, fWord_t w, rfl, _, rfl, ?_⟩
    by_cases h : w.w = []
    · rw [decide_eq_true ((empty_lit w.w).mpr h)]
      exact iteF (k1 h)
    · rw [decide_eq_false (fun q => h ((empty_lit w.w).mp q))]
      exact iteT ⟨_, rfl, p, _, dx, _, _, rfl, hp, Tw.cl, Tw.n2, fWord_p w, _, _, rfl, k2 h⟩
theorem scSigns : FnScope ["data", "start", "end", "place"] ["data", "start", "end"] (defScope sSigns) := ⟨rfl, rfl, rfl, by decide +kernel, rfl, by decide +kernel, by decide +kernel⟩
theorem ok_signs {f : Addr} {fd : FuncData} (F : Fun K "check_signs" "check_signs" sSigns f fd) (Tl : TxLen mg) (cF : ErrF P w K mg base D.cF) : FnOk P w K mg base (L2.CX P w) 4 f fd ["data", "start", "end"] (spSigns K D) := by
  refine F.okX scSigns (fun vs H Q E h => ?_) (fun cdv A outer s H vs Q E hr h => ?_)
  · obtain ⟨a, b, l, r, p, rfl, _⟩ := h
    rfl
  · obtain ⟨a, b, l, r, p, rfl, hL, hb, hd, k1, k2⟩ := h
    refine ⟨_, pss_cons (ps_if (pt_cmpR op_eq (pv 1) (pv 2) (nomark _)) (pss_one (ps_flt cF rfl hr (by decide) (takes_of rfl rfl rfl rfl) rfl (by exact (pa_cons pe_int (pa_cons (pv 2) pa_nil))))) pss_nil)
      (pss_one (ps_for (passes_of rfl) rfl (pi_range2 (by rfl) Tl.range (pa_cons (pv 1) (pa_cons (pv 2) pa_nil))) (pg_name (i := 3) scSigns.nd rfl (Or.inl rfl))
        (pss_cons (ps_if (PW.pt (pw_or (pt_cmpR op_lt (pe_ix ix_list (pv 0) (pv 3) (fun _ _ => rfl)) pe_int (nomark _)) (pw_or1 (pt_cmpR op_gt (pe_ix ix_list (pv 0) (pv 3) (fun _ _ => rfl)) pe_int (nomark _))))) (pss_one (ps_flt cF rfl hr (by decide) (takes_of rfl rfl rfl rfl) rfl (by exact (pa_cons pe_int (pa_cons (pv 3) pa_nil))))) pss_nil)
        (pss_one (ps_if (PW.pt (pw_and (pt_cmpR op_eq (pe_ix ix_list (pv 0) (pv 3) (fun _ _ => rfl)) pe_int (nomark _)) (pw_and1 (PW.pt (pw_or (pt_cmpR op_eq (pv 3) (pv 1) (nomark _)) (pw_or (pt_cmpR op_eq (pv 3) (pe_op op_sub (pv 2) pe_int) (nomark _)) (pw_or1 (pt_cmpR op_eq (pe_ix ix_list (pv 0) (pe_op op_sub (pv 3) pe_int) (fun _ _ => rfl)) pe_int (nomark _)))))))))
          (pss_one (ps_flt cF rfl hr (by decide) (takes_of rfl rfl rfl rfl) rfl (by exact (pa_cons pe_int (pa_cons (pv 3) pa_nil))))) pss_nil))))), ?_⟩
    refine ⟨_, rfl, _, rfl, rfl, _, rfl, ?_⟩
    by_cases hl0 : l = []
    · subst hl0
      rw [decide_eq_true (show V.int (p : Int) = V.int ((p + ([] : Bytes).length : Nat) : Int) from rfl)]
      exact iteT ⟨_, rfl, _, _, rfl, k2 0 rfl⟩
    have hlp : 0 < l.length := List.length_pos_iff.mpr hl0
    rw [decide_eq_false (show ¬ V.int (p : Int) = V.int ((p + l.length : Nat) : Int) from fun q => by have := V.int.inj q; omega)]
    refine iteF ?_
    have hbl : p + l.length < b.length := by
      have := congrArg List.length hd
      rw [List.length_drop, List.length_append, List.length_cons] at this
      omega
    have hat : ∀ {i : Nat} {c : UInt8}, l[i]? = some c → (byV b)[p + i]? = some (V.int (c.toNat : Int)) := fun {i c} h => by
      have hi := (List.getElem?_eq_some_iff.mp h).1
      unfold byV
      rw [List.getElem?_map, ← List.getElem?_drop, hd, List.getElem?_append_left hi, h]
      rfl
    refine ⟨_, rfl, _, rfl, p, ((p + l.length : Nat) : Int), rfl, ⟨by omega, by omega, by omega, by omega⟩, ?_⟩
    rw [show (((p + l.length : Nat) : Int) - (p : Int)).toNat = l.length by omega]
    refine for_range (fun i σ H' => H' = H ∧ ∃ (v : Option V) (g : Bool), σ = [some (.ref a), some (.int p), some (.int ((p + l.length : Nat) : Int)), v] ∧ badByte true 0 l = badByte g i (l.drop i) ∧ (g = true → i < l.length) ∧ (g = true ↔ i = 0 ∨ l[i - 1]? = some 32)) ⟨rfl, none, true, rfl, by rw [List.drop_zero], fun _ => hlp, by simp⟩ ?_ ?_
    · rintro i σ H1 hi ⟨rfl, v, g, rfl, hbad, hg, hgi⟩
      obtain ⟨c, hc⟩ : ∃ c, l[i]? = some c := ⟨l[i], List.getElem?_eq_getElem hi⟩
      have hci := hat hc
      have hst : badByte true 0 l = if c < 32 ∨ 126 < c then some i else if c = 32 then (if g = true then some i else if i + 1 = l.length then some i else badByte true (i + 1) (l.drop (i + 1))) else badByte false (i + 1) (l.drop (i + 1)) := by
        rw [hbad, List.drop_eq_getElem_cons hi, (List.getElem?_eq_some_iff.mp hc).2]
        have e : ((l.drop (i + 1)).isEmpty = true) = (i + 1 = l.length) := by
          rw [List.isEmpty_iff, List.drop_eq_nil_iff]
          exact propext ⟨fun h => by omega, fun h => by omega⟩
        simp only [badByte, e]
      have ei : (p : Int) + (i : Int) = ((p + i : Nat) : Int) := by omega
      rw [ei]
      have bad : badByte true 0 l = some i → Flt D 2 (p + i) H1 E := fun h => k2 i h
      refine ⟨_, rfl, _, rfl, a, _, _, _, rfl, rfl, hL, atI_nat hci, _, _, rfl, rfl, _, rfl, ?_⟩
      refine ite2 (fun h => ?_) (fun h1 => ?_)
      · have h := of_decide_eq_true h
        exact ⟨_, rfl, _, _, rfl, bad (by rw [hst, if_pos (.inl (by rw [UInt8.lt_iff_toNat_lt]; show c.toNat < 32; omega))])⟩
      have h1 := of_decide_eq_false (Bool.eq_false_iff.mpr h1)
      refine ⟨_, rfl, _, rfl, a, _, _, _, rfl, rfl, hL, atI_nat hci, _, _, rfl, rfl, _, rfl, ?_⟩
      refine ite2 (fun h => ?_) (fun h2 => ?_)
      · have h := of_decide_eq_true h
        exact ⟨_, rfl, _, _, rfl, bad (by rw [hst, if_pos (.inr (by rw [UInt8.lt_iff_toNat_lt]; show 126 < c.toNat; omega))])⟩
      have h2 := of_decide_eq_false (Bool.eq_false_iff.mpr h2)
      have hst : badByte true 0 l = if c = 32 then (if g = true then some i else if i + 1 = l.length then some i else badByte true (i + 1) (l.drop (i + 1))) else badByte false (i + 1) (l.drop (i + 1)) := by
        rw [hst, if_neg]
        rintro (h | h)
        · rw [UInt8.lt_iff_toNat_lt] at h
          have : c.toNat < 32 := h
          omega
        · rw [UInt8.lt_iff_toNat_lt] at h
          have : 126 < c.toNat := h
          omega
      refine ⟨_, rfl, _, rfl, a, _, _, _, rfl, rfl, hL, atI_nat hci, rfl, _, rfl, ?_⟩
      have v32 : V.int (c.toNat : Int) = V.int 32 ↔ c = 32 := V_byte c 32
      by_cases h3 : ¬ c = 32
      · rw [decide_eq_false (fun q => h3 (v32.mp q))]
        rw [if_neg h3] at hst
        refine iteF ⟨rfl, _, false, rfl, hst, (fun h => by cases h), ?_⟩
        rw [show i + 1 - 1 = i by omega, hc]
        exact ⟨fun h => (by cases h), fun h => h.elim (fun h => absurd h (Nat.succ_ne_zero i)) fun h => absurd (Option.some.inj h) h3⟩
      have h3 := Decidable.not_not.mp h3
      rw [decide_eq_true (v32.mpr h3)]
      rw [if_pos h3] at hst
      refine iteT ⟨_, rfl, _, rfl, rfl, _, rfl, ?_⟩
      by_cases h4 : ¬ i = 0
      · rw [decide_eq_false (show ¬ V.int ((p + i : Nat) : Int) = V.int (p : Int) from fun q => by have := V.int.inj q; omega)]
        refine iteF ⟨_, rfl, _, rfl, _, _, rfl, rfl, rfl, _, rfl, ?_⟩
        by_cases h5 : ¬ i + 1 = l.length
        · rw [decide_eq_false (fun q => h5 (by have := V.int.inj q; omega))]
          refine iteF ⟨_, rfl, _, rfl, _, _, rfl, rfl, ?_⟩
          obtain ⟨c', hc'⟩ : ∃ c', l[i - 1]? = some c' := ⟨l[i - 1]'(by omega), List.getElem?_eq_getElem _⟩
          refine ⟨a, _, _, _, rfl, rfl, hL, at_of (j := p + (i - 1)) (by omega) (hat hc'), rfl, _, rfl, ?_⟩
          have v32' : V.int (c'.toNat : Int) = V.int 32 ↔ c' = 32 := V_byte c' 32
          by_cases h6 : ¬ c' = 32
          · rw [decide_eq_false (fun q => h6 (v32'.mp q))]
            have g0 : g = false := by
              cases g with
              | false => rfl
              | true =>
                rcases hgi.mp rfl with h | h
                · exact absurd h h4
                · rw [hc'] at h
                  exact absurd (Option.some.inj h) h6
            rw [if_neg (by rw [g0]; exact Bool.false_ne_true), if_neg h5] at hst
            refine iteF ⟨rfl, _, true, rfl, hst, fun _ => by omega, ?_⟩
            rw [show i + 1 - 1 = i by omega, hc, h3]
            exact ⟨fun _ => .inr rfl, fun _ => rfl⟩
          have h6 := Decidable.not_not.mp h6
          rw [decide_eq_true (v32'.mpr h6)]
          exact iteT ⟨_, rfl, _, _, rfl, bad (by rw [hst, if_pos (hgi.mpr (.inr (by rw [hc', h6])))])⟩
        have h5 := Decidable.not_not.mp h5
        rw [decide_eq_true (show V.int ((p + i : Nat) : Int) = V.int (((p + l.length : Nat) : Int) - 1) from congrArg V.int (by omega))]
        refine iteT ⟨_, rfl, _, _, rfl, bad ?_⟩
        rw [hst]
        cases g
        · rw [if_neg Bool.false_ne_true, if_pos h5]
        · rw [if_pos rfl]
      have h4 := Decidable.not_not.mp h4
      rw [decide_eq_true (show V.int ((p + i : Nat) : Int) = V.int (p : Int) from congrArg V.int (by omega))]
      exact iteT ⟨_, rfl, _, _, rfl, bad (by rw [hst, if_pos (hgi.mpr (.inl h4))])⟩
    · rintro σ H1 ⟨rfl, v, g, rfl, hbad, hg, hgi⟩
      have g0 : g = false := by
        cases g with
        | false => rfl
        | true => exact absurd (hg rfl) (Nat.lt_irrefl _)
      subst g0
      rw [List.drop_length] at hbad
      exact k1 hbad
end
end RD
namespace RD
open PySem PySem.Spec PyProof.Rows L2 RX RT
open Tote (Bytes numberOf ascii badByte)
open RM (bnd cut placed)
/-- how far some words reach -/
def off : List Bytes → Nat
  | [] => 0
  | w :: t => w.length + 1 + off t
theorem placed_app : ∀ (u v : List Bytes) (p : Nat), placed p (u ++ v) = placed p u ++ placed (p + off u) v
  | [], _, _ => rfl
  | w :: u, v, p => by
    show _ :: placed _ (u ++ v) = _ :: (placed _ u ++ _)
    rw [placed_app u v]
    congr 3
    show p + w.length + 1 + off u = p + (w.length + 1 + off u)
    omega
theorem off_app : ∀ (u v : List Bytes), off (u ++ v) = off u + off v
  | [], v => by show off v = 0 + off v; omega
  | w :: u, v => by
    show w.length + 1 + off (u ++ v) = w.length + 1 + off u + off v
    rw [off_app u v]
    omega
theorem off_cut (c : UInt8) : ∀ l : Bytes, off (cut c l) = l.length + 1
  | [] => rfl
  | x :: r => by
    have ih := off_cut c r
    obtain ⟨w, t, e⟩ := RM.cut_ex c r
    by_cases hx : x = c
    · subst hx
      rw [RM.cut_cons_eq]
      show 0 + 1 + off (cut x r) = r.length + 1 + 1
      rw [ih]
      omega
    · rw [RM.cut_cons_ne hx e]
      rw [e] at ih
      have ih' : w.length + 1 + off t = r.length + 1 := ih
      show w.length + 1 + 1 + off t = r.length + 1 + 1
      omega
theorem placed_len : ∀ (l : List Bytes) (p : Nat), (placed p l).length = l.length
  | [], _ => rfl
  | w :: t, p => by
    show (placed _ t).length + 1 = t.length + 1
    rw [placed_len t]
theorem WsOf.away {C a : Addr} {H : Hp} {xs : List V} {o : HO} {ps : List Addr} {ws : List Tote.Word} (h : WsOf C H ps ws) (ha : H a = some (.lst xs)) : WsOf C (upd H a o) ps ws := by
  refine ⟨h.1, fun i p w h1 h2 => ?_⟩
  obtain ⟨dx, e⟩ := h.2 i p w h1 h2
  exact ⟨dx, by rw [upd_ne (ne_of e ha (by intro z; cases z))]; exact e⟩
theorem WordAt.away {C a p : Addr} {H : Hp} {xs : List V} {o : HO} {w : Tote.Word} (h : WordAt C H p w) (ha : H a = some (.lst xs)) : WordAt C (upd H a o) p w := by
  obtain ⟨dx, e⟩ := h
  exact ⟨dx, by rw [upd_ne (ne_of e ha (by intro z; cases z))]; exact e⟩
section
variable {P : Program} {w : World} {K : PySem.W.Frag} {mg : Str → Option Value} {base : Heap} {D : Ad}
abbrev nSplit : List Str := ["line", "start", "words", "place", "text"]
theorem scSplit : FnScope nSplit ["line", "start"] (defScope sSplit) := ⟨rfl, rfl, rfl, by decide +kernel, rfl, by decide +kernel, by decide +kernel⟩
theorem ok_split {f : Addr} {fd : FuncData} (F : Fun K "split_line" "split_line" sSplit f fd) (Tl : TxLen mg) (mW : Mak P w K mg base "Word" D.cW ["self", "text", "place"] (spIn2 D.cW "text" "place")) : FnOk P w K mg base CX0 3 f fd ["line", "start"] (spSplit D) := by
  refine F.ok scSplit (fun vs H Q E h => ?_) (fun cdv A outer s H vs Q E hr h => ?_)
  · obtain ⟨l, p, rfl, _⟩ := h
    rfl
  · obtain ⟨l, p, rfl, hl, k⟩ := h
    refine ⟨_, pss_cons (ps_set (i := 2) scSplit.nd rfl (Or.inl rfl) (pe_lst pa_nil))
      (pss_cons (ps_set (i := 3) scSplit.nd rfl (Or.inl rfl) (pv 1))
      (pss_cons (ps_for PassesOwn.never rfl (pi_list (pe_split (pv 0) pe_str)) (pg_name (i := 4) scSplit.nd rfl (Or.inl rfl))
        (pss_cons (ps_expr (pe_bm PySem.F.plainAttrs_list PySem.F.slot_list_append PySem.F.type_list_append mt_append (pv 2) (pa_cons (by exact (pe_mk mW hr (by decide) rfl (by exact (pa_cons (pv 4) (pa_cons (pv 3) pa_nil))))) pa_nil)))
        (pss_one (ps_aug (i := 3) scSplit.nd rfl (Or.inl rfl) (pe_op op_add (pe_callB call_len_str (by rfl) Tl.len PySem.boot_len (pa_cons (pv 4) pa_nil)) pe_int) ip_add))))
      (pss_cons (ps_expr (pe_bm PySem.F.plainAttrs_list PySem.F.slot_list_append PySem.F.type_list_append mt_append (pv 2) (pa_cons (by exact (pe_mk mW hr (by decide) rfl (by exact (pa_cons pe_str (pa_cons (pe_op op_sub (pv 3) pe_int) pa_nil))))) pa_nil)))
      (pss_one (ps_ret (pv 2)))))), ?_⟩
    refine ⟨Nat.zero_le _, fun a na => ?_⟩
    have s1 : Same H (upd H a (.lst [])) := same_upd na
    refine ⟨_, rfl, _, rfl, ⟨_, rfl⟩, _, _, rfl, rfl, by decide +kernel, by rw [T_len]; exact Nat.le_trans (Nat.add_le_add_right hl 2) (by decide), fun q nq => ?_⟩
    rw [split_T (v := 32) (by decide) l sp_S, strs_words]
    have naq : a ≠ q := ne_of_none upd_same nq
    have s2 := s1.put (o := .lst ((cut 32 l).map fun w => V.str (T w))) (s1.free nq)
    have hqa : upd (upd H a (.lst [])) q (.lst ((cut 32 l).map fun w => V.str (T w))) a = some (.lst []) := by rw [upd_ne naq]; exact upd_same
    have hqq : upd (upd H a (.lst [])) q (.lst ((cut 32 l).map fun w => V.str (T w))) q = some (.lst ((cut 32 l).map fun w => V.str (T w))) := upd_same
    generalize hH2 : upd (upd H a (.lst [])) q (.lst ((cut 32 l).map fun w => V.str (T w))) = H2 at s2 hqa hqq
    obtain ⟨bl, bw⟩ := cut_len 32 l
    refine ⟨q, rfl, ⟨_, SqL.of hqq⟩, ?_⟩
    -- one more word
    have more : ∀ {ps : List Addr} {ws : List Tote.Word} {H3 H4 : Hp} {x dx : Addr} {wd : Tote.Word}, H3 a = some (.lst (ps.map V.ref)) → WsOf D.cW H3 ps ws → H3 x = none → H3 dx = none → H4 x = some (.ins D.cW dx (fWord wd)) →
        But x (upd (upd H3 dx (.own x)) x (.ins D.cW dx [])) H4 → Same H3 H4 ∧ H4 a = some (.lst (ps.map V.ref)) ∧ upd H4 a (.lst (ps.map V.ref ++ [V.ref x])) a = some (.lst ((ps ++ [x]).map V.ref)) ∧ WsOf D.cW (upd H4 a (.lst (ps.map V.ref ++ [V.ref x]))) (ps ++ [x]) (ws ++ [wd]) := by
      intro ps ws H3 H4 x dx wd ha hw nx nd hx hbut
      have sm : Same H3 H4 := Same.made nx nd fun b o e hb => hbut b o e hb
      have ha4 := sm _ _ ha
      refine ⟨sm, ha4, by rw [upd_same, List.map_append]; rfl, ((hw.on sm).away ha4).push (WordAt.away ⟨dx, hx⟩ ha4)⟩
    refine for_list (K := K) (a := q) (xs := (cut 32 l).map fun w => V.str (T w)) (fun i σ H' => ∃ (v : Option V) (ps : List Addr), σ = [some (.str (T l)), some (.int p), some (.ref a), some (.int ((p + off ((cut 32 l).take i) : Nat) : Int)), v] ∧ H' a = some (.lst (ps.map V.ref)) ∧ WsOf D.cW H' ps (placed p ((cut 32 l).take i)) ∧ Same H H' ∧ H' q = some (.lst ((cut 32 l).map fun w => V.str (T w))))
      ⟨none, [], rfl, hqa, ⟨rfl, fun i p w h => by cases h⟩, s2, hqq⟩ (fun i σ H' _ q => by obtain ⟨_, _, _, _, _, _, q⟩ := q; exact SqL.of q) ?_ ?_
    · rintro i x σ H3 hi ⟨v, ps, rfl, ha3, hw3, s3, hq3⟩
      obtain ⟨t, ht, rfl⟩ : ∃ t, (cut 32 l)[i]? = some t ∧ x = V.str (T t) := by
        rw [List.getElem?_map] at hi
        obtain ⟨l, hl, e⟩ := Option.map_eq_some_iff.mp hi
        exact ⟨l, hl, e.symm⟩
      have htk : (cut 32 l).take (i + 1) = (cut 32 l).take i ++ [t] := by rw [List.take_add_one, ht]; rfl
      have htl := bw t (List.mem_of_getElem? ht)
      have hpl : ps.length ≤ l.length + 1 := by
        rw [hw3.1, placed_len, List.length_take]
        omega
      refine ⟨_, rfl, .inl ⟨rfl, _, SqL.of ha3⟩, _, rfl, _, rfl, fun x dx nx nd ndx => ?_⟩
      refine ⟨x, dx, _, _, rfl, upd_same, fun H4 hx hbut => ⟨rfl, ?_⟩⟩
      obtain ⟨sm, ha4, hal, hwl⟩ := more (wd := ⟨t, p + off ((cut 32 l).take i)⟩) ha3 hw3 nx nd hx hbut
      refine ⟨a, _, _, rfl, rfl, ha4, by rw [List.length_map]; exact Nat.lt_of_le_of_lt (Nat.le_trans hpl (Nat.add_le_add_right hl 1)) (by decide), ?_⟩
      refine ⟨_, rfl, _, rfl, _, rfl, by rw [T_len]; exact Nat.le_trans (Nat.le_trans htl hl) (by decide), _, _, rfl, rfl, _, _, rfl, rfl, ?_⟩
      refine ⟨some (.str (T t)), ps ++ [x], ?_, hal, ?_, (s3.trans sm).put na, ?_⟩
      · rw [htk, off_app, T_len]
        have e : (((p + off ((cut 32 l).take i) : Nat) : Int) + ((t.length : Int) + 1)) = ((p + (off ((cut 32 l).take i) + off [t]) : Nat) : Int) := by
          show _ = ((p + (_ + (t.length + 1 + 0)) : Nat) : Int)
          omega
        exact congrArg (fun z => [some (V.str (T l)), some (.int p), some (.ref a), some (V.int z), some (V.str (T t))]) e
      · rw [htk, placed_app]
        exact hwl
      · rw [upd_ne (Ne.symm naq)]
        exact sm _ _ hq3
    · rintro σ H3 ⟨v, ps, rfl, ha3, hw3, s3, hq3⟩
      rw [List.length_map, List.take_length] at hw3
      rw [List.length_map, List.take_length, off_cut]
      have hpl : ps.length ≤ l.length + 1 := by
        rw [hw3.1, placed_len]
        omega
      refine ⟨_, rfl, .inl ⟨rfl, _, SqL.of ha3⟩, _, rfl, _, _, rfl, rfl, fun x dx nx nd ndx => ?_⟩
      refine ⟨x, dx, _, _, rfl, upd_same, fun H4 hx hbut => ⟨rfl, ?_⟩⟩
      have hx : H4 x = some (.ins D.cW dx (two "text" "place" (.str (T [])) (.int (((p + (l.length + 1) : Nat) : Int) - 1)))) := hx
      rw [show ((p + (l.length + 1) : Nat) : Int) - 1 = ((p + l.length : Nat) : Int) by omega] at hx
      obtain ⟨sm, ha4, hal, hwl⟩ := more (wd := ⟨[], p + l.length⟩) ha3 hw3 nx nd hx hbut
      refine ⟨a, _, _, rfl, rfl, ha4, by rw [List.length_map]; exact Nat.lt_of_le_of_lt (Nat.le_trans hpl (Nat.add_le_add_right hl 1)) (by decide), ?_⟩
      exact ⟨_, rfl, k _ a ((s3.trans sm).put na) na ⟨_, hal, hwl⟩⟩
end
end RD
namespace RD
open PySem PySem.Spec PyProof.Rows L2 RX RT
open Tote (Bytes numberOf ascii badByte)
open RM (bnd cut placed runsM)
abbrev sRun : Stmt := top 26
/-- who has been met -/
def metKv (l : List Nat) : List (Key × V) := l.map fun (n : Nat) => (Sum.inl (n : Int), V.bl true)
theorem met_any : ∀ (l : List Nat) (n : Nat), ((metKv l).any fun kv => decide (kv.1 = Sum.inl (n : Int))) = l.contains n
  | [], _ => rfl
  | m :: l, n => by
    show (decide ((Sum.inl (m : Int) : Key) = Sum.inl (n : Int)) || (metKv l).any _) = _
    rw [met_any l n, List.contains_cons]
    congr 1
    by_cases h : n = m
    · rw [h]; simp
    · rw [beq_eq_false_iff_ne.mpr h]
      exact decide_eq_false fun q => h (by have := Sum.inl.inj q; omega)
theorem met_val (l : List Nat) (n : Nat) : (valV (metKv l) (Sum.inl (n : Int))).isSome = l.contains n := by
  rw [← met_any l n]
  unfold valV
  rw [Option.isSome_map, Bool.eq_iff_iff, List.find?_isSome, List.any_eq_true]
theorem met_put {l : List Nat} {n : Nat} (h : l.contains n = false) : putK (metKv l) (Sum.inl (n : Int)) (V.bl true) = metKv (l ++ [n]) := by
  unfold putK
  rw [met_any, h, if_neg Bool.false_ne_true]
  unfold metKv
  rw [List.map_append]
  rfl
def spRun (D : Ad) : Sp := fun vs H Q E => ∃ (p m : Addr) (w : Tote.Word) (s : UInt8) (hi : Nat) (had : List Nat), vs = [.ref p, .str (T [s]), .int hi, .ref m] ∧ WordAt D.cW H p w ∧ told s = true ∧ hi ≤ 1000 ∧ w.w.length ≤ 66000 ∧ had.length ≤ 200000 ∧ H m = some (.dK (metKv had)) ∧
  (∀ l, runsM 1 hi had (cut s w.w) = some l → ∀ H' a, But m H H' → H a = none → H' a = some (.lst (natV l)) → H' m = some (.dK (metKv (had ++ l))) → Q (.ref a) H') ∧
  (runsM 1 hi had (cut s w.w) = none → ∀ H1, But m H H1 → Flt D 4 w.at_ H1 E)
theorem T_one {v : UInt8} (h : told v = true) : T [v] = SX.S [v.toNat] := by
  unfold T
  rw [List.map_cons, List.map_nil, (dz_iff v v h).mpr rfl]
theorem bnd_in {lo hi n : Nat} {w : Bytes} (h : bnd lo hi w = some n) : lo ≤ n ∧ n ≤ hi := (RM.bnd_num h).2
section
variable {P : Program} {w : World} {K : PySem.W.Frag} {mg : Str → Option Value} {base : Heap} {D : Ad}
abbrev nRun : List Str := ["word", "sign", "runners", "met", "listed", "lowest", "part", "runner"]
theorem scRun : FnScope nRun ["word", "sign", "runners", "met"] (defScope sRun) := ⟨rfl, rfl, rfl, by decide +kernel, rfl, by decide +kernel, by decide +kernel⟩
theorem ok_run {f : Addr} {fd : FuncData} (F : Fun K "read_runners" "read_runners" sRun f fd) (Tw : TxW K D.cW) (cB : Cal P w K mg base CX0 1 "bounded_or_none" ["word", "low", "high"] spBnd) (cF : ErrF P w K mg base D.cF) : FnOk P w K mg base (L2.CX P w) 4 f fd ["word", "sign", "runners", "met"] (spRun D) := by
  refine F.okX scRun (fun vs H Q E h => ?_) (fun cdv A outer s H vs Q E hr h => ?_)
  · obtain ⟨p, m, w, sg, hi, had, rfl, _⟩ := h
    rfl
  · obtain ⟨p, m, w, sg, hi, had, rfl, hp, hsg, hhi, hwl, hhad, hm, k1, k2⟩ := h
    have hu := hu_of hr
    refine ⟨_, pss_cons (ps_set (i := 4) scRun.nd rfl (Or.inl rfl) (pe_lst pa_nil))
      (pss_cons (ps_set (i := 5) scRun.nd rfl (Or.inl rfl) pe_int)
      (pss_cons (ps_for (passes_of rfl) rfl (pi_list (pe_split (pe_fld (pv 0) rfl) (pv 1))) (pg_name (i := 6) scRun.nd rfl (Or.inl rfl))
        (pss_cons (ps_set (i := 7) scRun.nd rfl (Or.inl rfl) (pe_c0 cB hr (by decide) rfl (by exact (pa_cons (pv 6) (pa_cons (pv 5) (pa_cons (pv 2) pa_nil))))))
        (pss_cons (ps_if (PW.pt (pw_or (pt_cmpR op_isN (pv 7) pe_non (nomark _)) (pw_or1 (pt_cmp (pc_din hu (pv 7) (pv 3)))))) (pss_one (ps_flt cF rfl hr (by decide) (takes_of rfl rfl rfl rfl) rfl (by exact (pa_cons pe_int (pa_cons (pe_fld (pv 0) rfl) pa_nil))))) pss_nil)
        (pss_cons (ps_dput hu (pv 3) (pv 7) pe_bl rfl)
        (pss_cons (ps_expr (pe_bm PySem.F.plainAttrs_list PySem.F.slot_list_append PySem.F.type_list_append mt_append (pv 4) (pa_cons (pv 7) pa_nil)))
        (pss_one (ps_set (i := 5) scRun.nd rfl (Or.inl rfl) (pe_op op_add (pv 7) pe_int))))))))
      (pss_one (ps_ret (pv 4))))), ?_⟩
    refine ⟨Nat.zero_le _, fun a na => ?_⟩
    have s1 : Same H (upd H a (.lst [])) := same_upd na
    obtain ⟨dx, hp'⟩ := id hp
    have wf : ∀ {H' : Hp}, But m H H' → H' p = some (.ins D.cW dx (fWord w)) := fun h => h _ _ hp' (ne_of hp' hm (by intro z; cases z))
    obtain ⟨bl, bw⟩ := cut_len sg w.w
    have s1p := s1 _ _ hp'
    refine ⟨_, rfl, p, _, dx, _, _, rfl, s1p, Tw.cl, Tw.n1, fWord_t w, ⟨_, rfl⟩, _, rfl, _, _, rfl, rfl, (by rw [T_len]; rfl), by rw [T_len]; exact Nat.le_trans (Nat.add_le_add_right hwl 2) (by decide), fun q nq => ?_⟩
    rw [split_T hsg w.w (T_one hsg), strs_words]
    have naq : a ≠ q := ne_of_none upd_same nq
    have s2 := s1.put (o := .lst ((cut sg w.w).map fun w => V.str (T w))) (s1.free nq)
    have hqa : upd (upd H a (.lst [])) q (.lst ((cut sg w.w).map fun w => V.str (T w))) a = some (.lst []) := by rw [upd_ne naq]; exact upd_same
    have hqq : upd (upd H a (.lst [])) q (.lst ((cut sg w.w).map fun w => V.str (T w))) q = some (.lst ((cut sg w.w).map fun w => V.str (T w))) := upd_same
    generalize hH2 : upd (upd H a (.lst [])) q (.lst ((cut sg w.w).map fun w => V.str (T w))) = H2 at s2 hqa hqq
    refine ⟨q, rfl, ⟨_, SqL.of hqq⟩, ?_⟩
    have nma : m ≠ a := ne_of_none hm na
    have nmq : m ≠ q := fun e => by
      have := s2 _ _ hm
      rw [e, hqq] at this
      cases this
    refine for_list (K := K) (a := q) (xs := (cut sg w.w).map fun w => V.str (T w)) (fun i σ H' => ∃ (v6 v7 : Option V) (l0 : List Nat) (lo : Nat), σ = [some (.ref p), some (.str (T [sg])), some (.int hi), some (.ref m), some (.ref a), some (.int (lo : Int)), v6, v7] ∧ H' a = some (.lst (natV l0)) ∧ H' m = some (.dK (metKv (had ++ l0))) ∧
        But m H H' ∧ H' q = some (.lst ((cut sg w.w).map fun w => V.str (T w))) ∧ runsM 1 hi had (cut sg w.w) = (runsM lo hi had ((cut sg w.w).drop i)).map (fun l => l0 ++ l) ∧ (∀ n ∈ l0, n < lo) ∧ l0.length ≤ i)
      ⟨none, none, [], 1, rfl, hqa, by rw [List.append_nil]; exact s2 _ _ hm, fun b o e _ => s2 b o e, hqq, ?_, (fun n h => by cases h), Nat.le_refl _⟩ (fun i σ H' _ q => by obtain ⟨_, _, _, _, _, _, _, _, q, _⟩ := q; exact SqL.of q) ?_ ?_
    · rw [List.drop_zero]
      cases runsM 1 hi had (cut sg w.w) <;> rfl
    · rintro i x σ H3 hi' ⟨v6, v7, l0, lo, rfl, ha3, hm3, hbut, hq3, hrun, hlt, hlen⟩
      obtain ⟨t, ht, rfl⟩ : ∃ t, (cut sg w.w)[i]? = some t ∧ x = V.str (T t) := by
        rw [List.getElem?_map] at hi'
        obtain ⟨l, hl, e⟩ := Option.map_eq_some_iff.mp hi'
        exact ⟨l, hl, e.symm⟩
      have hil : i < (cut sg w.w).length := (List.getElem?_eq_some_iff.mp ht).1
      have hdrop : (cut sg w.w).drop i = t :: (cut sg w.w).drop (i + 1) := by
        rw [List.drop_eq_getElem_cons hil]
        congr 1
        exact (List.getElem?_eq_some_iff.mp ht).2
      rw [hdrop] at hrun
      have htl := bw t (List.mem_of_getElem? ht)
      refine ⟨_, rfl, _, rfl, _, rfl, t, lo, hi, rfl, by omega, by omega, ?_⟩
      refine ⟨_, rfl, rfl, _, rfl, ?_⟩
      cases hb : bnd lo hi t with
      | none =>
        have hno : runsM 1 hi had (cut sg w.w) = none := by
          rw [hrun]
          show Option.map _ (match bnd lo hi t with | none => none | some n => _) = none
          rw [hb]
          rfl
        exact iteT ⟨_, rfl, p, _, dx, _, _, rfl, wf hbut, Tw.cl, Tw.n2, fWord_p w, _, _, rfl, k2 hno _ hbut⟩
      | some n =>
        obtain ⟨hn1, hn2⟩ := bnd_in hb
        have hrun : runsM 1 hi had (cut sg w.w) = (if had.contains n = true then none else (runsM (n + 1) hi had ((cut sg w.w).drop (i + 1))).map fun l => n :: l).map (fun l => l0 ++ l) := by
          rw [hrun]
          show Option.map _ (match bnd lo hi t with | none => none | some n => _) = _
          rw [hb]
        have hcon : (had ++ l0).contains n = had.contains n := by
          rw [Bool.eq_iff_iff, List.contains_iff_mem, List.contains_iff_mem, List.mem_append]
          exact ⟨fun h => h.elim id fun h => absurd (hlt n h) (by omega), .inl⟩
        refine iteF ⟨_, rfl, _, rfl, m, _, rfl, DGet.k (k := Sum.inl (n : Int)) hm3, _, rfl, ?_⟩
        rw [met_val, hcon]
        cases hc : had.contains n with
        | true =>
          rw [hc, if_pos rfl] at hrun
          exact iteT ⟨_, rfl, p, _, dx, _, _, rfl, wf hbut, Tw.cl, Tw.n2, fWord_p w, _, _, rfl, k2 hrun _ hbut⟩
        | false =>
          rw [hc, if_neg Bool.false_ne_true] at hrun
          rw [hc] at hcon
          have lh : (had ++ l0).length < 300000 := by
            rw [List.length_append]
            omega
          refine iteF ⟨_, rfl, _, rfl, m, _, rfl, DPut.k (k := Sum.inl (n : Int)) hm3 (by
            unfold metKv
            rw [List.length_map]
            exact Nat.lt_trans lh (by decide)), ?_⟩
          rw [met_put hcon]
          have ham : upd H3 m (.dK (metKv (had ++ l0 ++ [n]))) a = some (.lst (natV l0)) := by rw [upd_ne (Ne.symm nma)]; exact ha3
          refine ⟨_, rfl, .inl ⟨rfl, _, SqL.of ham⟩, _, rfl, a, _, _, rfl, rfl, ham, by rw [natV_len]; exact Nat.lt_trans (show l0.length < 300000 by omega) (by decide), ?_⟩
          refine ⟨_, rfl, _, _, rfl, rfl, _, some (.int (n : Int)), l0 ++ [n], n + 1, rfl, ?_, ?_, ?_, ?_, ?_, ?_, ?_⟩
          · rw [upd_same]
            unfold natV
            rw [List.map_append]
            rfl
          · rw [upd_ne nma, ← List.append_assoc]
            exact upd_same
          · intro b o e hb'
            rw [upd_ne (ne_of_none e na), upd_ne hb']
            exact hbut b o e hb'
          · rw [upd_ne (Ne.symm naq), upd_ne (Ne.symm nmq)]
            exact hq3
          · rw [hrun, Option.map_map]
            congr 1
            funext l
            show l0 ++ n :: l = l0 ++ [n] ++ l
            rw [List.append_assoc]
            rfl
          · intro x hx
            rcases List.mem_append.mp hx with h | h
            · have := hlt x h
              omega
            · rw [List.mem_singleton.mp h]
              omega
          · rw [List.length_append, List.length_singleton]
            omega
    · rintro σ H3 ⟨v6, v7, l0, lo, rfl, ha3, hm3, hbut, hq3, hrun, hlt, hlen⟩
      rw [List.length_map, List.drop_length] at hrun
      have hrun : runsM 1 hi had (cut sg w.w) = some l0 := by
        rw [hrun]
        show some (l0 ++ []) = some l0
        rw [List.append_nil]
      exact ⟨_, rfl, k1 l0 hrun _ a hbut na ha3 hm3⟩
end
end RD
namespace RD
open PySem PySem.Spec PyProof.Rows L2 RX RT
open Tote (Bytes numberOf ascii badByte Fault)
open RM (bnd cut placed runsM raceNoM arrM)
abbrev sRNo : Stmt := top 23
/-- words as they stand in a line -/
def Real (ws : List Tote.Word) : Prop := ∀ x ∈ ws, x.w ≠ [] ∧ x.w.length ≤ 66000
def spRNo (D : Ad) : Sp := fun vs H Q E => ∃ (a : Addr) (ws : List Tote.Word) (e above R : Nat), vs = [.ref a, .int above, .int R] ∧ WsAt D.cW H a (ws ++ [⟨[], e⟩]) ∧ Real ws ∧ R ≤ 1000 ∧
  (∀ m r, raceNoM e R above ws = .ok (m, r) → Q (.int (m : Int)) H) ∧ (∀ x : Fault, raceNoM e R above ws = .error x → Flt D x.kind x.place H E)
theorem rno_not {e R above : Nat} {w : Tote.Word} {t : List Tote.Word} (h : ¬ w.w = ascii "race") : raceNoM e R above (w :: t) = .error ⟨3, w.at_⟩ := if_neg h
theorem rno_one {e R above : Nat} {w : Tote.Word} (h : w.w = ascii "race") : raceNoM e R above [w] = .error ⟨3, e⟩ := if_pos h
theorem rno_two {e R above : Nat} {w n : Tote.Word} {r : List Tote.Word} (h : w.w = ascii "race") : raceNoM e R above (w :: n :: r) = match bnd 1 R n.w with
    | none => .error ⟨4, n.at_⟩
    | some m => if above < m then .ok (m, r) else .error ⟨4, n.at_⟩ := if_pos h
section
variable {P : Program} {w : World} {K : PySem.W.Frag} {mg : Str → Option Value} {base : Heap} {D : Ad}
abbrev nRNo : List Str := ["words", "above", "highest", "number"]
theorem scRNo : FnScope nRNo ["words", "above", "highest"] (defScope sRNo) := ⟨rfl, rfl, rfl, by decide +kernel, rfl, by decide +kernel, by decide +kernel⟩
theorem ok_rno {f : Addr} {fd : FuncData} (F : Fun K "read_race_number" "read_race_number" sRNo f fd) (Tw : TxW K D.cW) (cB : Cal P w K mg base CX0 1 "bounded_or_none" ["word", "low", "high"] spBnd) (cF : ErrF P w K mg base D.cF) (cT : Cal P w K mg base (L2.CX P w) 4 "check_there" ["word"] (spThere D)) :
    FnOk P w K mg base (L2.CX P w) 5 f fd ["words", "above", "highest"] (spRNo D) := by
  refine F.okX scRNo (fun vs H Q E h => ?_) (fun cdv A outer s H vs Q E hr h => ?_)
  · obtain ⟨a, ws, e, above, R, rfl, _⟩ := h
    rfl
  · obtain ⟨a, ws, e, above, R, rfl, ⟨ps, ha, hw⟩, hR, hRR, k1, k2⟩ := h
    refine ⟨_, pss_cons (ps_if (pt_cmpR op_ne (pe_fld (pe_ix ix_list (pv 0) pe_int (fun _ _ => rfl)) rfl) pe_str (nomark _)) (pss_one (ps_flt cF rfl hr (by decide) (takes_of rfl rfl rfl rfl) rfl (by exact (pa_cons pe_int (pa_cons (pe_fld (pe_ix ix_list (pv 0) pe_int (fun _ _ => rfl)) rfl) pa_nil))))) pss_nil)
      (pss_cons (ps_expr (by exact (pe_cx cT hr (by decide) (takes_of rfl rfl rfl rfl) rfl (by exact (pa_cons (pe_ix ix_list (pv 0) pe_int (fun _ _ => rfl)) pa_nil)))))
      (pss_cons (ps_set (i := 3) scRNo.nd rfl (Or.inl rfl) (pe_c0 cB hr (by decide) rfl (by exact (pa_cons (pe_fld (pe_ix ix_list (pv 0) pe_int (fun _ _ => rfl)) rfl) (pa_cons pe_int (pa_cons (pv 2) pa_nil))))))
      (pss_cons (ps_if (PW.pt (pw_or (pt_cmpR op_isN (pv 3) pe_non (nomark _)) (pw_or1 (pt_cmpR op_le (pv 3) (pv 1) (nomark _))))) (pss_one (ps_flt cF rfl hr (by decide) (takes_of rfl rfl rfl rfl) rfl (by exact (pa_cons pe_int (pa_cons (pe_fld (pe_ix ix_list (pv 0) pe_int (fun _ _ => rfl)) rfl) pa_nil))))) pss_nil)
      (pss_one (ps_ret (pv 3)))))), ?_⟩
    have raceLit := lit_of (s := "race") (v := ascii "race") (by decide) (by decide +kernel)
    obtain ⟨w0, rest, e0⟩ : ∃ w0 rest, ws ++ [⟨[], e⟩] = w0 :: rest := by cases ws <;> exact ⟨_, _, rfl⟩
    obtain ⟨p0, g0, dx0, h0⟩ := hw.get (i := 0) (w := w0) (by rw [e0]; rfl)
    have bad0 : ¬ w0.w = ascii "race" → raceNoM e R above ws = .error ⟨3, w0.at_⟩ := fun h => by
      cases ws with
      | nil => cases e0; rfl
      | cons x t =>
        cases e0
        exact rno_not h
    refine ⟨_, rfl, a, _, _, _, rfl, rfl, SqL.of ha, atI_nat (j := 0) (ref_at g0), p0, _, dx0, _, _, rfl, h0, Tw.cl, Tw.n1, fWord_t w0, rfl, _, rfl, ?_⟩
    by_cases hr0 : ¬ w0.w = ascii "race"
    · rw [decide_eq_false (fun q => hr0 ((raceLit w0.w).mp q))]
      exact iteT ⟨_, rfl, a, _, _, _, rfl, rfl, SqL.of ha, atI_nat (j := 0) (ref_at g0), p0, _, dx0, _, _, rfl, h0, Tw.cl, Tw.n2, fWord_p w0, _, _, rfl, k2 _ (bad0 hr0)⟩
    have hr0 := Decidable.not_not.mp hr0
    rw [decide_eq_true ((raceLit w0.w).mpr hr0)]
    refine iteF ?_
    obtain ⟨t, rfl⟩ : ∃ t, ws = w0 :: t := by
      cases ws with
      | nil => cases e0; exact absurd hr0 (show ¬ ([] : Bytes) = ascii "race" by decide)
      | cons x t => cases e0; exact ⟨t, rfl⟩
    obtain ⟨w1, rest1, e1⟩ : ∃ w1 rest, t ++ [⟨[], e⟩] = w1 :: rest := by cases t <;> exact ⟨_, _, rfl⟩
    obtain ⟨p1, g1, dx1, h1⟩ := hw.get (i := 1) (w := w1) (by show (t ++ _)[0]? = _; rw [e1]; rfl)
    refine ⟨_, rfl, a, _, _, _, rfl, rfl, SqL.of ha, atI_nat (j := 1) (ref_at g1), p1, w1, rfl, ⟨dx1, h1⟩, fun hne => ?_, fun he => ?_⟩
    · obtain ⟨r, rfl⟩ : ∃ r, t = w1 :: r := by
        cases t with
        | nil => cases e1; exact absurd rfl hne
        | cons x r => cases e1; exact ⟨r, rfl⟩
      have hl1 := (hR w1 (by simp)).2
      refine ⟨_, rfl, a, _, _, _, rfl, rfl, SqL.of ha, atI_nat (j := 1) (ref_at g1), p1, _, dx1, _, _, rfl, h1, Tw.cl, Tw.n1, fWord_t w1, _, rfl, w1.w, 1, R, rfl, by omega, by omega, ?_⟩
      refine ⟨_, rfl, rfl, _, rfl, ?_⟩
      have hno := rno_two (e := e) (R := R) (above := above) (n := w1) (r := r) hr0
      cases hb : bnd 1 R w1.w with
      | none =>
        rw [hb] at hno
        exact iteT ⟨_, rfl, a, _, _, _, rfl, rfl, SqL.of ha, atI_nat (j := 1) (ref_at g1), p1, _, dx1, _, _, rfl, h1, Tw.cl, Tw.n2, fWord_p w1, _, _, rfl, k2 _ hno⟩
      | some n =>
        rw [hb] at hno
        refine iteF ⟨_, rfl, _, rfl, _, _, rfl, rfl, _, rfl, ?_⟩
        refine ite2 (fun h => ?_) (fun h => ?_)
        · have h := of_decide_eq_true h
          have hno : raceNoM e R above (w0 :: w1 :: r) = .error ⟨4, w1.at_⟩ := by
            rw [hno]
            exact if_neg (by omega)
          exact ⟨_, rfl, a, _, _, _, rfl, rfl, SqL.of ha, atI_nat (j := 1) (ref_at g1), p1, _, dx1, _, _, rfl, h1, Tw.cl, Tw.n2, fWord_p w1, _, _, rfl, k2 _ hno⟩
        · have h := of_decide_eq_false (Bool.eq_false_iff.mpr h)
          exact ⟨_, rfl, k1 n r (by rw [hno]; exact if_pos (by omega))⟩
    · obtain rfl : t = [] := by
        cases t with
        | nil => rfl
        | cons x r =>
          cases e1
          exact absurd he (hR w1 (by simp)).1
      cases e1
      exact k2 _ (rno_one hr0)
end
end RD
namespace RD
open PySem PySem.Spec PyProof.Rows L2 RX RT
open Tote (Bytes numberOf ascii badByte Fault Came groupsIn outIn)
open RM (bnd cut placed runsM raceNoM arrM)
/-! ### the document's own reading, a word at a time -/
theorem gi_nil {e hi : Nat} {had : List (List Nat)} (h : had ≠ []) : groupsIn e hi had [] = .ok (.came had []) := by
  unfold groupsIn
  rw [if_neg (by simpa using h)]
theorem gi_none {e hi : Nat} : groupsIn e hi [] [] = .error ⟨3, e⟩ := rfl
theorem gi_out {e hi : Nat} {had : List (List Nat)} {w : Tote.Word} {r : List Tote.Word} (h : had ≠ []) (hw : w.w = ascii "out") : groupsIn e hi had (w :: r) = outIn e hi had r := by
  unfold groupsIn
  rw [if_pos ⟨by simpa using h, hw⟩]
theorem gi_more {e hi : Nat} {had : List (List Nat)} {w : Tote.Word} {r : List Tote.Word} (h : had = [] ∨ ¬ w.w = ascii "out") : groupsIn e hi had (w :: r) = match runsM 1 hi had.flatten (cut 61 w.w) with
    | none => .error ⟨4, w.at_⟩
    | some g => groupsIn e hi (had ++ [g]) r := by
  rw [groupsIn, if_neg (by
    rintro ⟨h1, h2⟩
    rcases h with h | h
    · rw [h] at h1; cases h1
    · exact h h2), RM.part_is]
  cases runsM 1 hi had.flatten (cut 61 w.w) <;> rfl
theorem out_nil {e hi : Nat} {had : List (List Nat)} : outIn e hi had [] = .error ⟨3, e⟩ := rfl
theorem out_one {e hi : Nat} {had : List (List Nat)} {x : Tote.Word} {r : List Tote.Word} : outIn e hi had (x :: r) = match runsM 1 hi had.flatten (cut 44 x.w) with
    | none => .error ⟨4, x.at_⟩
    | some s => match r with
      | [] => .ok (.came had s)
      | y :: _ => .error ⟨3, y.at_⟩ := by
  unfold outIn
  simp only [Tote.next, bind, Except.bind, RM.part_is]
  cases runsM 1 hi had.flatten (cut 44 x.w) with
  | none => rfl
  | some s => cases r <;> rfl

theorem runs_len : ∀ (ps : List Bytes) (lo hi : Nat) (had l : List Nat), runsM lo hi had ps = some l → l.length = ps.length
  | [], _, _, _, l, h => by cases h; rfl
  | p :: t, lo, hi, had, l, h => by
    have h : (match bnd lo hi p with | none => none | some n => if had.contains n = true then none else (runsM (n + 1) hi had t).map fun l => n :: l) = some l := h
    cases hb : bnd lo hi p with
    | none => rw [hb] at h; cases h
    | some n =>
      rw [hb] at h
      have h : (if had.contains n = true then none else (runsM (n + 1) hi had t).map fun l => n :: l) = some l := h
      by_cases hc : had.contains n = true
      · rw [if_pos hc] at h; cases h
      · rw [if_neg hc] at h
        obtain ⟨l', hl', rfl⟩ := Option.map_eq_some_iff.mp h
        rw [List.length_cons, List.length_cons, runs_len t _ _ _ _ hl']
abbrev offW (ws : List Tote.Word) : Nat := off (ws.map fun w => w.w)
theorem off_len : ∀ l : List Bytes, l.length ≤ off l
  | [] => Nat.le_refl _
  | w :: t => by
    have := off_len t
    show t.length + 1 ≤ w.length + 1 + off t
    omega
/-! ### what came in, as it stands -/
def fArr (st : Int) (ag ao : Addr) : List (Str × V) := three "state" "groups" "out" (.int st) (.ref ag) (.ref ao)
theorem fArr_s (st : Int) (ag ao : Addr) : (fArr st ag ao).lookup ("state" : Str) = some (.int st) := rfl
theorem fArr_g (st : Int) (ag ao : Addr) : (fArr st ag ao).lookup ("groups" : Str) = some (.ref ag) := rfl
theorem fArr_o (st : Int) (ag ao : Addr) : (fArr st ag ao).lookup ("out" : Str) = some (.ref ao) := rfl
def GroupsAt (H : Hp) (a : Addr) (gs : List (List Nat)) : Prop := ∃ ps : List Addr, H a = some (.lst (ps.map V.ref)) ∧ ps.length = gs.length ∧ ∀ (i : Nat) p g, ps[i]? = some p → gs[i]? = some g → H p = some (.lst (natV g))
theorem GroupsAt.on {a : Addr} {H H' : Hp} {gs : List (List Nat)} (h : GroupsAt H a gs) (s : Same H H') : GroupsAt H' a gs := by
  obtain ⟨ps, h1, h2, h3⟩ := h
  exact ⟨ps, s _ _ h1, h2, fun i p g a b => s _ _ (h3 i p g a b)⟩
theorem GroupsAt.but {a m : Addr} {kv : List (Key × V)} {H H' : Hp} {gs : List (List Nat)} (h : GroupsAt H a gs) (hm : H m = some (.dK kv)) (s : But m H H') : GroupsAt H' a gs := by
  obtain ⟨ps, h1, h2, h3⟩ := h
  have ne : ∀ {b : Addr} {xs : List V}, H b = some (.lst xs) → b ≠ m := fun e q => by rw [q, hm] at e; cases e
  exact ⟨ps, s _ _ h1 (ne h1), h2, fun i p g a b => s _ _ (h3 i p g a b) (ne (h3 i p g a b))⟩
theorem GroupsAt.push {a p : Addr} {H : Hp} {gs : List (List Nat)} {g : List Nat} (h : GroupsAt H a gs) (hg : gs ≠ []) (hp : H p = some (.lst (natV g))) : ∃ xs, H a = some (.lst xs) ∧ xs.length = gs.length ∧ GroupsAt (upd H a (.lst (xs ++ [V.ref p]))) a (gs ++ [g]) := by
  obtain ⟨ps, h1, h2, h3⟩ := h
  have off' : ∀ {b : Addr} {g' : List Nat} {o : HO}, H b = some (.lst (natV g')) → upd H a o b = some (.lst (natV g')) := fun {b g' o} e => by
    rw [upd_ne]
    · exact e
    · rintro rfl
      rw [h1] at e
      have e := HO.lst.inj (Option.some.inj e)
      cases ps with
      | nil => exact hg (List.length_eq_zero_iff.mp h2.symm)
      | cons x t =>
        cases g' with
        | nil => cases e
        | cons y u => exact V.noConfusion (List.cons.inj e).1
  refine ⟨_, h1, by rw [List.length_map, h2], ps ++ [p], by rw [upd_same, List.map_append]; rfl, by rw [List.length_append, List.length_append, h2]; rfl, fun i q g' e1 e2 => ?_⟩
  by_cases hi : i < gs.length
  · rw [List.getElem?_append_left (by omega)] at e1
    rw [List.getElem?_append_left hi] at e2
    exact off' (h3 i q g' e1 e2)
  · rw [List.getElem?_append_right (by omega), h2] at e1
    rw [List.getElem?_append_right (by omega)] at e2
    cases hj : i - gs.length with
    | zero =>
      rw [hj] at e1 e2
      cases e1
      cases e2
      exact off' hp
    | succ j =>
      rw [hj] at e1
      cases e1
/-- an arrival at x -/
def CameAt (C : Addr) (H : Hp) (x : Addr) : Came → Prop
  | .open_ => ∃ dx ag ao, H x = some (.ins C dx (fArr 0 ag ao)) ∧ H ag = some (.lst []) ∧ H ao = some (.lst [])
  | .void => ∃ dx ag ao, H x = some (.ins C dx (fArr 2 ag ao)) ∧ H ag = some (.lst []) ∧ H ao = some (.lst [])
  | .came gs out => ∃ dx ag ao, H x = some (.ins C dx (fArr 1 ag ao)) ∧ GroupsAt H ag gs ∧ H ao = some (.lst (natV out))
theorem CameAt.on {C x : Addr} {H H' : Hp} {c : Came} (h : CameAt C H x c) (s : Same H H') : CameAt C H' x c := by
  cases c with
  | open_ => obtain ⟨dx, ag, ao, h1, h2, h3⟩ := h; exact ⟨dx, ag, ao, s _ _ h1, s _ _ h2, s _ _ h3⟩
  | void => obtain ⟨dx, ag, ao, h1, h2, h3⟩ := h; exact ⟨dx, ag, ao, s _ _ h1, s _ _ h2, s _ _ h3⟩
  | came gs out => obtain ⟨dx, ag, ao, h1, h2, h3⟩ := h; exact ⟨dx, ag, ao, s _ _ h1, h2.on s, s _ _ h3⟩
theorem eq_T : Str.ofString "=" = T [61] := by decide +kernel
theorem comma_T : Str.ofString "," = T [44] := by decide +kernel
theorem out_T : Str.ofString "out" = T (ascii "out") := by decide +kernel
theorem empty_T : Str.ofString "" = T [] := by decide +kernel
theorem stop_T (w : Bytes) : inV (V.str (T w)) [V.str (Str.ofString ""), V.str (Str.ofString "out")] = decide (w = [] ∨ w = ascii "out") := by
  rw [empty_T, out_T]
  have z := in_T (w := w) (vs := [[], ascii "out"]) (by decide)
  have z2 : inV (V.str (T w)) [V.str (T []), V.str (T (ascii "out"))] = _ := z
  rw [z2, Bool.eq_iff_iff, List.contains_iff_mem, decide_eq_true_iff]
  simp
abbrev sCame : Stmt := top 25
structure TxS (mg : Str → Option Value) : Prop where
  op : ∃ t, mg "OPEN" = some (.int 0 t)
  ca : ∃ t, mg "CAME" = some (.int 1 t)
  vo : ∃ t, mg "VOID" = some (.int 2 t)
def spCame (D : Ad) : Sp := fun vs H Q E => ∃ (a : Addr) (ws : List Tote.Word) (e hi : Nat), vs = [.ref a, .int hi] ∧ WsAt D.cW H a (ws ++ [⟨[], e⟩]) ∧ Real ws ∧ hi ≤ 1000 ∧ offW ws ≤ 100000 ∧
  (∀ c, groupsIn e hi [] ws = .ok c → ∀ H' x, Same H H' → H x = none → CameAt D.cA H' x c → Q (.ref x) H') ∧ (∀ x : Fault, groupsIn e hi [] ws = .error x → Flt D x.kind x.place H E)
section
variable {P : Program} {w : World} {K : PySem.W.Frag} {mg : Str → Option Value} {base : Heap} {D : Ad}
abbrev nCame : List Str := ["words", "runners", "met", "groups", "at", "out"]
theorem scCame : FnScope nCame ["words", "runners"] (defScope sCame) := ⟨rfl, rfl, rfl, by decide +kernel, rfl, by decide +kernel, by decide +kernel⟩
theorem ok_came {f : Addr} {fd : FuncData} (F : Fun K "read_came" "read_came" sCame f fd) (Tw : TxW K D.cW) (Ts : TxS mg) (cR : Cal P w K mg base (L2.CX P w) 4 "read_runners" ["word", "sign", "runners", "met"] (spRun D)) (cT : Cal P w K mg base (L2.CX P w) 4 "check_there" ["word"] (spThere D)) (cE : Cal P w K mg base (L2.CX P w) 4 "check_ended" ["word"] (spEnded D))
    (mA : Mak P w K mg base "Arrival" D.cA ["self", "state", "groups", "out"] (spIn3 D.cA "state" "groups" "out")) :
    FnOk P w K mg base (L2.CX P w) 5 f fd ["words", "runners"] (spCame D) := by
  obtain ⟨tC, gC⟩ := Ts.ca
  refine F.okX scCame (fun vs H Q E h => ?_) (fun cdv A outer s H vs Q E hr h => ?_)
  · obtain ⟨a, ws, e, hi, rfl, _⟩ := h
    rfl
  · obtain ⟨a, ws, e, hi, rfl, ⟨ps, ha, hw⟩, hR, hhi, hoff, k1, k2⟩ := h
    refine ⟨_, pss_cons (ps_expr (by exact (pe_cx cT hr (by decide) (takes_of rfl rfl rfl rfl) rfl (by exact (pa_cons (pe_ix ix_list (pv 0) pe_int (fun _ _ => rfl)) pa_nil)))))
      (pss_cons (ps_set (i := 2) scCame.nd rfl (Or.inl rfl) pe_dnewK)
      (pss_cons (ps_set (i := 3) scCame.nd rfl (Or.inl rfl) (pe_lst (pa_cons (by exact (pe_cx cR hr (by decide) (takes_of rfl rfl rfl rfl) rfl (by exact (pa_cons (pe_ix ix_list (pv 0) pe_int (fun _ _ => rfl)) (pa_cons pe_str (pa_cons (pv 1) (pa_cons (pv 2) pa_nil))))))) pa_nil)))
      (pss_cons (ps_set (i := 4) scCame.nd rfl (Or.inl rfl) pe_int)
      (pss_cons (ps_while (passes_of rfl) (pt_cmpR op_notIn_seq (pe_fld (pe_ix ix_list (pv 0) (pv 4) (fun _ _ => rfl)) rfl) (pe_tup (pa_cons pe_str (pa_cons pe_str pa_nil))) (by rfl))
        (pss_cons (ps_expr (pe_bm PySem.F.plainAttrs_list PySem.F.slot_list_append PySem.F.type_list_append mt_append (pv 3) (pa_cons (by exact (pe_cx cR hr (by decide) (takes_of rfl rfl rfl rfl) rfl (by exact (pa_cons (pe_ix ix_list (pv 0) (pv 4) (fun _ _ => rfl)) (pa_cons pe_str (pa_cons (pv 1) (pa_cons (pv 2) pa_nil))))))) pa_nil)))
        (pss_one (ps_aug (i := 4) scCame.nd rfl (Or.inl rfl) pe_int ip_add))))
      (pss_cons (ps_set (i := 5) scCame.nd rfl (Or.inl rfl) (pe_lst pa_nil))
      (pss_cons (ps_if (pt_cmpR op_eq (pe_fld (pe_ix ix_list (pv 0) (pv 4) (fun _ _ => rfl)) rfl) pe_str (nomark _))
        (pss_cons (ps_expr (by exact (pe_cx cT hr (by decide) (takes_of rfl rfl rfl rfl) rfl (by exact (pa_cons (pe_ix ix_list (pv 0) (pe_op op_add (pv 4) pe_int) (fun _ _ => rfl)) pa_nil)))))
        (pss_cons (ps_set (i := 5) scCame.nd rfl (Or.inl rfl) (by exact (pe_cx cR hr (by decide) (takes_of rfl rfl rfl rfl) rfl (by exact (pa_cons (pe_ix ix_list (pv 0) (pe_op op_add (pv 4) pe_int) (fun _ _ => rfl)) (pa_cons pe_str (pa_cons (pv 1) (pa_cons (pv 2) pa_nil))))))))
        (pss_one (ps_aug (i := 4) scCame.nd rfl (Or.inl rfl) pe_int ip_add)))) pss_nil)
      (pss_cons (ps_expr (by exact (pe_cx cE hr (by decide) (takes_of rfl rfl rfl rfl) rfl (by exact (pa_cons (pe_ix ix_list (pv 0) (pv 4) (fun _ _ => rfl)) pa_nil)))))
      (pss_one (ps_ret (by exact (pe_mk mA hr (by decide) rfl (by exact (pa_cons (pe_glob (v := .int 1) rfl gC ⟨_, rfl⟩) (pa_cons (pv 3) (pa_cons (pv 5) pa_nil))))))))))))))), ?_⟩
    have hlenW : ws.length ≤ 100000 := by
      have := off_len (ws.map fun w => w.w)
      rw [List.length_map] at this
      exact Nat.le_trans this hoff
    have wd : ∀ {H' : Hp} {i : Nat} {x : Tote.Word}, Same H H' → (ws ++ [(⟨[], e⟩ : Tote.Word)])[i]? = some x → ∃ p dx, ps[i]? = some p ∧ H' p = some (.ins D.cW dx (fWord x)) := fun s' h => by
      obtain ⟨p, hp, dx, hd⟩ := hw.get h
      exact ⟨p, dx, hp, s' _ _ hd⟩
    have wat : ∀ {i : Nat}, i ≤ ws.length → (i = ws.length ∧ (ws ++ [(⟨[], e⟩ : Tote.Word)])[i]? = some ⟨[], e⟩ ∧ ws.drop i = []) ∨ ∃ x, i < ws.length ∧ (ws ++ [(⟨[], e⟩ : Tote.Word)])[i]? = some x ∧ ws.drop i = x :: ws.drop (i + 1) ∧ x ∈ ws := fun {i} h => by
      rcases Nat.lt_or_eq_of_le h with h | rfl
      · refine .inr ⟨ws[i], h, ?_, List.drop_eq_getElem_cons h, List.getElem_mem h⟩
        rw [List.getElem?_append_left h, List.getElem?_eq_getElem h]
      · refine .inl ⟨rfl, ?_, List.drop_length ..⟩
        rw [List.getElem?_append_right (Nat.le_refl _), Nat.sub_self]
        rfl
    obtain ⟨w0, hg0⟩ : ∃ x, (ws ++ [(⟨[], e⟩ : Tote.Word)])[0]? = some x := by cases ws <;> exact ⟨_, rfl⟩
    obtain ⟨p0, dx0, g0, h0⟩ := wd (Same.refl H) hg0
    refine ⟨_, rfl, a, _, _, _, rfl, rfl, SqL.of ha, atI_nat (j := 0) (ref_at g0), p0, w0, rfl, ⟨dx0, h0⟩, fun hne => ?_, fun he => ?_⟩
    rotate_left
    · rcases wat (Nat.zero_le _) with ⟨_, hx, hd⟩ | ⟨x, hlt, hx, hd, hm⟩
      · rw [hx] at hg0
        cases hg0
        rw [List.drop_zero] at hd
        subst hd
        exact k2 _ gi_none
      · rw [hx] at hg0
        cases hg0
        exact absurd he (hR _ hm).1
    · rcases wat (Nat.zero_le _) with ⟨_, hx, hd⟩ | ⟨x, hlt0, hx, hd0, hm0⟩
      · rw [hx] at hg0
        cases hg0
        exact absurd rfl hne
      rw [hx] at hg0
      cases hg0
      rw [List.drop_zero] at hd0
      intro m nm
      have s1 : Same H (upd H m (.dK [])) := same_upd nm
      obtain ⟨p0', dx0', g0', h0'⟩ := wd s1 hx
      have first : groupsIn e hi [] ws = match runsM 1 hi [] (cut 61 w0.w) with
          | none => .error ⟨4, w0.at_⟩
          | some g => groupsIn e hi [g] (ws.drop 1) := by
        rw [hd0, gi_more (.inl rfl)]
        rfl
      refine ⟨_, rfl, a, _, _, _, rfl, rfl, SqL.of (s1 _ _ ha), atI_nat (j := 0) (ref_at g0'), _, rfl, _, rfl, p0', m, w0, 61, hi, [], congrArg (fun z => [V.ref p0', V.str z, V.int hi, V.ref m]) eq_T, ⟨dx0', h0'⟩, by decide, hhi, (hR _ hm0).2, Nat.zero_le _, upd_same, fun l hl H3 g hbut ng hgl hm3 => ?_, fun hno H3 hbut => ?_⟩
      rotate_left
      · rw [hno] at first
        exact (k2 _ first).mono ((But.of s1 hbut).same nm)
      rw [hl] at first
      have s3 : Same H H3 := (But.of s1 hbut).same nm
      refine ⟨by show 1 ≤ sizeLine; decide, fun ag nag => ?_⟩
      have fag : H ag = none := s3.free nag
      have IVon : ∀ {gs : List (List Nat)} {H4 H5 : Hp}, (Same H H4 ∧ GroupsAt H4 ag gs ∧ H4 m = some (.dK (metKv gs.flatten))) → Same H4 H5 → (Same H H5 ∧ GroupsAt H5 ag gs ∧ H5 m = some (.dK (metKv gs.flatten))) := fun q s' => ⟨q.1.trans s', q.2.1.on s', s' _ _ q.2.2⟩
      refine ⟨fun n σ H' => ∃ (i : Nat) (gs : List (List Nat)), n = ws.length - i ∧ σ = [some (.ref a), some (.int hi), some (.ref m), some (.ref ag), some (.int (i : Int)), none] ∧ (1 ≤ i ∧ i ≤ ws.length ∧ gs ≠ [] ∧ gs.length ≤ i ∧ groupsIn e hi [] ws = groupsIn e hi gs (ws.drop i) ∧ gs.flatten.length + offW (ws.drop i) ≤ 100000) ∧
        (Same H H' ∧ GroupsAt H' ag gs ∧ H' m = some (.dK (metKv gs.flatten))), ⟨_, 1, [l], rfl, rfl, ⟨Nat.le_refl _, hlt0, by simp, Nat.le_refl _, first, ?_⟩, ?_⟩, ?_⟩
      · have := runs_len _ _ _ _ _ hl
        have h2 := (cut_len 61 w0.w).1
        have h3 : offW ws = w0.w.length + 1 + offW (ws.drop 1) := by
          have := congrArg offW hd0
          exact this
        show ([l].flatten).length + _ ≤ _
        rw [List.flatten_cons, List.flatten_nil, List.append_nil]
        omega
      · refine ⟨s3.put fag, ⟨[g], upd_same, rfl, fun i q g' e1 e2 => ?_⟩, ?_⟩
        · cases i with
          | zero =>
            cases e1
            cases e2
            rw [upd_ne (ne_of_none hgl nag)]
            exact hgl
          | succ i => cases e1
        · rw [upd_ne (ne_of_none hm3 nag), List.flatten_cons, List.flatten_nil, List.append_nil]
          exact hm3
      · rintro _ σ H4 ⟨i, gs, rfl, rfl, ⟨h1, hil, hgs, hgl', hgi, hsum⟩, hiv⟩
        obtain ⟨x, hx⟩ : ∃ x, (ws ++ [(⟨[], e⟩ : Tote.Word)])[i]? = some x := by
          rcases wat hil with ⟨_, h, _⟩ | ⟨x, _, h, _⟩ <;> exact ⟨_, h⟩
        obtain ⟨px, dxx, gx, hpx⟩ := wd hiv.1 hx
        refine ⟨_, rfl, _, rfl, a, _, _, _, rfl, rfl, SqL.of (hiv.1 _ _ ha), atI_nat (ref_at gx), px, _, dxx, _, _, rfl, hpx, Tw.cl, Tw.n1, fWord_t x, (by show 2 ≤ sizeLine; decide), fun t nt => ⟨t, _, rfl, .inr (SqT.of upd_same), rfl, rfl, _, rfl, ?_⟩⟩
        have hivt := IVon hiv (same_upd (o := .tup [V.str (Str.ofString ""), V.str (Str.ofString "out")]) nt)
        generalize hHt : upd H4 t (.tup [V.str (Str.ofString ""), V.str (Str.ofString "out")]) = Ht at hivt
        rw [stop_T, if_pos rfl]
        have hxt := wd hivt.1 hx
        have sqt := hivt.1 _ _ ha
        -- what a failing call says
        have fl : ∀ {y : Tote.Word} {H' : Hp} {k : Nat}, Same H H' → groupsIn e hi [] ws = .error ⟨k, y.at_⟩ → Flt D k y.at_ H' E := fun s' h => (k2 _ h).mono s'
        have hglen : gs.flatten.length ≤ 200000 := by omega
        by_cases hst : x.w = [] ∨ x.w = ascii "out"
        · rw [decide_eq_true hst]
          refine iteF ⟨Nat.zero_le _, fun ao nao => ?_⟩
          have fao : H ao = none := hivt.1.free nao
          have hiv6 := IVon hivt (same_upd (o := .lst []) nao)
          have hao : upd Ht ao (.lst []) ao = some (.lst []) := upd_same
          generalize hH6 : upd Ht ao (.lst []) = H6 at hiv6 hao
          obtain ⟨px6, dx6, gx6, hpx6⟩ := wd hiv6.1 hx
          refine ⟨_, rfl, _, rfl, a, _, _, _, rfl, rfl, SqL.of (hiv6.1 _ _ ha), atI_nat (ref_at gx6), px6, _, dx6, _, _, rfl, hpx6, Tw.cl, Tw.n1, fWord_t x, rfl, _, rfl, ?_⟩
          -- the end
          have fin : ∀ {H7 H9 : Hp} {ao' z dz : Addr} {out : List Nat}, Same H H7 → GroupsAt H7 ag gs → H7 ao' = some (.lst (natV out)) → groupsIn e hi [] ws = .ok (.came gs out) → H7 z = none → H7 dz = none → H9 z = some (.ins D.cA dz (fArr 1 ag ao')) → But z (upd (upd H7 dz (.own z)) z (.ins D.cA dz [])) H9 → Q (.ref z) H9 := by
            intro H7 H9 ao' z dz out s7 h7 ho hok nz nd hz hb
            have s9 : Same H7 H9 := Same.made nz nd fun b o e hb' => hb b o e hb'
            exact k1 _ hok H9 z (s7.trans s9) (s7.free nz) ⟨dz, ag, ao', hz, h7.on s9, s9 _ _ ho⟩
          have outLit := lit_of (s := "out") (v := ascii "out") (by decide) (by decide +kernel)
          by_cases ho : x.w = ascii "out"
          · rw [decide_eq_true ((outLit x.w).mpr ho)]
            rcases wat hil with ⟨_, h, _⟩ | ⟨x', hilt, h, hdx, hmx⟩
            · rw [h] at hx
              cases hx
              exact absurd ho (show ¬ ([] : Bytes) = ascii "out" by decide)
            rw [h] at hx
            cases hx
            have hgi : groupsIn e hi [] ws = outIn e hi gs (ws.drop (i + 1)) := by rw [hgi, hdx, gi_out hgs ho]
            obtain ⟨y, hy⟩ : ∃ y, (ws ++ [(⟨[], e⟩ : Tote.Word)])[i + 1]? = some y := by
              rcases wat (i := i + 1) hilt with ⟨_, h, _⟩ | ⟨x, _, h, _⟩ <;> exact ⟨_, h⟩
            obtain ⟨py, dy, gy, hpy⟩ := wd hiv6.1 hy
            refine iteT ⟨_, rfl, _, rfl, _, _, rfl, rfl, a, _, _, _, rfl, rfl, SqL.of (hiv6.1 _ _ ha), at_of (j := i + 1) (by omega) (ref_at gy), py, y, rfl, ⟨dy, hpy⟩, fun hyn => ?_, fun hye => ?_⟩
            · rcases wat (i := i + 1) hilt with ⟨_, h, _⟩ | ⟨y', hilt2, h, hdy, hmy⟩
              · rw [h] at hy
                cases hy
                exact absurd rfl hyn
              rw [h] at hy
              cases hy
              rw [hdy, out_one] at hgi
              refine ⟨_, rfl, _, rfl, _, _, rfl, rfl, a, _, _, _, rfl, rfl, SqL.of (hiv6.1 _ _ ha), at_of (j := i + 1) (by omega) (ref_at gy), _, rfl, _, rfl, py, m, y, 44, hi, gs.flatten, congrArg (fun z => [V.ref py, V.str z, V.int hi, V.ref m]) comma_T, ⟨dy, hpy⟩, by decide, hhi, (hR _ hmy).2, hglen, hiv6.2.2, fun lo hlo H7 o hbut7 no hol hm7 => ?_, fun hno H7 hbut7 => ?_⟩
              · rw [hlo] at hgi
                have s67 : Same H H7 := (But.of hiv6.1 hbut7).same nm
                have ga7 := hiv6.2.1.but hiv6.2.2 hbut7
                obtain ⟨z, hz⟩ : ∃ z, (ws ++ [(⟨[], e⟩ : Tote.Word)])[i + 2]? = some z := by
                  rcases wat (i := i + 2) hilt2 with ⟨_, h, _⟩ | ⟨x, _, h, _⟩ <;> exact ⟨_, h⟩
                obtain ⟨pz, dz, gz, hpz⟩ := wd s67 hz
                refine ⟨_, rfl, _, _, rfl, rfl, ?_⟩
                refine ⟨_, rfl, _, rfl, a, _, _, _, rfl, rfl, SqL.of (s67 _ _ ha), at_of (j := i + 2) (by show (i : Int) + 2 = _; omega) (ref_at gz), pz, z, rfl, ⟨dz, hpz⟩, fun hze => ?_, fun hzn => ?_⟩
                · rcases wat (i := i + 2) hilt2 with ⟨_, h, hdz⟩ | ⟨y', _, h, hdz, hmz⟩
                  · have hgi : groupsIn e hi [] ws = .ok (.came gs lo) := by
                      rw [hgi]
                      show (match ws.drop (i + 2) with | [] => _ | y :: _ => _) = _
                      rw [hdz]
                    refine ⟨_, rfl, _, rfl, fun z' dz' nz nd ndx => ⟨z', dz', _, _, _, rfl, upd_same, fun H9 hx9 hb9 => ⟨rfl, ?_⟩⟩⟩
                    exact fin s67 ga7 hol hgi nz nd hx9 hb9
                  · rw [h] at hz
                    cases hz
                    exact absurd hze (hR _ hmz).1
                · rcases wat (i := i + 2) hilt2 with ⟨_, h, hdz⟩ | ⟨y', _, h, hdz, hmz⟩
                  · rw [h] at hz
                    cases hz
                    exact absurd rfl hzn
                  · rw [h] at hz
                    cases hz
                    refine fl s67 ?_
                    rw [hgi]
                    show (match ws.drop (i + 2) with | [] => _ | y :: _ => _) = _
                    rw [hdz]
              · rw [hno] at hgi
                exact fl ((But.of hiv6.1 hbut7).same nm) hgi
            · rcases wat (i := i + 1) hilt with ⟨_, h, hdy⟩ | ⟨y', _, h, hdy, hmy⟩
              · rw [h] at hy
                cases hy
                rw [hdy, out_nil] at hgi
                exact (k2 _ hgi).mono hiv6.1
              · rw [h] at hy
                cases hy
                exact absurd hye (hR _ hmy).1
          · have hxe : x.w = [] := hst.resolve_right ho
            rw [decide_eq_false (fun q => ho ((outLit x.w).mp q))]
            refine iteF ⟨_, rfl, _, rfl, a, _, _, _, rfl, rfl, SqL.of (hiv6.1 _ _ ha), atI_nat (ref_at gx6), px6, x, rfl, ⟨dx6, hpx6⟩, fun _ => ?_, fun hxn => absurd hxe hxn⟩
            have hgi : groupsIn e hi [] ws = .ok (.came gs []) := by
              rcases wat hil with ⟨_, h, hdx⟩ | ⟨x', _, h, hdx, hmx⟩
              · rw [hgi, hdx, gi_nil hgs]
              · rw [h] at hx
                cases hx
                exact absurd hxe (hR _ hmx).1
            refine ⟨_, rfl, _, rfl, fun z' dz' nz nd ndx => ⟨z', dz', _, _, _, rfl, upd_same, fun H9 hx9 hb9 => ⟨rfl, ?_⟩⟩⟩
            exact fin hiv6.1 hiv6.2.1 hao hgi nz nd hx9 hb9
        · rw [decide_eq_false hst]
          rcases wat hil with ⟨_, h, _⟩ | ⟨x', hilt, h, hdx, hmx⟩
          · rw [h] at hx
            cases hx
            exact absurd (.inl rfl) hst
          rw [h] at hx
          cases hx
          have hgi : groupsIn e hi [] ws = match runsM 1 hi gs.flatten (cut 61 x.w) with
              | none => .error ⟨4, x.at_⟩
              | some g => groupsIn e hi (gs ++ [g]) (ws.drop (i + 1)) := by rw [hgi, hdx, gi_more (.inr fun h => hst (.inr h))]
          obtain ⟨pxt, dxt, gxt, hpxt⟩ := hxt
          refine iteT ⟨fun σ H' => ∃ (gs' : List (List Nat)), σ = [some (.ref a), some (.int hi), some (.ref m), some (.ref ag), some (.int ((i + 1 : Nat) : Int)), none] ∧ (1 ≤ i + 1 ∧ i + 1 ≤ ws.length ∧ gs' ≠ [] ∧ gs'.length ≤ i + 1 ∧ groupsIn e hi [] ws = groupsIn e hi gs' (ws.drop (i + 1)) ∧ gs'.flatten.length + offW (ws.drop (i + 1)) ≤ 100000) ∧
            (Same H H' ∧ GroupsAt H' ag gs' ∧ H' m = some (.dK (metKv gs'.flatten))), fun σ' H' ⟨gs', h1, h2, h3⟩ => ⟨ws.length - (i + 1), by omega, i + 1, gs', rfl, h1, h2, h3⟩, ?_⟩
          obtain ⟨psg, hag, hpl, _⟩ := id hivt.2.1
          refine ⟨_, rfl, .inl ⟨rfl, _, SqL.of hag⟩, _, rfl, _, rfl, a, _, _, _, rfl, rfl, SqL.of sqt, atI_nat (ref_at gxt), _, rfl, _, rfl, pxt, m, x, 61, hi, gs.flatten, congrArg (fun z => [V.ref pxt, V.str z, V.int hi, V.ref m]) eq_T, ⟨dxt, hpxt⟩, by decide, hhi, (hR _ hmx).2, hglen, hivt.2.2, fun l' hl' H5 g5 hbut5 ng5 hgl5 hm5 => ?_, fun hno H5 hbut5 => ?_⟩
          · rw [hl'] at hgi
            have s5 : Same H H5 := (But.of hivt.1 hbut5).same nm
            have ga5 := hivt.2.1.but hivt.2.2 hbut5
            obtain ⟨xs, hxs, hxl, hpush⟩ := ga5.push hgs hgl5
            refine ⟨ag, xs, _, rfl, rfl, hxs, by rw [hxl]; exact Nat.lt_of_le_of_lt (Nat.le_trans hgl' (Nat.le_trans hil hlenW)) (by decide), ?_⟩
            refine ⟨_, rfl, _, _, rfl, rfl, gs ++ [l'], rfl, ⟨by omega, hilt, by simp, ?_, hgi, ?_⟩, s5.put fag, hpush, ?_⟩
            · rw [List.length_append, List.length_singleton]
              omega
            · have r1 := runs_len _ _ _ _ _ hl'
              have r2 := (cut_len 61 x.w).1
              have r3 : offW (ws.drop i) = x.w.length + 1 + offW (ws.drop (i + 1)) := congrArg offW hdx
              rw [List.flatten_append, List.length_append, List.flatten_cons, List.flatten_nil, List.append_nil]
              omega
            · rw [upd_ne (ne_of hm5 hxs (by intro z; cases z)), List.flatten_append, List.flatten_cons, List.flatten_nil, List.append_nil]
              exact hm5
          · rw [hno] at hgi
            exact fl ((But.of hivt.1 hbut5).same nm) hgi
end
end RD
namespace RD
open PySem PySem.Spec PyProof.Rows L2 RX RT
open Tote (Bytes numberOf ascii badByte Fault Came groupsIn outIn)
open RM (bnd cut placed runsM raceNoM arrM)
theorem cut_from (xs : List V) (n : Nat) : cutV xs (some (n : Int)) none = xs.drop n := by
  unfold cutV
  rw [HT.sIx_none, HT.sIx_nat]
  by_cases h : n ≤ xs.length
  · rw [Nat.min_eq_left h]
    exact List.take_of_length_le (by rw [List.length_drop]; exact Nat.le_refl _)
  · rw [Nat.min_eq_right (by omega), List.drop_eq_nil_of_le (show xs.length ≤ n by omega), List.drop_length]
    exact List.take_nil
theorem arr_nil {e hi : Nat} : arrM e hi [] = .error ⟨3, e⟩ := rfl
theorem arr_void {e hi : Nat} {w : Tote.Word} {r : List Tote.Word} (h : w.w = ascii "void") : arrM e hi (w :: r) = match r with
    | [] => .ok .void
    | x :: _ => .error ⟨3, x.at_⟩ := if_pos h
theorem arr_came {e hi : Nat} {w : Tote.Word} {r : List Tote.Word} (h : w.w = ascii "came") : arrM e hi (w :: r) = groupsIn e hi [] r := by
  show (if w.w = ascii "void" then _ else if w.w = ascii "came" then _ else _) = _
  rw [if_neg (by rw [h]; decide), if_pos h]
theorem arr_not {e hi : Nat} {w : Tote.Word} {r : List Tote.Word} (h1 : ¬ w.w = ascii "void") (h2 : ¬ w.w = ascii "came") : arrM e hi (w :: r) = .error ⟨3, w.at_⟩ := by
  show (if w.w = ascii "void" then _ else if w.w = ascii "came" then _ else _) = _
  rw [if_neg h1, if_neg h2]
abbrev sArrival : Stmt := top 24
def spArr (D : Ad) : Sp := fun vs H Q E => ∃ (a : Addr) (ws : List Tote.Word) (e hi : Nat), vs = [.ref a, .int hi] ∧ WsAt D.cW H a (ws ++ [⟨[], e⟩]) ∧ Real ws ∧ hi ≤ 1000 ∧ offW ws ≤ 100000 ∧
  (∀ c, arrM e hi ws = .ok c → ∀ H' x, Same H H' → H x = none → CameAt D.cA H' x c → Q (.ref x) H') ∧ (∀ x : Fault, arrM e hi ws = .error x → Flt D x.kind x.place H E)
section
variable {P : Program} {w : World} {K : PySem.W.Frag} {mg : Str → Option Value} {base : Heap} {D : Ad}
theorem scArrival : FnScope ["words", "runners"] ["words", "runners"] (defScope sArrival) := ⟨rfl, rfl, rfl, by decide +kernel, rfl, by decide +kernel, by decide +kernel⟩
theorem ok_arrival {f : Addr} {fd : FuncData} (F : Fun K "read_arrival" "read_arrival" sArrival f fd) (Tw : TxW K D.cW) (Ts : TxS mg) (cF : ErrF P w K mg base D.cF) (cC : Cal P w K mg base (L2.CX P w) 5 "read_came" ["words", "runners"] (spCame D)) (cE : Cal P w K mg base (L2.CX P w) 4 "check_ended" ["word"] (spEnded D))
    (mA : Mak P w K mg base "Arrival" D.cA ["self", "state", "groups", "out"] (spIn3 D.cA "state" "groups" "out")) :
    FnOk P w K mg base (L2.CX P w) 6 f fd ["words", "runners"] (spArr D) := by
  obtain ⟨tV, gV⟩ := Ts.vo
  refine F.okX scArrival (fun vs H Q E h => ?_) (fun cdv A outer s H vs Q E hr h => ?_)
  · obtain ⟨a, ws, e, hi, rfl, _⟩ := h
    rfl
  · obtain ⟨a, ws, e, hi, rfl, hwa, hR, hhi, hoff, k1, k2⟩ := h
    obtain ⟨ps, ha, hw⟩ := id hwa
    refine ⟨_, pss_cons (ps_if (pt_cmpR op_eq (pe_fld (pe_ix ix_list (pv 0) pe_int (fun _ _ => rfl)) rfl) pe_str (nomark _))
        (pss_cons (ps_expr (by exact (pe_cx cE hr (by decide) (takes_of rfl rfl rfl rfl) rfl (by exact (pa_cons (pe_ix ix_list (pv 0) pe_int (fun _ _ => rfl)) pa_nil)))))
        (pss_one (ps_ret (by exact (pe_mk mA hr (by decide) rfl (by exact (pa_cons (pe_glob (v := .int 2) rfl gV ⟨_, rfl⟩) (pa_cons (pe_lst pa_nil) (pa_cons (pe_lst pa_nil) pa_nil))))))))) pss_nil)
      (pss_cons (ps_if (pt_cmpR op_eq (pe_fld (pe_ix ix_list (pv 0) pe_int (fun _ _ => rfl)) rfl) pe_str (nomark _))
        (pss_one (ps_ret (by exact (pe_cx cC hr (by decide) (takes_of rfl rfl rfl rfl) rfl (by exact (pa_cons (pe_slice sl_list (pv 0) (po_some pe_int) po_none) (pa_cons (pv 1) pa_nil))))))) pss_nil)
      (pss_one (ps_flt cF rfl hr (by decide) (takes_of rfl rfl rfl rfl) rfl (by exact (pa_cons pe_int (pa_cons (pe_fld (pe_ix ix_list (pv 0) pe_int (fun _ _ => rfl)) rfl) pa_nil)))))), ?_⟩
    have voidLit := lit_of (s := "void") (v := ascii "void") (by decide) (by decide +kernel)
    have cameLit := lit_of (s := "came") (v := ascii "came") (by decide) (by decide +kernel)
    obtain ⟨w0, rest, e0⟩ : ∃ w0 rest, ws ++ [⟨[], e⟩] = w0 :: rest := by cases ws <;> exact ⟨_, _, rfl⟩
    obtain ⟨p0, g0, dx0, h0⟩ := hw.get (i := 0) (w := w0) (by rw [e0]; rfl)
    refine ⟨_, rfl, a, _, _, _, rfl, rfl, SqL.of ha, atI_nat (j := 0) (ref_at g0), p0, _, dx0, _, _, rfl, h0, Tw.cl, Tw.n1, fWord_t w0, rfl, _, rfl, ?_⟩
    have hcase : (ws = [] ∧ w0 = ⟨[], e⟩) ∨ ∃ t, ws = w0 :: t := by
      cases ws with
      | nil => cases e0; exact .inl ⟨rfl, rfl⟩
      | cons x t => cases e0; exact .inr ⟨t, rfl⟩
    by_cases hv : w0.w = ascii "void"
    · rw [decide_eq_true ((voidLit w0.w).mpr hv)]
      rcases hcase with ⟨_, rfl⟩ | ⟨t, rfl⟩
      · exact absurd hv (show ¬ ([] : Bytes) = ascii "void" by decide)
      have har := arr_void (e := e) (hi := hi) (r := t) hv
      obtain ⟨w1, rest1, e1⟩ : ∃ w1 rest, t ++ [⟨[], e⟩] = w1 :: rest := by cases t <;> exact ⟨_, _, rfl⟩
      obtain ⟨p1, g1, dx1, h1⟩ := hw.get (i := 1) (w := w1) (by show (t ++ _)[0]? = _; rw [e1]; rfl)
      refine iteT ⟨_, rfl, a, _, _, _, rfl, rfl, SqL.of ha, atI_nat (j := 1) (ref_at g1), p1, w1, rfl, ⟨dx1, h1⟩, fun he => ?_, fun hn => ?_⟩
      · cases t with
        | cons y t => cases e1; exact absurd he (hR w1 (by simp)).1
        | nil =>
          refine ⟨Nat.zero_le _, fun ag nag => ⟨Nat.zero_le _, fun ao nao => fun x dx nx nd ndx => ⟨x, dx, _, _, _, rfl, upd_same, fun H9 hx hb => ⟨rfl, ?_⟩⟩⟩⟩
          have s1 : Same H (upd H ag (.lst [])) := same_upd nag
          have s2 := s1.put (o := .lst []) (s1.free nao)
          have s9 := Same.made nx nd fun b o e hb' => hb b o e hb'
          refine k1 _ har H9 x (s2.trans s9) (s2.free nx) ⟨dx, ag, ao, hx, s9 _ _ ?_, s9 _ _ upd_same⟩
          rw [upd_ne (ne_of_none upd_same nao)]
          exact upd_same
      · cases t with
        | nil => cases e1; exact absurd rfl hn
        | cons y t => cases e1; exact k2 _ har
    rw [decide_eq_false (fun q => hv ((voidLit w0.w).mp q))]
    refine iteF ⟨_, rfl, a, _, _, _, rfl, rfl, SqL.of ha, atI_nat (j := 0) (ref_at g0), p0, _, dx0, _, _, rfl, h0, Tw.cl, Tw.n1, fWord_t w0, rfl, _, rfl, ?_⟩
    by_cases hc : w0.w = ascii "came"
    · rw [decide_eq_true ((cameLit w0.w).mpr hc)]
      rcases hcase with ⟨_, rfl⟩ | ⟨t, rfl⟩
      · exact absurd hc (show ¬ ([] : Bytes) = ascii "came" by decide)
      have har := arr_came (e := e) (hi := hi) (r := t) hc
      refine iteT ⟨_, rfl, _, rfl, a, _, rfl, SqL.of ha, fun la nla => ?_⟩
      rw [show (1 : Int) = ((1 : Nat) : Int) from rfl, cut_from, ← List.map_drop]
      have s1 : Same H (upd H la (.lst ((ps.drop 1).map V.ref))) := same_upd nla
      refine ⟨_, rfl, la, t, e, hi, rfl, ⟨ps.drop 1, upd_same, (hw.drop 1).on s1⟩, fun x hx => hR x (List.mem_cons_of_mem _ hx), hhi, ?_, fun c hc' H' x s' nx hca => ?_, fun x hx => ?_⟩
      · have : offW (w0 :: t) = w0.w.length + 1 + offW t := rfl
        omega
      · exact k1 c (by rw [har]; exact hc') H' x (s1.trans s') (s1.free nx) hca
      · exact (k2 x (by rw [har]; exact hx)).mono s1
    · rw [decide_eq_false (fun q => hc ((cameLit w0.w).mp q))]
      refine iteF ⟨_, rfl, a, _, _, _, rfl, rfl, SqL.of ha, atI_nat (j := 0) (ref_at g0), p0, _, dx0, _, _, rfl, h0, Tw.cl, Tw.n2, fWord_p w0, _, _, rfl, ?_⟩
      rcases hcase with ⟨rfl, rfl⟩ | ⟨t, rfl⟩
      · exact k2 _ arr_nil
      · exact k2 _ (arr_not hv hc)
end
end RD
namespace RD
open PySem PySem.Spec PyProof.Rows L2 RX RT
open Tote (Bytes numberOf ascii badByte Fault Came groupsIn outIn)
open RM (bnd cut placed runsM raceNoM arrM linesR RInv runnersOf)
theorem natV_refs {g : List Nat} {ps : List Addr} (h : natV g = ps.map V.ref) : ps = [] := by
  cases ps with
  | nil => rfl
  | cons x t =>
    cases g with
    | nil => cases h
    | cons y u => exact V.noConfusion (List.cons.inj h).1
theorem refs_inj : ∀ {a b : List Addr}, a.map V.ref = b.map V.ref → a = b
  | [], [], _ => rfl
  | [], _ :: _, h => by cases h
  | _ :: _, [], h => by cases h
  | x :: a, y :: b, h => by
    obtain ⟨h1, h2⟩ := List.cons.inj h
    cases h1
    rw [refs_inj h2]
/-- arrivals, race by race -/
def ArrsAt (C : Addr) (H : Hp) (a : Addr) (cs : List Came) : Prop := ∃ ps : List Addr, H a = some (.lst (ps.map V.ref)) ∧ ps.length = cs.length ∧ ∀ (i : Nat) p c, ps[i]? = some p → cs[i]? = some c → CameAt C H p c
theorem ArrsAt.on {C a : Addr} {H H' : Hp} {cs : List Came} (h : ArrsAt C H a cs) (s : Same H H') : ArrsAt C H' a cs := by
  obtain ⟨ps, h1, h2, h3⟩ := h
  exact ⟨ps, s _ _ h1, h2, fun i p c x y => (h3 i p c x y).on s⟩
theorem CameAt.ins {C x : Addr} {H : Hp} {c : Came} (h : CameAt C H x c) : ∃ dx fs, H x = some (.ins C dx fs) := by
  cases c with
  | open_ => obtain ⟨dx, ag, ao, h, _⟩ := h; exact ⟨_, _, h⟩
  | void => obtain ⟨dx, ag, ao, h, _⟩ := h; exact ⟨_, _, h⟩
  | came gs out => obtain ⟨dx, ag, ao, h, _⟩ := h; exact ⟨_, _, h⟩
/-- a change of a list of instances changes no arrival -/
theorem CameAt.away {C x a q : Addr} {H : Hp} {c : Came} {ps : List Addr} {o : HO} (h : CameAt C H x c) (ha : H a = some (.lst ((q :: ps).map V.ref))) (hq : ∃ C' dx fs, H q = some (.ins C' dx fs)) : CameAt C (upd H a o) x c := by
  have kx : ∀ {y C' dx : Addr} {fs : List (Str × V)}, H y = some (.ins C' dx fs) → upd H a o y = some (.ins C' dx fs) := fun e => by
    rw [upd_ne (ne_of e ha (by intro z; cases z))]
    exact e
  have kn : ∀ {y : Addr} {g : List Nat}, H y = some (.lst (natV g)) → upd H a o y = some (.lst (natV g)) := fun e => by
    rw [upd_ne (ne_of e ha (by
      intro z
      have := natV_refs (HO.lst.inj z)
      cases this))]
    exact e
  have ke : ∀ {y : Addr}, H y = some (.lst []) → upd H a o y = some (.lst []) := fun e => kn (g := []) e
  cases c with
  | open_ => obtain ⟨dx, ag, ao, h1, h2, h3⟩ := h; exact ⟨dx, ag, ao, kx h1, ke h2, ke h3⟩
  | void => obtain ⟨dx, ag, ao, h1, h2, h3⟩ := h; exact ⟨dx, ag, ao, kx h1, ke h2, ke h3⟩
  | came gs out =>
    obtain ⟨dx, ag, ao, h1, ⟨gs', g1, g2, g3⟩, h3⟩ := h
    refine ⟨dx, ag, ao, kx h1, ⟨gs', ?_, g2, fun i p g a b => kn (g3 i p g a b)⟩, kn h3⟩
    rw [upd_ne (ne_of g1 ha (by
      intro z
      have e := refs_inj (HO.lst.inj z)
      subst e
      obtain ⟨C', dx', fs, hq⟩ := hq
      cases gs with
      | nil => cases g2
      | cons g gs =>
        have := g3 0 q g rfl rfl
        rw [hq] at this
        cases this))]
    exact g1
theorem ArrsAt.set {C a x : Addr} {H : Hp} {cs : List Came} {c : Came} {n : Nat} (h : ArrsAt C H a cs) (hn : n < cs.length) (hx : CameAt C H x c) : ∃ xs, H a = some (.lst xs) ∧ xs.length = cs.length ∧ ArrsAt C (upd H a (.lst (xs.set n (V.ref x)))) a (cs.set n c) := by
  obtain ⟨ps, h1, h2, h3⟩ := h
  obtain ⟨q, t, rfl⟩ : ∃ q t, ps = q :: t := by
    cases ps with
    | nil => rw [← h2] at hn; exact absurd hn (Nat.not_lt_zero _)
    | cons q t => exact ⟨q, t, rfl⟩
  have hq : ∃ C' dx fs, H q = some (.ins C' dx fs) := by
    obtain ⟨c0, hc0⟩ : ∃ c0, cs[0]? = some c0 := ⟨cs[0]'(by omega), List.getElem?_eq_getElem _⟩
    obtain ⟨dx, fs, e⟩ := (h3 0 q c0 rfl hc0).ins
    exact ⟨_, _, _, e⟩
  refine ⟨_, h1, by rw [List.length_map, h2], (q :: t).set n x, by rw [upd_same, List.map_set], by rw [List.length_set, List.length_set, h2], fun i p c' e1 e2 => ?_⟩
  rw [List.getElem?_set] at e1 e2
  by_cases hi : n = i
  · rw [if_pos hi, if_pos (by omega)] at e1 e2
    cases e1
    cases e2
    exact hx.away h1 hq
  · rw [if_neg hi] at e1 e2
    exact (h3 i p c' e1 e2).away h1 hq
theorem set_mid {α : Type} (o c : α) (B : List α) : ∀ A : List α, (A ++ o :: B).set A.length c = A ++ c :: B
  | [] => rfl
  | x :: A => by
    show x :: (A ++ o :: B).set A.length c = x :: (A ++ c :: B)
    rw [set_mid o c B A]
theorem fill_set (h : List Came) (R n : Nat) (c : Came) (h1 : h.length < n) (h2 : n ≤ R) : (h ++ List.replicate (R - h.length) Came.open_).set (n - 1) c = (h ++ List.replicate (n - 1 - h.length) Came.open_ ++ [c]) ++ List.replicate (R - (h ++ List.replicate (n - 1 - h.length) Came.open_ ++ [c]).length) Came.open_ := by
  obtain ⟨k, rfl⟩ : ∃ k, n = h.length + k + 1 := ⟨n - 1 - h.length, by omega⟩
  obtain ⟨j, rfl⟩ : ∃ j, R = h.length + k + 1 + j := ⟨R - (h.length + k + 1), by omega⟩
  have e0 : h.length + k + 1 - 1 - h.length = k := by omega
  rw [e0]
  have e1 : (h ++ List.replicate k Came.open_ ++ [c]).length = h.length + k + 1 := by
    rw [List.length_append, List.length_append, List.length_replicate, List.length_singleton]
  rw [e1, show h.length + k + 1 + j - (h.length + k + 1) = j by omega, show h.length + k + 1 + j - h.length = k + (j + 1) by omega, ← List.replicate_append_replicate, List.replicate_succ, ← List.append_assoc]
  have z := set_mid Came.open_ c (List.replicate j Came.open_) (h ++ List.replicate k Came.open_)
  rw [List.length_append, List.length_replicate] at z
  rw [show h.length + k + 1 - 1 = h.length + k by omega, z, List.append_assoc _ [c]]
  rfl
theorem placed_w : ∀ (p : Nat) (l : List Bytes), (placed p l).map (fun w => w.w) = l
  | _, [] => rfl
  | p, w :: t => by
    show w :: (placed _ t).map _ = _
    rw [placed_w]
theorem real_of {l : Bytes} (p : Nat) (hg : badByte true 0 l = none) (hl : l.length ≤ 66000) : Real (placed p (cut 32 l)) := by
  intro x hx
  have hx' : x.w ∈ cut 32 l := by
    rw [← placed_w p (cut 32 l)]
    exact List.mem_map_of_mem hx
  have g := (RM.good_iff l).mp (by unfold RM.goodLine; rw [hg]; rfl)
  exact ⟨(g _ hx').1, Nat.le_trans ((cut_len 32 l).2 _ hx') hl⟩
theorem offW_of (l : Bytes) (p : Nat) : offW (placed p (cut 32 l)) = l.length + 1 := by
  unfold offW
  rw [placed_w, off_cut]
theorem rno_ok {e R above m : Nat} {ws r : List Tote.Word} (h : raceNoM e R above ws = .ok (m, r)) : ws.drop 2 = r ∧ 1 ≤ m ∧ m ≤ R ∧ above < m ∧ 2 ≤ ws.length := by
  match ws, h with
  | [], h => cases h
  | [w], h =>
    by_cases hw : w.w = ascii "race"
    · rw [rno_one hw] at h; cases h
    · rw [rno_not hw] at h; cases h
  | w :: n :: t, h =>
    by_cases hw : w.w = ascii "race"
    · rw [rno_two hw] at h
      cases hb : bnd 1 R n.w with
      | none => rw [hb] at h; cases h
      | some k =>
        rw [hb] at h
        have h : (if above < k then (.ok (k, t) : Except Fault (Nat × List Tote.Word)) else .error ⟨4, n.at_⟩) = .ok (m, r) := h
        by_cases hk : above < k
        · rw [if_pos hk] at h
          cases h
          obtain ⟨h1, h2⟩ := bnd_in hb
          exact ⟨rfl, h1, h2, hk, by simp⟩
        · rw [if_neg hk] at h; cases h
    · rw [rno_not hw] at h; cases h
end RD
namespace RD
open PySem PySem.Spec PyProof.Rows L2 RX RT
open Tote (Bytes numberOf ascii badByte Fault Came groupsIn outIn)
open RM (bnd cut placed runsM raceNoM arrM linesR RInv runnersOf)
abbrev sRes : Stmt := top 18
def spRes (K : PySem.W.Frag) (D : Ad) : Sp := fun vs H Q E => ∃ (a ra : Addr) (b : Bytes) (C : Tote.Card), vs = [.ref a, .ref ra] ∧ SqL K H a (byV b) ∧ b.length ≤ 65536 ∧ RacesAt D.cRc H ra C.races ∧ (∀ r ∈ C.races, RInv r) ∧ C.races.length ≤ 1000 ∧
  (∀ h, C.readResult b = .ok h → ∀ H' x, Same H H' → H x = none → ArrsAt D.cA H' x h → Q (.ref x) H') ∧ (∀ x : Fault, C.readResult b = .error x → Flt D x.kind x.place H E)
theorem off_drop : ∀ (l : List Bytes) (n : Nat), off (l.drop n) ≤ off l
  | [], n => by rw [List.drop_nil]; exact Nat.le_refl _
  | w :: t, 0 => Nat.le_refl _
  | w :: t, n + 1 => by
    have := off_drop t n
    show off (t.drop n) ≤ w.length + 1 + off t
    omega
section
variable {P : Program} {w : World} {K : PySem.W.Frag} {mg : Str → Option Value} {base : Heap} {D : Ad}
abbrev nRes : List Str := ["data", "races", "text", "arrivals", "race", "above", "start", "end", "words", "number"]
theorem scRes : FnScope nRes ["data", "races"] (defScope sRes) := ⟨rfl, rfl, rfl, by decide +kernel, rfl, by decide +kernel, by decide +kernel⟩
theorem ok_res {f : Addr} {fd : FuncData} (F : Fun K "read_result" "read_result" sRes f fd) (Tl : TxLen mg) (Ts : TxS mg) (Tr : TxR K D.cRc) (cF : ErrF P w K mg base D.cF) (cD : Cal P w K mg base CX0 1 "decoded" ["data"] (spDec K)) (cSg : Cal P w K mg base (L2.CX P w) 4 "check_signs" ["data", "start", "end"] (spSigns K D))
    (cSp : Cal P w K mg base CX0 3 "split_line" ["line", "start"] (spSplit D)) (cN : Cal P w K mg base (L2.CX P w) 5 "read_race_number" ["words", "above", "highest"] (spRNo D)) (cA : Cal P w K mg base (L2.CX P w) 6 "read_arrival" ["words", "runners"] (spArr D))
    (mA : Mak P w K mg base "Arrival" D.cA ["self", "state", "groups", "out"] (spIn3 D.cA "state" "groups" "out")) :
    FnOk P w K mg base (L2.CX P w) 7 f fd ["data", "races"] (spRes K D) := by
  obtain ⟨tO, gO⟩ := Ts.op
  refine F.okX scRes (fun vs H Q E h => ?_) (fun cdv A outer s H vs Q E hr h => ?_)
  · obtain ⟨a, ra, b, C, rfl, _⟩ := h
    rfl
  · obtain ⟨a, ra, b, C, rfl, hL, hb, hRA, hRI, hRl, k1, k2⟩ := h
    refine ⟨_, pss_cons (ps_set (i := 2) scRes.nd rfl (Or.inl rfl) (pe_c0 cD hr (by decide) rfl (by exact (pa_cons (pv 0) pa_nil))))
      (pss_cons (ps_setLc (i := 3) (own := [("race", 4)]) (g := gName 4) (tt := tYes) (te := tMake D.cA (spIn3 D.cA "state" "groups" "out") [] E0 (tCons (tC (.int 0)) (tCons (tLst tNil) (tCons (tLst tNil) tNil)))) (by rfl) scRes.nd rfl rfl (sw_true rfl rfl rfl (by decide +kernel)) (pi_list (pv 1)) (blkOk_by (N := nRes) (sc := defScope sRes) (by decide +kernel))
        (fun _ _ _ _ _ => pg_name (i := 4) scRes.nd rfl (Or.inl rfl)) (fun _ _ _ _ _ => pts_nil)
        (fun _ _ _ _ _ => pe_mk mA hr (by decide) rfl (by exact (pa_cons (pe_glob (v := .int 0) rfl gO ⟨_, rfl⟩) (pa_cons (pe_lst pa_nil) (pa_cons (pe_lst pa_nil) pa_nil))))))
      (pss_cons (ps_set (i := 5) scRes.nd rfl (Or.inl rfl) pe_int)
      (pss_cons (ps_set (i := 6) scRes.nd rfl (Or.inl rfl) pe_int)
      (pss_cons (ps_while (passes_of rfl) (pt_cmpR op_lt (pv 6) (pe_callB call_len_str (by rfl) Tl.len PySem.boot_len (pa_cons (pv 2) pa_nil)) (nomark _))
        (pss_cons (ps_set (i := 7) scRes.nd rfl (Or.inl rfl) (pe_bm PySem.F.plainAttrs_str PySem.F.slot_str_find PySem.F.type_str_find mt_find3 (pv 2) (pa_cons pe_str (pa_cons (pv 6) pa_nil))))
        (pss_cons (ps_if (pt_cmpR op_lt (pv 7) pe_int (nomark _)) (pss_one (ps_flt cF rfl hr (by decide) (takes_of rfl rfl rfl rfl) rfl (by exact (pa_cons pe_int (pa_cons (pe_callB call_len_str (by rfl) Tl.len PySem.boot_len (pa_cons (pv 2) pa_nil)) pa_nil))))) pss_nil)
        (pss_cons (ps_expr (by exact (pe_cx cSg hr (by decide) (takes_of rfl rfl rfl rfl) rfl (by exact (pa_cons (pv 0) (pa_cons (pv 6) (pa_cons (pv 7) pa_nil)))))))
        (pss_cons (ps_set (i := 8) scRes.nd rfl (Or.inl rfl) (pe_c0 cSp hr (by decide) rfl (by exact (pa_cons (pe_slice sl_str (pv 2) (po_some (pv 6)) (po_some (pv 7))) (pa_cons (pv 6) pa_nil)))))
        (pss_cons (ps_set (i := 9) scRes.nd rfl (Or.inl rfl) (by exact (pe_cx cN hr (by decide) (takes_of rfl rfl rfl rfl) rfl (by exact (pa_cons (pv 8) (pa_cons (pv 5) (pa_cons (pe_callB call_len_seq (by rfl) Tl.len PySem.boot_len (pa_cons (pv 1) pa_nil)) pa_nil)))))))
        (pss_cons (ps_asg (by exact (pe_cx cA hr (by decide) (takes_of rfl rfl rfl rfl) rfl (by exact (pa_cons (pe_slice sl_list (pv 8) (po_some pe_int) po_none) (pa_cons (pe_fld (pe_ix ix_list (pv 1) (pe_op op_sub (pv 9) pe_int) (fun _ _ => rfl)) rfl) pa_nil))))) (pg_sub (pv 3) (pe_op op_sub (pv 9) pe_int) set_list))
        (pss_cons (ps_set (i := 5) scRes.nd rfl (Or.inl rfl) (pv 9))
        (pss_one (ps_set (i := 6) scRes.nd rfl (Or.inl rfl) (pe_op op_add (pv 7) pe_int)))))))))))
      (pss_one (ps_ret (pv 3))))))), ?_⟩
    refine ⟨_, rfl, a, b, rfl, hL, by omega, fun H1 s1 => ?_⟩
    obtain ⟨prs, hpr, hprl, hprat⟩ := id hRA
    refine ⟨_, rfl, ra, rfl, ⟨_, SqL.of (s1 _ _ hpr)⟩, fun ar nar => ?_⟩
    have far : H ar = none := s1.free nar
    refine lc_list (xs := prs.map fun p => V.ref p.1) (fun i H' => ∃ ps : List Addr, H' ar = some (.lst (ps.map V.ref)) ∧ ps.length = i ∧ (∀ p ∈ ps, CameAt D.cA H' p .open_) ∧ Same H H') ⟨[], upd_same, rfl, (fun _ h => by cases h), s1.trans (same_upd nar)⟩ (fun i H' _ q => by obtain ⟨_, _, _, _, q⟩ := q; exact SqL.of (q _ _ hpr)) ?_ ?_
    · rintro i x H3 hi ⟨ps, q1, q2, q3, q4⟩
      refine ⟨rfl, Nat.zero_le _, fun ag nag => ⟨Nat.zero_le _, fun ao nao x dx nx nd ndx => ⟨x, dx, _, _, _, rfl, upd_same, fun H9 hx hb => ⟨rfl, ps.map V.ref, ?_⟩⟩⟩⟩
      have t1 : Same H3 (upd H3 ag (.lst [])) := same_upd nag
      have t2 := t1.put (o := .lst []) (t1.free nao)
      have t3 := Same.made nx nd fun b o e hb' => hb b o e hb'
      have t9 := t2.trans t3
      have ear := t9 _ _ q1
      have nx9 : x ≠ ar := ne_of hx ear (by intro z; cases z)
      have eag : H9 ag = some (.lst []) := t3 _ _ (by rw [upd_ne (ne_of_none upd_same nao)]; exact upd_same)
      have eao : H9 ao = some (.lst []) := t3 _ _ upd_same
      have nag9 : ag ≠ ar := Ne.symm (ne_of_none q1 nag)
      have nao9 : ao ≠ ar := Ne.symm (ne_of_none (t1 _ _ q1) nao)
      have hi' : i < prs.length := by
        have := (List.getElem?_eq_some_iff.mp hi).1
        rwa [List.length_map] at this
      refine ⟨ear, by rw [List.length_map, q2]; exact Nat.lt_trans (Nat.lt_of_lt_of_le hi' (by rw [hprl]; exact hRl)) (by decide), ps ++ [x], by rw [upd_same, List.map_append]; rfl, by rw [List.length_append, q2]; rfl, fun p hp => ?_, (q4.trans t9).put far⟩
      rcases List.mem_append.mp hp with hp | hp
      · cases ps with
        | nil => cases hp
        | cons q ps =>
          obtain ⟨dxq, fsq, eq⟩ := ((q3 q List.mem_cons_self).on t9).ins
          exact ((q3 p hp).on t9).away ear ⟨_, _, _, eq⟩
      · rw [List.mem_singleton.mp hp]
        exact ⟨dx, ag, ao, by rw [upd_ne nx9]; exact hx, by rw [upd_ne nag9]; exact eag, by rw [upd_ne nao9]; exact eao⟩
    rintro H2 ⟨ps0, q1, q2, q3, s2⟩
    rw [List.length_map, hprl] at q2
    refine ⟨fun n σ H' => ∃ (p : Nat) (h : List Came) (v7 v8 v9 : Option V), n = b.length - p ∧ σ = [some (.ref a), some (.ref ra), some (.str (T b)), some (.ref ar), none, some (.int (h.length : Int)), some (.int (p : Int)), v7, v8, v9] ∧ p ≤ b.length ∧ h.length ≤ C.races.length ∧ linesR C.cameIn 0 [] b = linesR C.cameIn p h (b.drop p) ∧
      Same H H' ∧ ArrsAt D.cA H' ar (h ++ List.replicate (C.races.length - h.length) Came.open_), ⟨_, 0, [], none, none, none, rfl, rfl, Nat.zero_le _, Nat.zero_le _, by rw [List.drop_zero], s2, ps0, q1, ?_, fun i p c e1 e2 => ?_⟩, ?_⟩
    · rw [q2, List.nil_append, List.length_replicate]
      rfl
    · rw [List.nil_append, List.getElem?_replicate] at e2
      split at e2
      · cases e2
        exact q3 p (List.mem_of_getElem? e1)
      · cases e2
    rintro _ σ H4 ⟨p, h, v7, v8, v9, rfl, rfl, hp, hhR, hlin, s4, hAr⟩
    refine ⟨_, rfl, _, rfl, _, rfl, by rw [T_len]; exact Nat.le_trans hb (by decide), _, _, rfl, rfl, _, rfl, ?_⟩
    rw [T_len]
    by_cases hlt : ¬ p < b.length
    · rw [decide_eq_false (show ¬ ((p : Int) < (b.length : Int)) by omega)]
      have hpb : p = b.length := by omega
      subst hpb
      rw [List.drop_length, RM.linesR_nil] at hlin
      refine iteF ⟨_, rfl, k1 _ ?_ H4 ar s4 far hAr⟩
      show (match linesR C.cameIn 0 [] b with | .error e => _ | .ok h => _) = _
      rw [hlin]
    have hlt := Decidable.not_not.mp hlt
    rw [decide_eq_true (show ((p : Int) < (b.length : Int)) by omega)]
    have err : ∀ {x : Fault} {H' : Hp}, linesR C.cameIn 0 [] b = .error x → Same H H' → Flt D x.kind x.place H' E := fun {x H'} hx s' => by
      refine (k2 x ?_).mono s'
      show (match linesR C.cameIn 0 [] b with | .error e => _ | .ok h => _) = _
      rw [hx]
    refine iteT ⟨fun σ H' => ∃ (p' : Nat) (h : List Came) (v7 v8 v9 : Option V), p < p' ∧ σ = [some (.ref a), some (.ref ra), some (.str (T b)), some (.ref ar), none, some (.int (h.length : Int)), some (.int (p' : Int)), v7, v8, v9] ∧ p' ≤ b.length ∧ h.length ≤ C.races.length ∧ linesR C.cameIn 0 [] b = linesR C.cameIn p' h (b.drop p') ∧
      Same H H' ∧ ArrsAt D.cA H' ar (h ++ List.replicate (C.races.length - h.length) Came.open_), fun σ' H' ⟨p', h', v7, v8, v9, h1, h2, h3, h4, h5, h6, h7⟩ => ⟨b.length - p', by omega, p', h', v7, v8, v9, rfl, h2, h3, h4, h5, h6, h7⟩, ?_⟩
    refine ⟨_, rfl, rfl, _, rfl, _, _, _, rfl, rfl, ?_⟩
    have hfd := find_T (v := 10) (by decide) b nl_S hp
    cases hup : Tote.upTo (b.drop p) with
    | none =>
      have hno : (10 : UInt8) ∉ b.drop p := by
        have e := RM.upTo_none hup
        exact RM.cut_free 10 (b.drop p) _ (by rw [e]; exact List.mem_cons_self)
      have hne : b.drop p ≠ [] := fun q => by
        have := congrArg List.length q
        rw [List.length_drop] at this
        simp at this
        omega
      rw [RM.linesR_none hne hup] at hlin
      rw [hfd.1 hno]
      refine ⟨_, rfl, _, _, rfl, rfl, _, rfl, ?_⟩
      refine iteT ⟨_, rfl, _, rfl, by rw [T_len]; exact Nat.le_trans hb (by decide), _, _, rfl, ?_⟩
      have z := err hlin s4
      rw [List.length_drop, show p + (b.length - p) = b.length by omega] at z
      rw [T_len]
      exact z
    | some lr =>
      obtain ⟨l, r⟩ := lr
      obtain ⟨_, hd, hnl⟩ := RM.upTo_some hup
      rw [hfd.2 l r hd hnl]
      have hlen : p + l.length + 1 + r.length = b.length := by
        have := congrArg List.length hd
        rw [List.length_drop, List.length_append, List.length_cons] at this
        omega
      refine ⟨_, rfl, _, _, rfl, rfl, _, rfl, ?_⟩
      rw [decide_eq_false (show ¬ (((p + l.length : Nat) : Int) < 0) by omega)]
      refine iteF ⟨_, rfl, _, rfl, _, rfl, a, b, l, r, p, rfl, s4.seq hL, by omega, hd, fun hg => ?_, fun i hi => ?_⟩
      rotate_left
      · rw [RM.linesR_bad hup hi] at hlin
        exact err hlin s4
      rw [RM.linesR_line hup hg] at hlin
      have ecut : L2.cutS (T b) (some (p : Int)) (some ((p + l.length : Nat) : Int)) = T l := by
        rw [cut_T b (Nat.le_add_right _ _) (by omega), hd, show p + l.length - p = l.length by omega, List.take_left]
      refine ⟨_, rfl, _, rfl, _, rfl, _, rfl, _, rfl, _, rfl, by rw [T_len]; exact Nat.le_trans hb (by decide), _, rfl, l, p, congrArg (fun z => [V.str z, V.int (p : Int)]) ecut, by omega, fun H5 wa s5 nwa hws => ?_⟩
      have hreal := real_of p hg (show l.length ≤ 66000 by omega)
      have hoffw := offW_of l p
      generalize hwsd : placed p (cut 32 l) = ws at hws hreal hoffw hlin
      have s45 := s4.trans s5
      have hra5 := s45 _ _ hpr
      have lenR : (prs.map fun p => V.ref p.1).length = C.races.length := by rw [List.length_map, hprl]
      refine ⟨_, rfl, _, rfl, _, rfl, ra, _, rfl, .inl (SqL.of hra5), wa, ws, p + l.length, h.length, C.races.length, congrArg (fun n : Nat => [V.ref wa, V.int (h.length : Int), V.int (n : Int)]) lenR, hws, hreal, hRl, fun m rest hm => ?_, fun x hx => ?_⟩
      rotate_left
      · rw [RM.came_is, hx] at hlin
        exact err hlin s45
      rw [RM.came_is, hm] at hlin
      obtain ⟨hd2, hm1, hmR, hmh, h2l⟩ := rno_ok hm
      obtain ⟨ps, hps, hpw⟩ := hws
      refine ⟨_, rfl, _, rfl, wa, _, rfl, SqL.of hps, fun q nq => ?_⟩
      rw [show (2 : Int) = ((2 : Nat) : Int) from rfl, cut_from, ← List.map_drop]
      have s6 := s45.put (o := .lst ((ps.drop 2).map V.ref)) (s45.free nq)
      have s56 : Same H5 (upd H5 q (.lst ((ps.drop 2).map V.ref))) := same_upd nq
      have hq6 : upd H5 q (.lst ((ps.drop 2).map V.ref)) q = some (.lst ((ps.drop 2).map V.ref)) := upd_same
      generalize hH6 : upd H5 q (.lst ((ps.drop 2).map V.ref)) = H6 at s6 s56 hq6
      obtain ⟨rc, hrc⟩ : ∃ rc, C.races[m - 1]? = some rc := ⟨C.races[m - 1]'(by omega), List.getElem?_eq_getElem _⟩
      obtain ⟨pr, hpr1⟩ : ∃ pr, prs[m - 1]? = some pr := ⟨prs[m - 1]'(by omega), List.getElem?_eq_getElem _⟩
      obtain ⟨⟨dxr, her⟩, _⟩ := (hprat (m - 1) pr rc hpr1 hrc).on s6
      have hrun : runnersOf C m = rc.runners := by
        unfold RM.runnersOf
        rw [hrc]
        rfl
      obtain ⟨_, hr24, _⟩ := hRI rc (List.mem_of_getElem? hrc)
      have hlin : linesR C.cameIn 0 [] b = match arrM (p + l.length) rc.runners rest with
          | .error f => .error f
          | .ok c => linesR C.cameIn (p + l.length + 1) (h ++ List.replicate (m - 1 - h.length) Came.open_ ++ [c]) r := by
        rw [hlin, ← hrun]
        dsimp only
        cases arrM (p + l.length) (runnersOf C m) rest <;> rfl
      refine ⟨_, rfl, _, rfl, _, _, rfl, rfl, ra, _, _, _, rfl, rfl, SqL.of (s6 _ _ hpr), at_of (j := m - 1) (by show (m : Int) - 1 = _; omega) (by rw [List.getElem?_map, hpr1]; rfl), pr.1, _, dxr, _, _, rfl, her, Tr.cl, Tr.n1, fRace_r rc pr.2, q, rest, p + l.length, rc.runners, rfl, ⟨ps.drop 2, hq6, ?_⟩, ?_, by omega, ?_, fun c hc H7 x s7 nx hca => ?_, fun x hx => ?_⟩
      · have z := (hpw.drop 2).on s56
        rw [List.drop_append_of_le_length h2l, hd2] at z
        exact z
      · intro x hx
        rw [← hd2] at hx
        exact hreal x (List.mem_of_mem_drop hx)
      · rw [← hd2]
        have : offW (ws.drop 2) ≤ offW ws := by
          unfold offW
          rw [List.map_drop]
          exact off_drop _ _
        omega
      · rw [hc] at hlin
        have s67 := s6.trans s7
        have hAr7 := hAr.on (s5.trans (s56.trans s7))
        have hcl : (h ++ List.replicate (C.races.length - h.length) Came.open_).length = C.races.length := by
          rw [List.length_append, List.length_replicate]
          omega
        obtain ⟨xs, hxs, hxl, hset⟩ := hAr7.set (n := m - 1) (by rw [hcl]; omega) hca
        refine ⟨_, rfl, _, rfl, _, _, rfl, rfl, ar, xs, _, m - 1, rfl, rfl, hxs, ?_, ?_⟩
        · rw [hxl, hcl]
          show L2.ixN _ ((m : Int) - 1) = _
          unfold L2.ixN
          rw [if_pos (by omega), if_pos (by omega)]
          congr 1
          omega
        · rw [fill_set h _ m c hmh hmR] at hset
          have hl' : (h ++ List.replicate (m - 1 - h.length) Came.open_ ++ [c]).length = m := by
            rw [List.length_append, List.length_append, List.length_replicate, List.length_singleton]
            omega
          have er : b.drop (p + l.length + 1) = r := by
            rw [show p + l.length + 1 = p + (l.length + 1) by omega, ← List.drop_drop, hd, show l ++ 10 :: r = (l ++ [10]) ++ r by rw [List.append_assoc]; rfl]
            exact List.drop_left' (by rw [List.length_append]; rfl)
          refine ⟨_, rfl, _, rfl, _, _, rfl, rfl, p + l.length + 1, h ++ List.replicate (m - 1 - h.length) Came.open_ ++ [c], some (.int ((p + l.length : Nat) : Int)), some (.ref wa), some (.int (m : Int)), by omega, ?_, by omega, by rw [hl']; exact hmR, by rw [hlin, er], s67.put far, hset⟩
          rw [hl']
          rfl
      · rw [hx] at hlin
        exact err hlin s6
end
end RD
namespace RX
open PySem PySem.Spec PyProof.Rows L2
/-! ### try with two clauses that name what they catch -/
/-- the clause's name is gone behind it -/
def gone (i : Nat) (D : Ends) : Ends := ⟨fun t G => D.nx (t.set i none) G, D.rt, fun t G => D.bk (t.set i none) G, fun t G => D.ct (t.set i none) G⟩
section
variable {X : Cx} {B : Heap} {sI s' : Shared} {h3 : Heap} {σ : L2.St} {H : Hp} {pins : List (Addr × Obj)} {a : Addr} {cls c : Value} {d : Option Addr} {D : Ends} {i : Nat} {x n : Str} {b : Bool} {b₀ : Stmt} {suite : List Stmt} {np qos : Pos} {rest : List ExceptHandler} {ts : Addr → Value → Option Addr → TS}
/-- an exception caught at a, nothing else changed -/
structure Held (X : Cx) (pins : List (Addr × Obj)) (σ : L2.St) (H : Hp) (a : Addr) (cls : Value) (d : Option Addr) (B : Heap) (sI s' : Shared) (h : Heap) : Prop where
  inv : Inv X pins σ H sI
  nb : ∀ q o, sI.heap.get? q = some o → q ∉ frs X.stack → B.get? q = some o
  fly : HandSPX.FlyingZ B (X.env :: X.outer) a (Zc cls d) h
  up : sI.heap.UpToSlots h
  na : H a = none
  os : s'.os = sI.os
  ag : AllBare s'.gens
theorem Held.invAt (C : Held X pins σ H a cls d B sI s' h3) : Inv X pins σ H { s' with heap := h3 } := C.inv.landed C.nb C.fly.1 C.up C.os C.ag
theorem Held.off (C : Held X pins σ H a cls d B sI s' h3) (hf : X.env.frame = some X.env.locals) : a ≠ X.env.locals ∧ a ∉ X.fs := by
  obtain ⟨oe, vs, he, _, hd⟩ := C.fly.there
  have k : a ∉ frs (X.env :: X.outer) := by
    intro m
    obtain ⟨_, o, e, q⟩ := C.fly.2.2.1.mem m
    cases he.symm.trans e
    exact q _ hd
  constructor
  · intro z
    exact k (List.mem_filterMap.mpr ⟨_, List.mem_cons_self, hf.trans (congrArg some z.symm)⟩)
  · intro m
    obtain ⟨e, me, q⟩ := List.mem_filterMap.mp m
    exact k (List.mem_filterMap.mpr ⟨e, List.mem_cons_of_mem _ me, q⟩)
theorem Held.within (C : Held X pins σ H a cls d B sI s' h3) (hf : X.env.frame = some X.env.locals) : ∃ (oe : Obj), Zc cls d oe ∧ (∃ vs, oe.data = .fields vs) ∧ h3.get? a = some oe ∧ Inv (X.suite a ((a, oe) :: (X.pn ++ pins))) [] σ H { s' with heap := h3 } := by
  obtain ⟨oe, vs, he, hz, hd⟩ := C.fly.there
  obtain ⟨k1, k2⟩ := C.off hf
  exact ⟨oe, hz, ⟨vs, hd⟩, he, C.invAt.suite he hd C.na k1 k2⟩
/-- one clause -/
theorem clause_ok (hf : X.env.frame = some X.env.locals) (hN : X.N.Nodup) (hi : X.N[i]? = some n) (hln : X.env.kindOf n = some .local) (hc : Names X x c) (C : Held X pins σ H a cls d B sI s' h3)
    (hsu : ∀ (p : Addr) (oe : Obj) (cl : Value) (od : Option Addr) (pn : List (Addr × Obj)), Zc cl od oe → (∃ vs, oe.data = .fields vs) → PSs (X.suite p ((p, oe) :: pn)) (b₀ :: suite) (ts p cl od))
    (hm : PySem.W.exmOne X.K cls c = some b) (yes : b = true → ∀ p, H p = none → ts p cls d (gone i D) (σ.set i (some (.ref p))) H)
    (no : b = false → wpAny (model X.prog X.w) X.A (handleBy (.ref a) X.env rest) (SP X pins D) X.xe { s' with heap := h3 }) :
    wpAny (model X.prog X.w) X.A (handleBy (.ref a) X.env (.ExceptHandler (some (.Name x np)) (some n) (b₀ :: suite) qos :: rest)) (SP X pins D) X.xe { s' with heap := h3 } := by
  obtain ⟨oe, hz, ⟨vs, hd⟩, he, S⟩ := C.within hf
  refine wpAny_handleBy_cons (codeAny_handlers_test ?_) (fun q => by cases q)
  have looks : PySem.W.Looks (model X.prog X.w) h3 (typeOf (.ref a)) cls := by
    intro A Q E s k q
    refine wpAny_typeOf_ref (k _ _ he) ?_
    rw [hz.1]
    exact q
  have said := PySem.W.exm_one (M := model X.prog X.w) C.invAt.kIn looks hm
  have named : ∀ {Q E : Value → Shared → Prop}, Q c { s' with heap := h3 } → wpAny (model X.prog X.w) (X.A.mark (some (.ref a))) (eval (.Name x np) X.env) Q E { s' with heap := h3 } := by
    intro Q E q
    obtain ⟨g, dbg, k⟩ := hc
    rcases k with k | ⟨k, v, nn⟩
    · exact ld_glob (X := X.suite a ((a, oe) :: (X.pn ++ pins))) S g k q dbg
    · exact ld_blt (X := X.suite a ((a, oe) :: (X.pn ++ pins))) S g k v q nn dbg
  refine named (said.here ?_)
  cases b with
  | false => exact no rfl
  | true =>
    refine codeAny_handlers_suite_as (HandSPX.lands_againZ C.fly fun h4 fl4 up4 => ?_)
    have C4 : Held X pins σ H a cls d B sI s' h4 := ⟨C.inv, C.nb, fl4, C.up.trans up4, C.na, C.os, C.ag⟩
    obtain ⟨o4, z4, d4, _, S4⟩ := C4.within hf
    refine store_ok (X := X.suite a ((a, o4) :: (X.pn ++ pins))) (v := .ref a) S4 hN hi (.inl hln) rfl (fun s5 S5 => ?_) (.inr hln)
    refine wpAny_mono ((hsu a o4 cls d (X.pn ++ pins) z4 d4).run [] s5 _ H _ S5 (yes rfl a C.na)) (fun fl s6 done => ?_) (fun _ _ z => z.elim)
    have behind : ∀ {t : L2.St} {G : Hp} {Q : Shared → Prop}, Inv (X.suite a ((a, o4) :: (X.pn ++ pins))) [] t G s6 → (∀ s7, Inv X pins (t.set i none) G s7 → Q s7) →
        wpAny (model X.prog X.w) X.A (do bindName X.env n .none; unbindBehindTheSuite X.env n qos) (fun _ s7 => Q s7) X.xe s6 := fun I6 k => gone_ok (I6.unsuite C.inv.ok) hN hi hln k
    cases fl with
    | next =>
      obtain ⟨t, G, I6, q⟩ := done
      exact behind I6 fun s7 I7 => ⟨_, _, I7, q⟩
    | brk =>
      obtain ⟨t, G, I6, q⟩ := done
      exact behind I6 fun s7 I7 => ⟨_, _, I7, q⟩
    | cont =>
      obtain ⟨t, G, I6, q⟩ := done
      exact behind I6 fun s7 I7 => ⟨_, _, I7, q⟩
    | ret u =>
      obtain ⟨v, t, G, I6, r, q⟩ := done
      exact behind I6 fun s7 I7 => ⟨_, _, _, I7, r, q⟩
/-- no clause left -/
theorem pass_ok {W0 : WX} (hs : X.stack = X.env :: X.outer) (hf : X.env.frame = some X.env.locals) (tk : Takes X W0) (C : Held X pins σ H a cls d B sI s' h3) (w : W0 cls d σ H) :
    wpAny (model X.prog X.w) X.A (handleBy (.ref a) X.env []) (SP X pins D) X.xe { s' with heap := h3 } := by
  refine wpAny_handleBy_nil ?_
  have fly := C.fly
  obtain ⟨_, _, _, oe, vs, T, oT, us, he, hz, hd, h1, hr⟩ := id C.fly
  have last : wpAny (model X.prog X.w) X.A (setFlight (.ref a) X.env.frame) (fun _ z => wpAny (model X.prog X.w) X.A (throw (.ref a) : Sem Flow) (SP X pins D) X.xe z) X.xe { s' with heap := h3 } := by
    rw [hf]
    refine HandSPX.setFlight_upZ fly fun h4 held up4 => wpAny_throw (tk _ _ ⟨a, B, sI, pins, σ, H, cls, d, rfl, C.inv, C.nb, C.up.trans up4, ?_, C.na, C.os, C.ag, w⟩)
    rw [hs]
    exact .inr (.inr held)
  unfold PySem.passOn
  refine wpAny_bind (wpAny_field he hd h1 ?_)
  rw [if_neg (by simp : ¬ ((Value.ref T == Value.none) = true))]
  first
    | exact wpAny_bind (wpAny_pure (wpAny_bind last))
    | exact wpAny_bind last
end
section
variable {X : Cx} {i : Nat} {x1 x2 n : Str} {c1 c2 : Value} {b1 b2 : Stmt} {r1 r2 body : List Stmt} {p1 p2 q1 q2 pos : Pos} {t1 t2 : Addr → Value → Option Addr → TS} {tb : WX → TS} {W0 : WX}
theorem ps_two (hs : X.stack = X.env :: X.outer) (hf : X.env.frame = some X.env.locals) (hN : X.N.Nodup) (hi : X.N[i]? = some n) (hln : X.env.kindOf n = some .local) (h1 : Names X x1 c1) (h2 : Names X x2 c2) (tk : Takes X W0)
    (hb : ∀ (W : WX) (pn : List (Addr × Obj)) (xe : Value → Shared → Prop), Takes (X.tr pn xe) W → PassesOwn (model X.prog X.w) X.A X.env xe → PSs (X.tr pn xe) body (tb W))
    (k1 : ∀ (p : Addr) (oe : Obj) (cl : Value) (od : Option Addr) (pn : List (Addr × Obj)), Zc cl od oe → (∃ vs, oe.data = .fields vs) → PSs (X.suite p ((p, oe) :: pn)) (b1 :: r1) (t1 p cl od))
    (k2 : ∀ (p : Addr) (oe : Obj) (cl : Value) (od : Option Addr) (pn : List (Addr × Obj)), Zc cl od oe → (∃ vs, oe.data = .fields vs) → PSs (X.suite p ((p, oe) :: pn)) (b2 :: r2) (t2 p cl od)) :
    PS X (.Try body [.ExceptHandler (some (.Name x1 p1)) (some n) (b1 :: r1) q1, .ExceptHandler (some (.Name x2 p2)) (some n) (b2 :: r2) q2] [] [] pos) (fun D σ H => tb (wAs X.K c1 i t1 (wAs X.K c2 i t2 W0 D) D) D σ H) := by
  constructor
  intro pins s σ H D I h
  have ok := I.ok
  refine wpAny_Try_except (wpAny_mono ((hb _ (X.pn ++ pins) (fun v z => wpAny (model X.prog X.w) X.A (noteFrame v X.env) (fun _ z => wpAny (model X.prog X.w) X.A (setFlight v none) (fun _ z =>
    wpAny (model X.prog X.w) X.A (handleBy v X.env [.ExceptHandler (some (.Name x1 p1)) (some n) (b1 :: r1) q1, .ExceptHandler (some (.Name x2 p2)) (some n) (b2 :: r2) q2]) (SP X pins D) X.xe z) X.xe z) X.xe z) ?_ PassesOwn.looking).run [] s σ H D (I.toTry _) h) (fun fl s1 done => ?_) (fun _ _ z => z))
  · intro u s' caught
    obtain ⟨a, B, sI, pins', t, G, cls, d, rfl, J', nb, up, sky, na, os, ag, b, m1, yes1, no1⟩ := caught
    have sky : Sky B (X.env :: X.outer) a (Zc cls d) X.env.locals s'.heap := hs ▸ sky
    refine Sky.land (A := X.A) (env := X.env) (outer := X.outer) Zc.steady (by rw [ok.frames, hs]) hf sky fun h3 fl3 up3 => ?_
    have C : Held X pins t G a cls d B sI s' h3 := ⟨J'.ofTry ok, nb, fl3, up.trans up3, na, os, ag⟩
    refine clause_ok hf hN hi hln h1 C k1 m1 yes1 fun e => ?_
    obtain ⟨b', m2, yes2, no2⟩ := no1 e
    exact clause_ok hf hN hi hln h2 C k2 m2 yes2 fun e' => pass_ok hs hf tk C (no2 e')
  · cases fl with
    | next =>
      obtain ⟨t, G, J, q⟩ := done
      exact wpAny_execs_nil ⟨t, G, J.ofTry ok, q⟩
    | brk =>
      obtain ⟨t, G, J, q⟩ := done
      exact ⟨t, G, J.ofTry ok, q⟩
    | cont =>
      obtain ⟨t, G, J, q⟩ := done
      exact ⟨t, G, J.ofTry ok, q⟩
    | ret u =>
      obtain ⟨v, t, G, J, r, q⟩ := done
      exact ⟨v, t, G, J.ofTry ok, r, q⟩
end
end RX
namespace RD
open PySem PySem.Spec PyProof.Rows L2 RX RT
open Tote (Bytes numberOf ascii badByte Fault Came)
open RM (cardP RInv)
abbrev sDayF : Stmt := top 49
theorem card_few {b : Bytes} {C : Tote.Card} (h : cardP b = some C) : C.races.length ≤ 16 := by
  unfold RM.cardP at h
  split at h
  · cases h
  · split at h
    · split at h
      · cases h
      · obtain ⟨_, _, h⟩ := Option.bind_eq_some_iff.mp h
        obtain ⟨D, _, h⟩ := Option.bind_eq_some_iff.mp h
        split at h
        · rename_i q
          cases h
          unfold RM.fits at q
          simp only [Bool.and_eq_true, decide_eq_true_eq] at q
          exact q.2.1
        · cases h
    · cases h
/-- a day stands at x -/
def DayAt (D : Ad) (H : Hp) (x : Addr) (C : Tote.Card) (h : List Came) : Prop := ∃ dx ra pa ar, H x = some (.ins D.cD dx (three "races" "pools" "arrivals" (.ref ra) (.ref pa) (.ref ar))) ∧ RacesAt D.cRc H ra C.races ∧ PoolsAt D.cPl H pa C.pools ∧ ArrsAt D.cA H ar h
theorem DayAt.on {D : Ad} {H H' : Hp} {x : Addr} {C : Tote.Card} {h : List Came} (d : DayAt D H x C h) (s : Same H H') : DayAt D H' x C h := by
  obtain ⟨dx, ra, pa, ar, e, h1, h2, h3⟩ := d
  exact ⟨dx, ra, pa, ar, s _ _ e, h1.on s, h2.on s, h3.on s⟩
def spDayF (K : PySem.W.Frag) (D : Ad) : Sp := fun vs H Q E => ∃ (a r : Addr) (t u : Bytes), vs = [.ref a, .ref r] ∧ SqL K H a (byV t) ∧ SqL K H r (byV u) ∧
  (65536 < t.length ∨ 65536 < u.length → Fails D.cTL (codeF (-2)) H E) ∧
  (t.length ≤ 65536 → u.length ≤ 65536 → (cardP t = none → NoC D H E) ∧ ∀ C, cardP t = some C → (∀ r ∈ C.races, RInv r) → (∀ x : Fault, C.readResult u = .error x → Flt D x.kind x.place H E) ∧
    ∀ h, C.readResult u = .ok h → ∀ H' x, Same H H' → H x = none → DayAt D H' x C h → Q (.ref x) H')
section
variable {P : Program} {w : World} {K : PySem.W.Frag} {mg : Str → Option Value} {base : Heap} {D : Ad}
theorem scDayF : FnScope ["card", "result", "read"] ["card", "result"] (defScope sDayF) := ⟨rfl, rfl, rfl, by decide +kernel, rfl, by decide +kernel, by decide +kernel⟩
theorem ok_dayF {f : Addr} {fd : FuncData} (F : Fun K "read_day" "read_day" sDayF f fd) (Tl : TxLen mg) (gL : ∃ t, mg "LONGEST" = some (.int 65536 t)) (cT : Err0 P w K mg base "TooLong" D.cTL (-2)) (cC : Cal P w K mg base (L2.CX P w) 7 "read_card" ["data"] (spCard K D)) (cR : Cal P w K mg base (L2.CX P w) 7 "read_result" ["data", "races"] (spRes K D))
    (Tc : TxCd K D.cCd) (mD : Mak P w K mg base "Day" D.cD ["self", "races", "pools", "arrivals"] (spIn3 D.cD "races" "pools" "arrivals")) : FnOk P w K mg base (L2.CX P w) 8 f fd ["card", "result"] (spDayF K D) := by
  obtain ⟨tL, gL⟩ := gL
  refine F.okX scDayF (fun vs H Q E h => ?_) (fun cdv A outer s H vs Q E hr h => ?_)
  · obtain ⟨a, r, t, u, rfl, _⟩ := h
    rfl
  · obtain ⟨a, r, t, u, rfl, hT, hU, k1, k2⟩ := h
    refine ⟨_, pss_cons (ps_if (PW.pt (pw_or (pt_cmpR op_gt (pe_callB call_len_seq (by rfl) Tl.len PySem.boot_len (pa_cons (pv 0) pa_nil)) (pe_glob (v := .int 65536) rfl gL ⟨_, rfl⟩) (nomark _)) (pw_or1 (pt_cmpR op_gt (pe_callB call_len_seq (by rfl) Tl.len PySem.boot_len (pa_cons (pv 1) pa_nil)) (pe_glob (v := .int 65536) rfl gL ⟨_, rfl⟩) (nomark _))))) (pss_one (ps_err cT rfl hr (by decide) (takes_of rfl rfl rfl rfl) rfl)) pss_nil)
      (pss_cons (ps_set (i := 2) scDayF.nd rfl (Or.inl rfl) (by exact (pe_cx cC hr (by decide) (takes_of rfl rfl rfl rfl) rfl (by exact (pa_cons (pv 0) pa_nil)))))
      (pss_one (ps_ret (by exact (pe_mk mD hr (by decide) rfl (by exact (pa_cons (pe_fld (pv 2) rfl) (pa_cons (pe_fld (pv 2) rfl) (pa_cons (by exact (pe_cx cR hr (by decide) (takes_of rfl rfl rfl rfl) rfl (by exact (pa_cons (pv 1) (pa_cons (pe_fld (pv 2) rfl) pa_nil))))) pa_nil))))))))), ?_⟩
    have lt : (byV t).length = t.length := List.length_map ..
    have lu : (byV u).length = u.length := List.length_map ..
    refine ⟨_, rfl, a, _, rfl, .inl hT, _, _, rfl, rfl, _, rfl, ?_⟩
    rw [lt]
    refine ite2 (fun h => ?_) (fun h1 => ?_)
    · exact k1 (.inl (by have := of_decide_eq_true h; omega))
    have h1 := of_decide_eq_false (Bool.eq_false_iff.mpr h1)
    refine ⟨_, rfl, r, _, rfl, .inl hU, _, _, rfl, rfl, _, rfl, ?_⟩
    rw [lu]
    refine ite2 (fun h => ?_) (fun h2 => ?_)
    · exact k1 (.inr (by have := of_decide_eq_true h; omega))
    have h2 := of_decide_eq_false (Bool.eq_false_iff.mpr h2)
    obtain ⟨k2, k3⟩ := k2 (by omega) (by omega)
    refine ⟨_, rfl, a, t, rfl, hT, by omega, fun C hC hRI H1 xc s1 nxc hCA => ?_, fun hno => k2 hno⟩
    obtain ⟨dxc, ra, pa, exc, hRA, hPA⟩ := hCA
    obtain ⟨k3, k4⟩ := k3 C hC hRI
    have fr : (two "races" "pools" (V.ref ra) (V.ref pa)).lookup ("races" : Str) = some (.ref ra) := rfl
    have fp : (two "races" "pools" (V.ref ra) (V.ref pa)).lookup ("pools" : Str) = some (.ref pa) := rfl
    refine ⟨_, rfl, xc, _, dxc, _, _, rfl, exc, Tc.cl, Tc.n1, fr, _, rfl, xc, _, dxc, _, _, rfl, exc, Tc.cl, Tc.n2, fp, _, rfl, _, rfl, xc, _, dxc, _, _, rfl, exc, Tc.cl, Tc.n1, fr, r, ra, u, C, rfl, s1.seq hU, (by omega), hRA, hRI, Nat.le_trans (card_few hC) (by decide), fun h hh H2 ar s2 nar hAr => ?_, fun x hx => (k3 x hx).mono s1⟩
    intro x dx nx nd ndx
    refine ⟨x, dx, _, _, _, rfl, upd_same, fun H3 hx hb => ⟨rfl, ?_⟩⟩
    have s3 := Same.made nx nd fun b o e hb' => hb b o e hb'
    exact k4 h hh H3 x ((s1.trans s2).trans s3) ((s1.trans s2).free nx) ⟨dx, ra, pa, ar, hx, (hRA.on s2).on s3, (hPA.on s2).on s3, hAr.on s3⟩
end
end RD
namespace RD
open PySem PySem.Spec PyProof.Rows L2 RX RT
open Tote (Bytes numberOf ascii badByte Fault Came)
open RM (cardP RInv)
abbrev sJud : Stmt := top 50
/-- n of the caught error a, of whatever class it is -/
def tXa (K : PySem.W.Frag) (a : Addr) (cls : Value) (d : Option Addr) (n : Str) (te : TE) : TE := fun σ H Q => te σ H fun x H1 => x = .ref a ∧ ∃ (C dd : Addr) (fs : List (Str × V)) (v : V), cls = .ref C ∧ XfC K C ∧ PySem.W.findIn K (.ref C) n = some none ∧ d = some dd ∧ H1 dd = some (.xd fs) ∧ fs.lookup n = some v ∧ Q v H1
theorem pe_xa {X : Cx} {a : Addr} {oe : Obj} {cls : Value} {d : Option Addr} {pn : List (Addr × Obj)} {e : Expr} {i : Nat} {pos : Pos} {n : Str} (hz : Zc cls d oe) (hf : ∃ vs, oe.data = .fields vs) (he : PE (X.suite a ((a, oe) :: pn)) e (tVar i)) (hb : attributeBase e n X.env (eval e X.env) = eval e X.env := by rfl) :
    PE (X.suite a ((a, oe) :: pn)) (.Attribute e n pos) (tXa X.K a cls d n (tVar i)) := by
  refine ⟨fun pins s σ H Q I h => ?_⟩
  obtain ⟨v, hv, hx, C, dd, fs, y, hc, T, hno, rest⟩ := h
  exact (pe_xf (C := C) T hno hz hf he hb).run pins s σ H Q I ⟨v, hv, hx, hc, dd, fs, y, rest⟩
/-- the errors as they're caught -/
structure TxE (K : PySem.W.Frag) (mg : Str → Option Value) (D : Ad) : Prop where
  gF : mg "Faulty" = some (.ref D.cF)
  gR : mg "Refusal" = some (.ref D.cR)
  fF : PySem.W.exmOne K (.ref D.cF) (.ref D.cF) = some true
  tF : PySem.W.exmOne K (.ref D.cTL) (.ref D.cF) = some false
  tR : PySem.W.exmOne K (.ref D.cTL) (.ref D.cR) = some true
  nF : PySem.W.exmOne K (.ref D.cNC) (.ref D.cF) = some false
  nR : PySem.W.exmOne K (.ref D.cNC) (.ref D.cR) = some true
  xF : XfC K D.cF
  xT : XfC K D.cTL
  xN : XfC K D.cNC
  kF : PySem.W.findIn K (.ref D.cF) "kind" = some none
  pF : PySem.W.findIn K (.ref D.cF) "place" = some none
  cT : PySem.W.findIn K (.ref D.cTL) "code" = some none
  cN : PySem.W.findIn K (.ref D.cNC) "code" = some none
/-- what judge says -/
def judgeL (t u : Bytes) : List Int := if 65536 < t.length ∨ 65536 < u.length then [-2] else match cardP t with
  | none => [-8]
  | some C => match C.readResult u with
    | .error x => [-6, x.kind, x.place]
    | .ok _ => [0]
def spJud (K : PySem.W.Frag) : Sp := fun vs H Q _ => ∃ (a r : Addr) (t u : Bytes), vs = [.ref a, .ref r] ∧ SqL K H a (byV t) ∧ SqL K H r (byV u) ∧ ∀ H' p, H' p = some (.lst ((judgeL t u).map V.int)) → Q (.ref p) H'
section
variable {P : Program} {w : World} {K : PySem.W.Frag} {mg : Str → Option Value} {base : Heap} {D : Ad}
theorem scJud : FnScope ["card", "result", "e"] ["card", "result"] (defScope sJud) := ⟨rfl, rfl, rfl, by decide +kernel, rfl, by decide +kernel, by decide +kernel⟩
theorem ok_jud {f : Addr} {fd : FuncData} (F : Fun K "judge" "judge" sJud f fd) (Te : TxE K mg D) (cD : Cal P w K mg base (L2.CX P w) 8 "read_day" ["card", "result"] (spDayF K D)) : FnOk P w K mg base CX0 9 f fd ["card", "result"] (spJud K) := by
  refine F.ok scJud (fun vs H Q E h => ?_) (fun cdv A outer s H vs Q E hr h => ?_)
  · obtain ⟨a, r, t, u, rfl, _⟩ := h
    rfl
  · obtain ⟨a, r, t, u, rfl, hT, hU, k⟩ := h
    refine ⟨_, pss_cons (ps_two (i := 2) rfl rfl scJud.nd rfl rfl ⟨rfl, by decide, .inl Te.gF⟩ ⟨rfl, by decide, .inl Te.gR⟩ takes_none5
        (fun W pn xe tk _ => pss_one (ps_expr (by exact (pe_cx cD hr (by decide) tk rfl (by exact (pa_cons (pv 0) (pa_cons (pv 1) pa_nil)))))))
        (fun q oe cls d pn hz hf => pss_one (ps_ret (pe_lst (pa_cons (pe_un un_neg pe_int) (pa_cons (pe_xa hz hf (pv 2)) (pa_cons (pe_xa hz hf (pv 2)) pa_nil))))))
        (fun q oe cls d pn hz hf => pss_one (ps_ret (pe_lst (pa_cons (pe_xa hz hf (pv 2)) pa_nil)))))
      (pss_one (ps_ret (pe_lst (pa_cons pe_int pa_nil)))), ?_⟩
    have one : ∀ {H' : Hp} {p : Addr} {l : List Int}, judgeL t u = l → upd H' p (.lst (l.map V.int)) p = some (.lst ((judgeL t u).map V.int)) := fun h => by rw [upd_same, h]
    refine ⟨_, rfl, _, rfl, a, r, t, u, rfl, hT, hU, fun h => ?_, fun h1 h2 => ⟨fun hno => ?_, fun C hC hRI => ⟨fun x hx => ?_, fun h hh H' x s' nx hDA => ?_⟩⟩⟩
    · intro d H' s' e
      have z : judgeL t u = [-2] := if_pos h
      exact ⟨false, Te.tF, (fun q => nomatch q), fun _ => ⟨true, Te.tR, fun _ p np => ⟨_, rfl, rfl, D.cTL, d, _, _, rfl, Te.xT, Te.cT, rfl, e, rfl, (by show 1 ≤ sizeLine; decide), fun p' np' => k _ p' (one z)⟩, fun q => nomatch q⟩⟩
    · intro d H' s' e
      have z : judgeL t u = [-8] := by
        unfold judgeL
        rw [if_neg (by omega), hno]
      exact ⟨false, Te.nF, (fun q => nomatch q), fun _ => ⟨true, Te.nR, fun _ p np => ⟨_, rfl, rfl, D.cNC, d, _, _, rfl, Te.xN, Te.cN, rfl, e, rfl, (by show 1 ≤ sizeLine; decide), fun p' np' => k _ p' (one z)⟩, fun q => nomatch q⟩⟩
    · intro d H' s' e
      have z : judgeL t u = [-6, (x.kind : Int), (x.place : Int)] := by
        unfold judgeL
        rw [if_neg (by omega), hC]
        dsimp only
        rw [hx]
      exact ⟨true, Te.fF, fun _ p np => ⟨_, rfl, _, rfl, rfl, D.cF, d, _, _, rfl, Te.xF, Te.kF, rfl, e, rfl, _, rfl, rfl, D.cF, d, _, _, rfl, Te.xF, Te.pF, rfl, e, rfl, (by show 3 ≤ sizeLine; decide), fun p' np' => k _ p' (one z)⟩, fun q => nomatch q⟩
    · have z : judgeL t u = [0] := by
        unfold judgeL
        rw [if_neg (by omega), hC]
        dsimp only
        rw [hh]
      exact ⟨(by show 1 ≤ sizeLine; decide), fun p' np' => k _ p' (one z)⟩
end
/-! ### what the document says -/
theorem judge_is (card result : List Int) : PyWqaqcn.judge card result = judgeL (ResultNeutral.text card) (ResultNeutral.text result) := by
  show (let a := ToteResultCalls.answer (.judge (ResultNeutral.text card) (ResultNeutral.text result)); a.code :: a.nums) = _
  generalize ResultNeutral.text card = t
  generalize ResultNeutral.text result = u
  have hc := RM.card_is t
  unfold judgeL
  have ea : ToteResultCalls.answer (.judge t u) = if Tote.TEXT < u.length then Tote.says (-2) else Tote.ofCard t fun C => match C.readResult u with
    | .error e => ⟨-6, [(e.kind : Int), (e.place : Int)]⟩
    | .ok _ => Tote.says 0 := rfl
  rw [ea]
  dsimp only
  have tx : Tote.TEXT = 65536 := rfl
  rw [tx]
  by_cases hu : 65536 < u.length
  · rw [if_pos hu, if_pos (.inr hu)]
    rfl
  rw [if_neg hu]
  unfold Tote.ofCard
  rw [tx]
  by_cases ht : 65536 < t.length
  · rw [if_pos ht, if_pos (.inl ht)]
    rfl
  rw [if_neg ht, if_neg (by rintro (h | h); exact ht h; exact hu h), ← hc]
  cases Tote.readCard t with
  | error e => rfl
  | ok C =>
    show _ = (match C.readResult u with | .error x => ([-6, (x.kind : Int), (x.place : Int)] : List Int) | .ok _ => [0])
    dsimp only
    cases C.readResult u <;> rfl
end RD
namespace RD
open PySem PySem.Spec PyProof.Rows L2 RX RT
open Tote (Bytes numberOf ascii badByte Fault Came leastK mostK)
open RM (cardP RInv kindT)
/-- a written tuple of texts, of ints; a written dict of texts to references -/
def strS : List Value → Option (List Str)
  | [] => some []
  | .str x _ :: r => (strS r).map fun l => x :: l
  | _ => none
def intS : List Value → Option (List Int)
  | [] => some []
  | .int x _ :: r => (intS r).map fun l => x :: l
  | _ => none
def seqS (o : Obj) : Option (List Value) := match o.cls, o.data with
  | .type t, .seq its _ => if t = "tuple" ∧ its.size ≤ 1000 then some its.toList else none
  | _, _ => none
def tupS (o : Obj) : Option (List Str) := (seqS o).bind strS
def tupI (o : Obj) : Option (List Int) := (seqS o).bind intS
def kdL : List DictEntry → Option (List (Str × Addr))
  | [] => some []
  | e :: r => match e.key, e.val with
    | .str x _, .ref p => (kdL r).map fun l => (x, p) :: l
    | _, _ => none
def kdS (es : Array DictEntry) : Option (List (Str × Addr)) := kdL es.toList
theorem seqS_ok {o : Obj} {l : List Value} (h : seqS o = some l) : ∃ its n, o.cls = .type "tuple" ∧ o.data = .seq its n ∧ its.size ≤ sizeLine ∧ its.toList = l := by
  unfold seqS at h
  split at h
  · rename_i t its n e1 e2
    split at h
    · rename_i q
      cases h
      exact ⟨its, n, by rw [e1, q.1], e2, Nat.le_trans q.2 (by decide), rfl⟩
    · cases h
  · cases h
theorem strS_ok : ∀ {l : List Value} {xs : List Str}, strS l = some xs → Vals (xs.map V.str) l
  | [], _, h => by cases h; exact .nil
  | .str x t :: r, xs, h => by
    obtain ⟨l, hl, rfl⟩ := Option.map_eq_some_iff.mp h
    exact .cons ⟨t, rfl⟩ (strS_ok hl)
  | .none :: _, _, h => by cases h
  | .bool _ :: _, _, h => by cases h
  | .int _ _ :: _, _, h => by cases h
  | .float _ _ :: _, _, h => by cases h
  | .bytes _ _ :: _, _, h => by cases h
  | .ref _ :: _, _, h => by cases h
  | .type _ :: _, _, h => by cases h
  | .builtin _ :: _, _, h => by cases h
theorem intS_ok : ∀ {l : List Value} {xs : List Int}, intS l = some xs → Vals (xs.map V.int) l
  | [], _, h => by cases h; exact .nil
  | .int x t :: r, xs, h => by
    obtain ⟨l, hl, rfl⟩ := Option.map_eq_some_iff.mp h
    exact .cons ⟨t, rfl⟩ (intS_ok hl)
  | .none :: _, _, h => by cases h
  | .bool _ :: _, _, h => by cases h
  | .str _ _ :: _, _, h => by cases h
  | .float _ _ :: _, _, h => by cases h
  | .bytes _ _ :: _, _, h => by cases h
  | .ref _ :: _, _, h => by cases h
  | .type _ :: _, _, h => by cases h
  | .builtin _ :: _, _, h => by cases h
theorem tupS_ok {K : PySem.W.Frag} {a : Addr} {o : Obj} {xs : List Str} (l : K.lookup a = some o) (h : tupS o = some xs) (H : Hp) : SqT K H a (xs.map V.str) := by
  obtain ⟨l', h1, h2⟩ := Option.bind_eq_some_iff.mp h
  obtain ⟨its, n, e1, e2, e3, e4⟩ := seqS_ok h1
  exact .inr ⟨o, its, n, l, e1, e2, e3, by rw [e4]; exact strS_ok h2⟩
theorem tupI_ok {K : PySem.W.Frag} {a : Addr} {o : Obj} {xs : List Int} (l : K.lookup a = some o) (h : tupI o = some xs) (H : Hp) : SqT K H a (xs.map V.int) := by
  obtain ⟨l', h1, h2⟩ := Option.bind_eq_some_iff.mp h
  obtain ⟨its, n, e1, e2, e3, e4⟩ := seqS_ok h1
  exact .inr ⟨o, its, n, l, e1, e2, e3, by rw [e4]; exact intS_ok h2⟩
theorem kdL_ok : ∀ {es : List DictEntry} {l : List (Str × Addr)} (z : Str), kdL es = some l → es.any (fun e => e.refKey) = false ∧ (es.find? (fun e => e.key.isStr z)).map (fun e => e.val) = (l.find? fun p => p.1 == z).map fun p => Value.ref p.2
  | [], _, _, h => by cases h; exact ⟨rfl, rfl⟩
  | e :: r, l, z, h => by
    unfold kdL at h
    split at h
    · rename_i x t p ek ev
      obtain ⟨l', hl, rfl⟩ := Option.map_eq_some_iff.mp h
      obtain ⟨i1, i2⟩ := kdL_ok z hl
      have e1 : e.refKey = false := by unfold DictEntry.refKey; rw [ek]
      have e2 : e.key.isStr z = (x == z) := by rw [ek]; rfl
      refine ⟨by rw [List.any_cons, e1, i1]; rfl, ?_⟩
      rw [List.find?_cons, List.find?_cons, e2]
      cases x == z with
      | true =>
        show some e.val = some (Value.ref p)
        rw [ev]
      | false => exact i2
    · cases h
theorem kd_ns {K : PySem.W.Frag} {a : Addr} {es : Array DictEntry} {n : Nat} {l : List (Str × Addr)} (hK : K.lookup a = some ⟨.type "dict", none, .dict es n, #[]⟩) (h : kdS es = some l) (z : Str) : PySem.W.nsIn K a z = some ((l.find? fun p => p.1 == z).map fun p => Value.ref p.2) := by
  obtain ⟨h1, h2⟩ := kdL_ok z h
  unfold PySem.W.nsIn
  rw [hK]
  dsimp only
  rw [← h2]
  cases es.toList.find? (fun e => e.key.isStr z) with
  | some e => rfl
  | none =>
    show (if (es.toList.any fun e => e.refKey) = true then none else some none) = _
    rw [h1]
    rfl
theorem kind_cases (kd : Bytes) : (kd = ascii "place" ∧ kindT kd = some .place) ∨ (kd = ascii "order" ∧ kindT kd = some .order) ∨ (kd = ascii "any" ∧ kindT kd = some .any) ∨ (kd = ascii "legs" ∧ kindT kd = some .legs) ∨
    (¬ kd = ascii "place" ∧ ¬ kd = ascii "order" ∧ ¬ kd = ascii "any" ∧ ¬ kd = ascii "legs" ∧ kindT kd = none) := by
  by_cases h1 : kd = ascii "place"
  · subst h1; exact .inl ⟨rfl, by decide⟩
  by_cases h2 : kd = ascii "order"
  · subst h2; exact .inr (.inl ⟨rfl, by decide⟩)
  by_cases h3 : kd = ascii "any"
  · subst h3; exact .inr (.inr (.inl ⟨rfl, by decide⟩))
  by_cases h4 : kd = ascii "legs"
  · subst h4; exact .inr (.inr (.inr (.inl ⟨rfl, by decide⟩)))
  refine .inr (.inr (.inr (.inr ⟨h1, h2, h3, h4, ?_⟩)))
  unfold RM.kindT
  rw [Option.map_eq_none_iff, List.find?_eq_none]
  intro y hy e
  have e := eq_of_beq e
  have : ∀ y ∈ Tote.KINDS, ascii y.2 = ascii "place" ∨ ascii y.2 = ascii "order" ∨ ascii y.2 = ascii "any" ∨ ascii y.2 = ascii "legs" := by decide
  rcases this y hy with q | q | q | q
  · exact h1 (e.symm.trans q)
  · exact h2 (e.symm.trans q)
  · exact h3 (e.symm.trans q)
  · exact h4 (e.symm.trans q)
theorem key_T {s : String} {v : Bytes} (h : v.all told = true) (e : Str.ofString s = SX.S (v.map UInt8.toNat)) (w : Bytes) : (Str.ofString s == T w) = decide (w = v) := by
  have := T_lit (s := s) (v := v) h e w
  by_cases q : w = v
  · rw [decide_eq_true q, ← this.mpr q]
    exact beq_self_eq_true _
  · rw [decide_eq_false q]
    exact beq_eq_false_iff_ne.mpr fun z => q (this.mp z.symm)
theorem kinds_ok {w : World} {K : PySem.W.Frag} {mg : Str → Option Value} {a p1 p2 p3 p4 : Addr} {es : Array DictEntry} {n : Nat} {o1 o2 o3 o4 : Obj} (hm : mg "KINDS" = some (.ref a)) (hK : K.lookup a = some ⟨.type "dict", none, .dict es n, #[]⟩) (hl : PySem.W.KeysLit w.params es.toList) (hs : (a == sysModules) = false)
    (hd : kdS es = (some [("place", p1), ("order", p2), ("any", p3), ("legs", p4)] : Option (List (Str × Addr)))) (l1 : K.lookup p1 = some o1) (l2 : K.lookup p2 = some o2) (l3 : K.lookup p3 = some o3) (l4 : K.lookup p4 = some o4)
    (q1 : tupI o1 = some [1, 4]) (q2 : tupI o2 = some [2, 4]) (q3 : tupI o3 = some [2, 3]) (q4 : tupI o4 = some [2, 6]) : TxK w K mg := by
  have t1 := key_T (s := "place") (v := ascii "place") (by decide) (by decide +kernel)
  have t2 := key_T (s := "order") (v := ascii "order") (by decide) (by decide +kernel)
  have t3 := key_T (s := "any") (v := ascii "any") (by decide) (by decide +kernel)
  have t4 := key_T (s := "legs") (v := ascii "legs") (by decide) (by decide +kernel)
  have ns : ∀ kd : Bytes, PySem.W.nsIn K a (T kd) = some (if kd = ascii "place" then some (.ref p1) else if kd = ascii "order" then some (.ref p2) else if kd = ascii "any" then some (.ref p3) else if kd = ascii "legs" then some (.ref p4) else none) := by
    intro kd
    rw [kd_ns hK hd]
    simp only [List.find?_cons, List.find?_nil, t1, t2, t3, t4]
    by_cases h1 : kd = ascii "place"
    · simp [h1]
    by_cases h2 : kd = ascii "order"
    · rw [if_neg h1, if_pos h2, decide_eq_false h1, decide_eq_true h2]; rfl
    by_cases h3 : kd = ascii "any"
    · rw [if_neg h1, if_neg h2, if_pos h3, decide_eq_false h1, decide_eq_false h2, decide_eq_true h3]; rfl
    by_cases h4 : kd = ascii "legs"
    · rw [if_neg h1, if_neg h2, if_neg h3, if_pos h4, decide_eq_false h1, decide_eq_false h2, decide_eq_false h3, decide_eq_true h4]; rfl
    rw [if_neg h1, if_neg h2, if_neg h3, if_neg h4, decide_eq_false h1, decide_eq_false h2, decide_eq_false h3, decide_eq_false h4]; rfl
  refine ⟨a, es, n, hm, ⟨hK, hl, hs⟩, fun kd hk => ?_, fun kd k hk => ?_⟩
  · rcases kind_cases kd with ⟨_, h⟩ | ⟨_, h⟩ | ⟨_, h⟩ | ⟨_, h⟩ | ⟨h1, h2, h3, h4, _⟩
    · rw [h] at hk; cases hk
    · rw [h] at hk; cases hk
    · rw [h] at hk; cases hk
    · rw [h] at hk; cases hk
    · rw [ns, if_neg h1, if_neg h2, if_neg h3, if_neg h4]
  · rw [ns]
    rcases kind_cases kd with ⟨rfl, h⟩ | ⟨rfl, h⟩ | ⟨rfl, h⟩ | ⟨rfl, h⟩ | ⟨_, _, _, _, h⟩
    · rw [h] at hk; cases hk
      exact ⟨p1, by rw [if_pos rfl], fun H => tupI_ok l1 q1 H⟩
    · rw [h] at hk; cases hk
      exact ⟨p2, by rw [if_neg (by decide), if_pos rfl], fun H => tupI_ok l2 q2 H⟩
    · rw [h] at hk; cases hk
      exact ⟨p3, by rw [if_neg (by decide), if_neg (by decide), if_pos rfl], fun H => tupI_ok l3 q3 H⟩
    · rw [h] at hk; cases hk
      exact ⟨p4, by rw [if_neg (by decide), if_neg (by decide), if_neg (by decide), if_pos rfl], fun H => tupI_ok l4 q4 H⟩
    · rw [h] at hk; cases hk
theorem exm_of {K : PySem.W.Frag} {t C : Addr} {b : Bool} (h1 : PySem.W.subIn K (.ref C) (.type "BaseException") = some true) (h2 : PySem.W.isClsIn K C = true) (h3 : PySem.W.typeIn K (.ref C) = some (.type "type")) (h4 : PySem.W.subIn K (.ref t) (.ref C) = some b) : PySem.W.exmOne K (.ref t) (.ref C) = some b := by
  have h2 : (PySem.W.clsIn K C).isSome = true := h2
  unfold PySem.W.exmOne
  rw [h1]
  refine (if_pos (by rfl)).trans ?_
  unfold PySem.W.kitCls
  dsimp only
  rw [h2, h3]
  exact (if_pos (by rfl)).trans h4
theorem marks_V : ((["from", "take", "break", "least", "unit", "none"] : List Str)).map V.str = marks.map fun w => V.str (T w) := by decide +kernel
theorem nones_V : ((["refund", "carry", "fewer"] : List Str)).map V.str = nones.map fun w => V.str (T w) := by decide +kernel
theorem all_mk {P : Program} {w : World} {K : PySem.W.Frag} {h : Heap} {mg : Str → Option Value} {fa : Addr} (X : K.In h) (G : h.Ns mainGlobals mg) (hfa : mg "judge" = some (.ref fa))
    {f_dec f_bnd f_spl f_sig f_the f_end f_rno f_run f_cam f_arv f_res f_num f_nam f_dyc f_rc f_rr f_lst f_knd f_poo f_crd f_day f_jud C_W f_iW C_A f_iA C_Dy f_iDy C_R f_iR C_Pl f_iPl C_Cd f_iCd f_ints f_coup f_unc C_B f_iB C_T f_iT C_N f_iN C_F f_iF T_MARKS T_NONES T_KINDS p_K1 p_K2 p_K3 p_K4 : Addr}
    {od_dec an_dec od_bnd an_bnd od_spl an_spl od_sig an_sig od_the an_the od_end an_end od_rno an_rno od_run an_run od_cam an_cam od_arv an_arv od_res an_res od_num an_num od_nam an_nam od_dyc an_dyc od_rc an_rc od_rr an_rr od_lst an_lst od_knd an_knd od_poo an_poo od_crd an_crd od_day an_day od_jud an_jud od_iW an_iW od_iA an_iA od_iDy an_iDy od_iR an_iR od_iPl an_iPl od_iCd an_iCd od_ints an_ints od_coup an_coup od_unc an_unc od_iB an_iB od_iT an_iT od_iN an_iN od_iF an_iF : Option Addr}
    {sl_dec sl_bnd sl_spl sl_sig sl_the sl_end sl_rno sl_run sl_cam sl_arv sl_res sl_num sl_nam sl_dyc sl_rc sl_rr sl_lst sl_knd sl_poo sl_crd sl_day sl_jud sl_iW sl_iA sl_iDy sl_iR sl_iPl sl_iCd sl_ints sl_coup sl_unc sl_iB sl_iT sl_iN sl_iF : Array (Option Value)}
    {oc_dec kV_dec dc_dec pm_dec cd_dec ct_dec oc_bnd kV_bnd dc_bnd pm_bnd cd_bnd ct_bnd oc_spl kV_spl dc_spl pm_spl cd_spl ct_spl oc_sig kV_sig dc_sig pm_sig cd_sig ct_sig oc_the kV_the dc_the pm_the cd_the ct_the oc_end kV_end dc_end pm_end cd_end ct_end oc_rno kV_rno dc_rno pm_rno cd_rno ct_rno oc_run kV_run dc_run pm_run cd_run ct_run oc_cam kV_cam dc_cam pm_cam cd_cam ct_cam oc_arv kV_arv dc_arv pm_arv cd_arv ct_arv oc_res kV_res dc_res pm_res cd_res ct_res oc_num kV_num dc_num pm_num cd_num ct_num oc_nam kV_nam dc_nam pm_nam cd_nam ct_nam oc_dyc kV_dyc dc_dyc pm_dyc cd_dyc ct_dyc oc_rc kV_rc dc_rc pm_rc cd_rc ct_rc oc_rr kV_rr dc_rr pm_rr cd_rr ct_rr oc_lst kV_lst dc_lst pm_lst cd_lst ct_lst oc_knd kV_knd dc_knd pm_knd cd_knd ct_knd oc_poo kV_poo dc_poo pm_poo cd_poo ct_poo oc_crd kV_crd dc_crd pm_crd cd_crd ct_crd oc_day kV_day dc_day pm_day cd_day ct_day oc_jud kV_jud dc_jud pm_jud cd_jud ct_jud oc_iW kV_iW dc_iW pm_iW cd_iW ct_iW oc_iA kV_iA dc_iA pm_iA cd_iA ct_iA oc_iDy kV_iDy dc_iDy pm_iDy cd_iDy ct_iDy oc_iR kV_iR dc_iR pm_iR cd_iR ct_iR oc_iPl kV_iPl dc_iPl pm_iPl cd_iPl ct_iPl oc_iCd kV_iCd dc_iCd pm_iCd cd_iCd ct_iCd oc_ints kV_ints dc_ints pm_ints cd_ints ct_ints oc_coup kV_coup dc_coup pm_coup cd_coup ct_coup oc_unc kV_unc dc_unc pm_unc cd_unc ct_unc oc_iB kV_iB dc_iB pm_iB cd_iB ct_iB oc_iT kV_iT dc_iT pm_iT cd_iT ct_iT oc_iN kV_iN dc_iN pm_iN cd_iN ct_iN oc_iF kV_iF dc_iF pm_iF cd_iF ct_iF : Value}
    {t_LONGEST t_MOST_RACES t_MOST_POOLS t_MOST_COUPLES t_OPEN t_CAME t_VOID t_SIGNS t_STRANGE t_LETTERS : Tok} {v_SIGNS v_STRANGE v_LETTERS : Str} {o_MARKS o_NONES o_K1 o_K2 o_K3 o_K4 : Obj} {es_K : Array DictEntry} {n_K : Nat}
    (a_dec : PySem.W.nsIn K mainGlobals "decoded" = some (some (.ref f_dec)))
    (l_dec : K.lookup f_dec = some ⟨oc_dec, od_dec, .func (PySem.W.fnOf "decoded" "decoded" (defArgs sDec) (defBody sDec) (defScope sDec) .none kV_dec dc_dec pm_dec an_dec cd_dec ct_dec), sl_dec⟩)
    (c_c_dec : PySem.W.codeIn K cd_dec "decoded" = true)
    (k_dec : PySem.W.keepIn K (.ref f_dec) = true)
    (a_bnd : PySem.W.nsIn K mainGlobals "bounded_or_none" = some (some (.ref f_bnd)))
    (l_bnd : K.lookup f_bnd = some ⟨oc_bnd, od_bnd, .func (PySem.W.fnOf "bounded_or_none" "bounded_or_none" (defArgs sBnd) (defBody sBnd) (defScope sBnd) .none kV_bnd dc_bnd pm_bnd an_bnd cd_bnd ct_bnd), sl_bnd⟩)
    (c_c_bnd : PySem.W.codeIn K cd_bnd "bounded_or_none" = true)
    (k_bnd : PySem.W.keepIn K (.ref f_bnd) = true)
    (a_spl : PySem.W.nsIn K mainGlobals "split_line" = some (some (.ref f_spl)))
    (l_spl : K.lookup f_spl = some ⟨oc_spl, od_spl, .func (PySem.W.fnOf "split_line" "split_line" (defArgs sSplit) (defBody sSplit) (defScope sSplit) .none kV_spl dc_spl pm_spl an_spl cd_spl ct_spl), sl_spl⟩)
    (c_c_spl : PySem.W.codeIn K cd_spl "split_line" = true)
    (k_spl : PySem.W.keepIn K (.ref f_spl) = true)
    (a_sig : PySem.W.nsIn K mainGlobals "check_signs" = some (some (.ref f_sig)))
    (l_sig : K.lookup f_sig = some ⟨oc_sig, od_sig, .func (PySem.W.fnOf "check_signs" "check_signs" (defArgs sSigns) (defBody sSigns) (defScope sSigns) .none kV_sig dc_sig pm_sig an_sig cd_sig ct_sig), sl_sig⟩)
    (c_c_sig : PySem.W.codeIn K cd_sig "check_signs" = true)
    (k_sig : PySem.W.keepIn K (.ref f_sig) = true)
    (a_the : PySem.W.nsIn K mainGlobals "check_there" = some (some (.ref f_the)))
    (l_the : K.lookup f_the = some ⟨oc_the, od_the, .func (PySem.W.fnOf "check_there" "check_there" (defArgs sThere) (defBody sThere) (defScope sThere) .none kV_the dc_the pm_the an_the cd_the ct_the), sl_the⟩)
    (c_c_the : PySem.W.codeIn K cd_the "check_there" = true)
    (k_the : PySem.W.keepIn K (.ref f_the) = true)
    (a_end : PySem.W.nsIn K mainGlobals "check_ended" = some (some (.ref f_end)))
    (l_end : K.lookup f_end = some ⟨oc_end, od_end, .func (PySem.W.fnOf "check_ended" "check_ended" (defArgs sEnded) (defBody sEnded) (defScope sEnded) .none kV_end dc_end pm_end an_end cd_end ct_end), sl_end⟩)
    (c_c_end : PySem.W.codeIn K cd_end "check_ended" = true)
    (k_end : PySem.W.keepIn K (.ref f_end) = true)
    (a_rno : PySem.W.nsIn K mainGlobals "read_race_number" = some (some (.ref f_rno)))
    (l_rno : K.lookup f_rno = some ⟨oc_rno, od_rno, .func (PySem.W.fnOf "read_race_number" "read_race_number" (defArgs sRNo) (defBody sRNo) (defScope sRNo) .none kV_rno dc_rno pm_rno an_rno cd_rno ct_rno), sl_rno⟩)
    (c_c_rno : PySem.W.codeIn K cd_rno "read_race_number" = true)
    (k_rno : PySem.W.keepIn K (.ref f_rno) = true)
    (a_run : PySem.W.nsIn K mainGlobals "read_runners" = some (some (.ref f_run)))
    (l_run : K.lookup f_run = some ⟨oc_run, od_run, .func (PySem.W.fnOf "read_runners" "read_runners" (defArgs sRun) (defBody sRun) (defScope sRun) .none kV_run dc_run pm_run an_run cd_run ct_run), sl_run⟩)
    (c_c_run : PySem.W.codeIn K cd_run "read_runners" = true)
    (k_run : PySem.W.keepIn K (.ref f_run) = true)
    (a_cam : PySem.W.nsIn K mainGlobals "read_came" = some (some (.ref f_cam)))
    (l_cam : K.lookup f_cam = some ⟨oc_cam, od_cam, .func (PySem.W.fnOf "read_came" "read_came" (defArgs sCame) (defBody sCame) (defScope sCame) .none kV_cam dc_cam pm_cam an_cam cd_cam ct_cam), sl_cam⟩)
    (c_c_cam : PySem.W.codeIn K cd_cam "read_came" = true)
    (k_cam : PySem.W.keepIn K (.ref f_cam) = true)
    (a_arv : PySem.W.nsIn K mainGlobals "read_arrival" = some (some (.ref f_arv)))
    (l_arv : K.lookup f_arv = some ⟨oc_arv, od_arv, .func (PySem.W.fnOf "read_arrival" "read_arrival" (defArgs sArrival) (defBody sArrival) (defScope sArrival) .none kV_arv dc_arv pm_arv an_arv cd_arv ct_arv), sl_arv⟩)
    (c_c_arv : PySem.W.codeIn K cd_arv "read_arrival" = true)
    (k_arv : PySem.W.keepIn K (.ref f_arv) = true)
    (a_res : PySem.W.nsIn K mainGlobals "read_result" = some (some (.ref f_res)))
    (l_res : K.lookup f_res = some ⟨oc_res, od_res, .func (PySem.W.fnOf "read_result" "read_result" (defArgs sRes) (defBody sRes) (defScope sRes) .none kV_res dc_res pm_res an_res cd_res ct_res), sl_res⟩)
    (c_c_res : PySem.W.codeIn K cd_res "read_result" = true)
    (k_res : PySem.W.keepIn K (.ref f_res) = true)
    (a_num : PySem.W.nsIn K mainGlobals "read_number" = some (some (.ref f_num)))
    (l_num : K.lookup f_num = some ⟨oc_num, od_num, .func (PySem.W.fnOf "read_number" "read_number" (defArgs sNum) (defBody sNum) (defScope sNum) .none kV_num dc_num pm_num an_num cd_num ct_num), sl_num⟩)
    (c_c_num : PySem.W.codeIn K cd_num "read_number" = true)
    (k_num : PySem.W.keepIn K (.ref f_num) = true)
    (a_nam : PySem.W.nsIn K mainGlobals "check_name" = some (some (.ref f_nam)))
    (l_nam : K.lookup f_nam = some ⟨oc_nam, od_nam, .func (PySem.W.fnOf "check_name" "check_name" (defArgs sName) (defBody sName) (defScope sName) .none kV_nam dc_nam pm_nam an_nam cd_nam ct_nam), sl_nam⟩)
    (c_c_nam : PySem.W.codeIn K cd_nam "check_name" = true)
    (k_nam : PySem.W.keepIn K (.ref f_nam) = true)
    (a_dyc : PySem.W.nsIn K mainGlobals "check_day" = some (some (.ref f_dyc)))
    (l_dyc : K.lookup f_dyc = some ⟨oc_dyc, od_dyc, .func (PySem.W.fnOf "check_day" "check_day" (defArgs sDayC) (defBody sDayC) (defScope sDayC) .none kV_dyc dc_dyc pm_dyc an_dyc cd_dyc ct_dyc), sl_dyc⟩)
    (c_c_dyc : PySem.W.codeIn K cd_dyc "check_day" = true)
    (k_dyc : PySem.W.keepIn K (.ref f_dyc) = true)
    (a_rc : PySem.W.nsIn K mainGlobals "read_couple" = some (some (.ref f_rc)))
    (l_rc : K.lookup f_rc = some ⟨oc_rc, od_rc, .func (PySem.W.fnOf "read_couple" "read_couple" (defArgs sRC) (defBody sRC) (defScope sRC) .none kV_rc dc_rc pm_rc an_rc cd_rc ct_rc), sl_rc⟩)
    (c_c_rc : PySem.W.codeIn K cd_rc "read_couple" = true)
    (k_rc : PySem.W.keepIn K (.ref f_rc) = true)
    (a_rr : PySem.W.nsIn K mainGlobals "read_race" = some (some (.ref f_rr)))
    (l_rr : K.lookup f_rr = some ⟨oc_rr, od_rr, .func (PySem.W.fnOf "read_race" "read_race" (defArgs sRR) (defBody sRR) (defScope sRR) .none kV_rr dc_rr pm_rr an_rr cd_rr ct_rr), sl_rr⟩)
    (c_c_rr : PySem.W.codeIn K cd_rr "read_race" = true)
    (k_rr : PySem.W.keepIn K (.ref f_rr) = true)
    (a_lst : PySem.W.nsIn K mainGlobals "check_least" = some (some (.ref f_lst)))
    (l_lst : K.lookup f_lst = some ⟨oc_lst, od_lst, .func (PySem.W.fnOf "check_least" "check_least" (defArgs sLst) (defBody sLst) (defScope sLst) .none kV_lst dc_lst pm_lst an_lst cd_lst ct_lst), sl_lst⟩)
    (c_c_lst : PySem.W.codeIn K cd_lst "check_least" = true)
    (k_lst : PySem.W.keepIn K (.ref f_lst) = true)
    (a_knd : PySem.W.nsIn K mainGlobals "read_kind" = some (some (.ref f_knd)))
    (l_knd : K.lookup f_knd = some ⟨oc_knd, od_knd, .func (PySem.W.fnOf "read_kind" "read_kind" (defArgs sKnd) (defBody sKnd) (defScope sKnd) .none kV_knd dc_knd pm_knd an_knd cd_knd ct_knd), sl_knd⟩)
    (c_c_knd : PySem.W.codeIn K cd_knd "read_kind" = true)
    (k_knd : PySem.W.keepIn K (.ref f_knd) = true)
    (a_poo : PySem.W.nsIn K mainGlobals "read_pool" = some (some (.ref f_poo)))
    (l_poo : K.lookup f_poo = some ⟨oc_poo, od_poo, .func (PySem.W.fnOf "read_pool" "read_pool" (defArgs sPool) (defBody sPool) (defScope sPool) .none kV_poo dc_poo pm_poo an_poo cd_poo ct_poo), sl_poo⟩)
    (c_c_poo : PySem.W.codeIn K cd_poo "read_pool" = true)
    (k_poo : PySem.W.keepIn K (.ref f_poo) = true)
    (a_crd : PySem.W.nsIn K mainGlobals "read_card" = some (some (.ref f_crd)))
    (l_crd : K.lookup f_crd = some ⟨oc_crd, od_crd, .func (PySem.W.fnOf "read_card" "read_card" (defArgs sCard) (defBody sCard) (defScope sCard) .none kV_crd dc_crd pm_crd an_crd cd_crd ct_crd), sl_crd⟩)
    (c_c_crd : PySem.W.codeIn K cd_crd "read_card" = true)
    (k_crd : PySem.W.keepIn K (.ref f_crd) = true)
    (a_day : PySem.W.nsIn K mainGlobals "read_day" = some (some (.ref f_day)))
    (l_day : K.lookup f_day = some ⟨oc_day, od_day, .func (PySem.W.fnOf "read_day" "read_day" (defArgs sDayF) (defBody sDayF) (defScope sDayF) .none kV_day dc_day pm_day an_day cd_day ct_day), sl_day⟩)
    (c_c_day : PySem.W.codeIn K cd_day "read_day" = true)
    (k_day : PySem.W.keepIn K (.ref f_day) = true)
    (a_jud : PySem.W.nsIn K mainGlobals "judge" = some (some (.ref f_jud)))
    (l_jud : K.lookup f_jud = some ⟨oc_jud, od_jud, .func (PySem.W.fnOf "judge" "judge" (defArgs sJud) (defBody sJud) (defScope sJud) .none kV_jud dc_jud pm_jud an_jud cd_jud ct_jud), sl_jud⟩)
    (c_c_jud : PySem.W.codeIn K cd_jud "judge" = true)
    (k_jud : PySem.W.keepIn K (.ref f_jud) = true)
    (a_W : PySem.W.nsIn K mainGlobals "Word" = some (some (.ref C_W)))
    (pg_W : PySem.W.plainGet K C_W Str.empty = true)
    (hd_W : PySem.W.hasDictIn K C_W = true)
    (po_W : PySem.W.plainOver K C_W = true)
    (sa_W : PySem.W.findIn K (.ref C_W) "__setattr__" = some (some (.builtin "object.__setattr__")))
    (mk_W : PySem.W.makesIn K C_W = true)
    (kc_W : PySem.W.keepIn K (.ref C_W) = true)
    (n1_W : PySem.W.findIn K (.ref C_W) "text" = some none)
    (n2_W : PySem.W.findIn K (.ref C_W) "place" = some none)
    (ai_W : PySem.W.findIn K (.ref C_W) "__init__" = some (some (.ref f_iW)))
    (if_W : PySem.W.isFn K (.ref f_iW) = true)
    (l_iW : K.lookup f_iW = some ⟨oc_iW, od_iW, .func (PySem.W.fnOf "__init__" "Word.__init__" (defArgs sWord) (defBody sWord) (defScope sWord) .none kV_iW dc_iW pm_iW an_iW cd_iW ct_iW), sl_iW⟩)
    (c_c_iW : PySem.W.codeIn K cd_iW "Word.__init__" = true)
    (k_iW : PySem.W.keepIn K (.ref f_iW) = true)
    (a_A : PySem.W.nsIn K mainGlobals "Arrival" = some (some (.ref C_A)))
    (pg_A : PySem.W.plainGet K C_A Str.empty = true)
    (hd_A : PySem.W.hasDictIn K C_A = true)
    (po_A : PySem.W.plainOver K C_A = true)
    (sa_A : PySem.W.findIn K (.ref C_A) "__setattr__" = some (some (.builtin "object.__setattr__")))
    (mk_A : PySem.W.makesIn K C_A = true)
    (kc_A : PySem.W.keepIn K (.ref C_A) = true)
    (n1_A : PySem.W.findIn K (.ref C_A) "state" = some none)
    (n2_A : PySem.W.findIn K (.ref C_A) "groups" = some none)
    (n3_A : PySem.W.findIn K (.ref C_A) "out" = some none)
    (ai_A : PySem.W.findIn K (.ref C_A) "__init__" = some (some (.ref f_iA)))
    (if_A : PySem.W.isFn K (.ref f_iA) = true)
    (l_iA : K.lookup f_iA = some ⟨oc_iA, od_iA, .func (PySem.W.fnOf "__init__" "Arrival.__init__" (defArgs sArr) (defBody sArr) (defScope sArr) .none kV_iA dc_iA pm_iA an_iA cd_iA ct_iA), sl_iA⟩)
    (c_c_iA : PySem.W.codeIn K cd_iA "Arrival.__init__" = true)
    (k_iA : PySem.W.keepIn K (.ref f_iA) = true)
    (a_Dy : PySem.W.nsIn K mainGlobals "Day" = some (some (.ref C_Dy)))
    (pg_Dy : PySem.W.plainGet K C_Dy Str.empty = true)
    (hd_Dy : PySem.W.hasDictIn K C_Dy = true)
    (po_Dy : PySem.W.plainOver K C_Dy = true)
    (sa_Dy : PySem.W.findIn K (.ref C_Dy) "__setattr__" = some (some (.builtin "object.__setattr__")))
    (mk_Dy : PySem.W.makesIn K C_Dy = true)
    (kc_Dy : PySem.W.keepIn K (.ref C_Dy) = true)
    (n1_Dy : PySem.W.findIn K (.ref C_Dy) "races" = some none)
    (n2_Dy : PySem.W.findIn K (.ref C_Dy) "arrivals" = some none)
    (n3_Dy : PySem.W.findIn K (.ref C_Dy) "pools" = some none)
    (ai_Dy : PySem.W.findIn K (.ref C_Dy) "__init__" = some (some (.ref f_iDy)))
    (if_Dy : PySem.W.isFn K (.ref f_iDy) = true)
    (l_iDy : K.lookup f_iDy = some ⟨oc_iDy, od_iDy, .func (PySem.W.fnOf "__init__" "Day.__init__" (defArgs sDay) (defBody sDay) (defScope sDay) .none kV_iDy dc_iDy pm_iDy an_iDy cd_iDy ct_iDy), sl_iDy⟩)
    (c_c_iDy : PySem.W.codeIn K cd_iDy "Day.__init__" = true)
    (k_iDy : PySem.W.keepIn K (.ref f_iDy) = true)
    (a_R : PySem.W.nsIn K mainGlobals "Race" = some (some (.ref C_R)))
    (pg_R : PySem.W.plainGet K C_R Str.empty = true)
    (hd_R : PySem.W.hasDictIn K C_R = true)
    (po_R : PySem.W.plainOver K C_R = true)
    (sa_R : PySem.W.findIn K (.ref C_R) "__setattr__" = some (some (.builtin "object.__setattr__")))
    (mk_R : PySem.W.makesIn K C_R = true)
    (kc_R : PySem.W.keepIn K (.ref C_R) = true)
    (n1_R : PySem.W.findIn K (.ref C_R) "runners" = some none)
    (n2_R : PySem.W.findIn K (.ref C_R) "heads" = some none)
    (ai_R : PySem.W.findIn K (.ref C_R) "__init__" = some (some (.ref f_iR)))
    (if_R : PySem.W.isFn K (.ref f_iR) = true)
    (l_iR : K.lookup f_iR = some ⟨oc_iR, od_iR, .func (PySem.W.fnOf "__init__" "Race.__init__" (defArgs sRace) (defBody sRace) (defScope sRace) .none kV_iR dc_iR pm_iR an_iR cd_iR ct_iR), sl_iR⟩)
    (c_c_iR : PySem.W.codeIn K cd_iR "Race.__init__" = true)
    (k_iR : PySem.W.keepIn K (.ref f_iR) = true)
    (a_Pl : PySem.W.nsIn K mainGlobals "Pool" = some (some (.ref C_Pl)))
    (pg_Pl : PySem.W.plainGet K C_Pl Str.empty = true)
    (hd_Pl : PySem.W.hasDictIn K C_Pl = true)
    (po_Pl : PySem.W.plainOver K C_Pl = true)
    (sa_Pl : PySem.W.findIn K (.ref C_Pl) "__setattr__" = some (some (.builtin "object.__setattr__")))
    (mk_Pl : PySem.W.makesIn K C_Pl = true)
    (kc_Pl : PySem.W.keepIn K (.ref C_Pl) = true)
    (n1_Pl : PySem.W.findIn K (.ref C_Pl) "kind" = some none)
    (n2_Pl : PySem.W.findIn K (.ref C_Pl) "k" = some none)
    (n3_Pl : PySem.W.findIn K (.ref C_Pl) "race" = some none)
    (ai_Pl : PySem.W.findIn K (.ref C_Pl) "__init__" = some (some (.ref f_iPl)))
    (if_Pl : PySem.W.isFn K (.ref f_iPl) = true)
    (l_iPl : K.lookup f_iPl = some ⟨oc_iPl, od_iPl, .func (PySem.W.fnOf "__init__" "Pool.__init__" (defArgs sPl) (defBody sPl) (defScope sPl) .none kV_iPl dc_iPl pm_iPl an_iPl cd_iPl ct_iPl), sl_iPl⟩)
    (c_c_iPl : PySem.W.codeIn K cd_iPl "Pool.__init__" = true)
    (k_iPl : PySem.W.keepIn K (.ref f_iPl) = true)
    (a_Cd : PySem.W.nsIn K mainGlobals "Card" = some (some (.ref C_Cd)))
    (pg_Cd : PySem.W.plainGet K C_Cd Str.empty = true)
    (hd_Cd : PySem.W.hasDictIn K C_Cd = true)
    (po_Cd : PySem.W.plainOver K C_Cd = true)
    (sa_Cd : PySem.W.findIn K (.ref C_Cd) "__setattr__" = some (some (.builtin "object.__setattr__")))
    (mk_Cd : PySem.W.makesIn K C_Cd = true)
    (kc_Cd : PySem.W.keepIn K (.ref C_Cd) = true)
    (n1_Cd : PySem.W.findIn K (.ref C_Cd) "races" = some none)
    (n2_Cd : PySem.W.findIn K (.ref C_Cd) "pools" = some none)
    (ai_Cd : PySem.W.findIn K (.ref C_Cd) "__init__" = some (some (.ref f_iCd)))
    (if_Cd : PySem.W.isFn K (.ref f_iCd) = true)
    (l_iCd : K.lookup f_iCd = some ⟨oc_iCd, od_iCd, .func (PySem.W.fnOf "__init__" "Card.__init__" (defArgs sCd) (defBody sCd) (defScope sCd) .none kV_iCd dc_iCd pm_iCd an_iCd cd_iCd ct_iCd), sl_iCd⟩)
    (c_c_iCd : PySem.W.codeIn K cd_iCd "Card.__init__" = true)
    (k_iCd : PySem.W.keepIn K (.ref f_iCd) = true)
    (am_ints : PySem.W.findIn K (.ref C_R) "interests" = some (some (.ref f_ints)))
    (im_ints : PySem.W.isFn K (.ref f_ints) = true)
    (l_ints : K.lookup f_ints = some ⟨oc_ints, od_ints, .func (PySem.W.fnOf "interests" "Race.interests" (defArgs sInts) (defBody sInts) (defScope sInts) .none kV_ints dc_ints pm_ints an_ints cd_ints ct_ints), sl_ints⟩)
    (c_c_ints : PySem.W.codeIn K cd_ints "Race.interests" = true)
    (k_ints : PySem.W.keepIn K (.ref f_ints) = true)
    (am_coup : PySem.W.findIn K (.ref C_R) "couple" = some (some (.ref f_coup)))
    (im_coup : PySem.W.isFn K (.ref f_coup) = true)
    (l_coup : K.lookup f_coup = some ⟨oc_coup, od_coup, .func (PySem.W.fnOf "couple" "Race.couple" (defArgs sCoup) (defBody sCoup) (defScope sCoup) .none kV_coup dc_coup pm_coup an_coup cd_coup ct_coup), sl_coup⟩)
    (c_c_coup : PySem.W.codeIn K cd_coup "Race.couple" = true)
    (k_coup : PySem.W.keepIn K (.ref f_coup) = true)
    (am_unc : PySem.W.findIn K (.ref C_R) "uncoupled" = some (some (.ref f_unc)))
    (im_unc : PySem.W.isFn K (.ref f_unc) = true)
    (l_unc : K.lookup f_unc = some ⟨oc_unc, od_unc, .func (PySem.W.fnOf "uncoupled" "Race.uncoupled" (defArgs sUnc) (defBody sUnc) (defScope sUnc) .none kV_unc dc_unc pm_unc an_unc cd_unc ct_unc), sl_unc⟩)
    (c_c_unc : PySem.W.codeIn K cd_unc "Race.uncoupled" = true)
    (k_unc : PySem.W.keepIn K (.ref f_unc) = true)
    (a_B : PySem.W.nsIn K mainGlobals "Refusal" = some (some (.ref C_B)))
    (rd_B : PySem.W.readsIn K C_B (.type "type") = true)
    (sp_B : PySem.W.specialIn K (.ref C_B) "__getattribute__" = some (some (.builtin "type.__getattribute__")))
    (fc_B : PySem.W.findCls K (.ref C_B) (.type "type") "__init__" = some (.val (.ref f_iB)))
    (l_iB : K.lookup f_iB = some ⟨oc_iB, od_iB, .func (PySem.W.fnOf "__init__" "Refusal.__init__" (defArgs sRef) (defBody sRef) (defScope sRef) .none kV_iB dc_iB pm_iB an_iB cd_iB ct_iB), sl_iB⟩)
    (c_c_iB : PySem.W.codeIn K cd_iB "Refusal.__init__" = true)
    (k_iB : PySem.W.keepIn K (.ref f_iB) = true)
    (bB : PySem.W.subIn K (.ref C_B) (.type "BaseException") = some true)
    (iB : PySem.W.isClsIn K C_B = true)
    (tB : PySem.W.typeIn K (.ref C_B) = some (.type "type"))
    (a_T : PySem.W.nsIn K mainGlobals "TooLong" = some (some (.ref C_T)))
    (xi_T : PySem.W.excInitIn K C_T exT "Exception.__new__" = true)
    (xo_T : PySem.W.excOver K C_T exT = true)
    (hd_T : PySem.W.hasDictIn K C_T = true)
    (sa_T : PySem.W.findIn K (.ref C_T) "__setattr__" = some (some (.builtin "object.__setattr__")))
    (xe_T : PySem.W.subIn K (.ref C_T) (.type "BaseException") = some true)
    (ty_T : PySem.W.typeIn K (.ref C_T) = some (.type "type"))
    (kc_T : PySem.W.keepIn K (.ref C_T) = true)
    (ai_T : PySem.W.findIn K (.ref C_T) "__init__" = some (some (.ref f_iT)))
    (tf_T : PySem.W.typeIn K (.ref f_iT) = some (.type "function"))
    (tkc_T : PySem.W.takerIn K C_T "code" = some none)
    (fic_T : PySem.W.findIn K (.ref C_T) "code" = some none)
    (ga_T : PySem.W.findIn K (.ref C_T) "__getattribute__" = some (some (.builtin "BaseException.__getattribute__")))
    (gg_T : PySem.W.findIn K (.ref C_T) "__getattr__" = some none)
    (l_iT : K.lookup f_iT = some ⟨oc_iT, od_iT, .func (PySem.W.fnOf "__init__" "TooLong.__init__" (defArgs sTL) (defBody sTL) (defScope sTL) .none kV_iT dc_iT pm_iT an_iT cd_iT ct_iT), sl_iT⟩)
    (c_c_iT : PySem.W.codeIn K cd_iT "TooLong.__init__" = true)
    (k_iT : PySem.W.keepIn K (.ref f_iT) = true)
    (a_N : PySem.W.nsIn K mainGlobals "NoCard" = some (some (.ref C_N)))
    (xi_N : PySem.W.excInitIn K C_N exT "Exception.__new__" = true)
    (xo_N : PySem.W.excOver K C_N exT = true)
    (hd_N : PySem.W.hasDictIn K C_N = true)
    (sa_N : PySem.W.findIn K (.ref C_N) "__setattr__" = some (some (.builtin "object.__setattr__")))
    (xe_N : PySem.W.subIn K (.ref C_N) (.type "BaseException") = some true)
    (ty_N : PySem.W.typeIn K (.ref C_N) = some (.type "type"))
    (kc_N : PySem.W.keepIn K (.ref C_N) = true)
    (ai_N : PySem.W.findIn K (.ref C_N) "__init__" = some (some (.ref f_iN)))
    (tf_N : PySem.W.typeIn K (.ref f_iN) = some (.type "function"))
    (tkc_N : PySem.W.takerIn K C_N "code" = some none)
    (fic_N : PySem.W.findIn K (.ref C_N) "code" = some none)
    (ga_N : PySem.W.findIn K (.ref C_N) "__getattribute__" = some (some (.builtin "BaseException.__getattribute__")))
    (gg_N : PySem.W.findIn K (.ref C_N) "__getattr__" = some none)
    (l_iN : K.lookup f_iN = some ⟨oc_iN, od_iN, .func (PySem.W.fnOf "__init__" "NoCard.__init__" (defArgs sNC) (defBody sNC) (defScope sNC) .none kV_iN dc_iN pm_iN an_iN cd_iN ct_iN), sl_iN⟩)
    (c_c_iN : PySem.W.codeIn K cd_iN "NoCard.__init__" = true)
    (k_iN : PySem.W.keepIn K (.ref f_iN) = true)
    (a_F : PySem.W.nsIn K mainGlobals "Faulty" = some (some (.ref C_F)))
    (xi_F : PySem.W.excInitIn K C_F exT "Exception.__new__" = true)
    (xo_F : PySem.W.excOver K C_F exT = true)
    (hd_F : PySem.W.hasDictIn K C_F = true)
    (sa_F : PySem.W.findIn K (.ref C_F) "__setattr__" = some (some (.builtin "object.__setattr__")))
    (xe_F : PySem.W.subIn K (.ref C_F) (.type "BaseException") = some true)
    (ty_F : PySem.W.typeIn K (.ref C_F) = some (.type "type"))
    (kc_F : PySem.W.keepIn K (.ref C_F) = true)
    (ai_F : PySem.W.findIn K (.ref C_F) "__init__" = some (some (.ref f_iF)))
    (tf_F : PySem.W.typeIn K (.ref f_iF) = some (.type "function"))
    (tkc_F : PySem.W.takerIn K C_F "code" = some none)
    (fic_F : PySem.W.findIn K (.ref C_F) "code" = some none)
    (tkk_F : PySem.W.takerIn K C_F "kind" = some none)
    (fik_F : PySem.W.findIn K (.ref C_F) "kind" = some none)
    (tkp_F : PySem.W.takerIn K C_F "place" = some none)
    (fip_F : PySem.W.findIn K (.ref C_F) "place" = some none)
    (ga_F : PySem.W.findIn K (.ref C_F) "__getattribute__" = some (some (.builtin "BaseException.__getattribute__")))
    (gg_F : PySem.W.findIn K (.ref C_F) "__getattr__" = some none)
    (l_iF : K.lookup f_iF = some ⟨oc_iF, od_iF, .func (PySem.W.fnOf "__init__" "Faulty.__init__" (defArgs sFt) (defBody sFt) (defScope sFt) .none kV_iF dc_iF pm_iF an_iF cd_iF ct_iF), sl_iF⟩)
    (c_c_iF : PySem.W.codeIn K cd_iF "Faulty.__init__" = true)
    (k_iF : PySem.W.keepIn K (.ref f_iF) = true)
    (iF : PySem.W.isClsIn K C_F = true)
    (su_FF : PySem.W.subIn K (.ref C_F) (.ref C_F) = some true)
    (su_TF : PySem.W.subIn K (.ref C_T) (.ref C_F) = some false)
    (su_TB : PySem.W.subIn K (.ref C_T) (.ref C_B) = some true)
    (su_NF : PySem.W.subIn K (.ref C_N) (.ref C_F) = some false)
    (su_NB : PySem.W.subIn K (.ref C_N) (.ref C_B) = some true)
    (z_len : PySem.W.nsIn K mainGlobals "len" = some none)
    (z_str : PySem.W.nsIn K mainGlobals "str" = some none)
    (z_int : PySem.W.nsIn K mainGlobals "int" = some none)
    (z_range : PySem.W.nsIn K mainGlobals "range" = some none)
    (z_list : PySem.W.nsIn K mainGlobals "list" = some none)
    (z_ord : PySem.W.nsIn K mainGlobals "ord" = some none)
    (g_LONGEST : PySem.W.nsIn K mainGlobals "LONGEST" = some (some (.int 65536 t_LONGEST)))
    (g_MOST_RACES : PySem.W.nsIn K mainGlobals "MOST_RACES" = some (some (.int 16 t_MOST_RACES)))
    (g_MOST_POOLS : PySem.W.nsIn K mainGlobals "MOST_POOLS" = some (some (.int 64 t_MOST_POOLS)))
    (g_MOST_COUPLES : PySem.W.nsIn K mainGlobals "MOST_COUPLES" = some (some (.int 8 t_MOST_COUPLES)))
    (g_OPEN : PySem.W.nsIn K mainGlobals "OPEN" = some (some (.int 0 t_OPEN)))
    (g_CAME : PySem.W.nsIn K mainGlobals "CAME" = some (some (.int 1 t_CAME)))
    (g_VOID : PySem.W.nsIn K mainGlobals "VOID" = some (some (.int 2 t_VOID)))
    (g_SIGNS : PySem.W.nsIn K mainGlobals "SIGNS" = some (some (.str v_SIGNS t_SIGNS)))
    (e_SIGNS : v_SIGNS = ⟨sgn.toArray⟩)
    (g_STRANGE : PySem.W.nsIn K mainGlobals "STRANGE" = some (some (.str v_STRANGE t_STRANGE)))
    (e_STRANGE : v_STRANGE = ⟨#[63]⟩)
    (g_LETTERS : PySem.W.nsIn K mainGlobals "LETTERS" = some (some (.str v_LETTERS t_LETTERS)))
    (e_LETTERS : v_LETTERS = ⟨letters.toArray⟩)
    (g_MARKS : PySem.W.nsIn K mainGlobals "MARKS" = some (some (.ref T_MARKS)))
    (l_MARKS : K.lookup T_MARKS = some o_MARKS)
    (q_MARKS : tupS o_MARKS = (some ["from", "take", "break", "least", "unit", "none"] : Option (List Str)))
    (g_NONES : PySem.W.nsIn K mainGlobals "NONES" = some (some (.ref T_NONES)))
    (l_NONES : K.lookup T_NONES = some o_NONES)
    (q_NONES : tupS o_NONES = (some ["refund", "carry", "fewer"] : Option (List Str)))
    (g_KINDS : PySem.W.nsIn K mainGlobals "KINDS" = some (some (.ref T_KINDS)))
    (l_KINDS : K.lookup T_KINDS = some ⟨.type "dict", none, .dict es_K n_K, #[]⟩)
    (y_KINDS : PySem.W.KeysLit w.params es_K.toList)
    (s_KINDS : (T_KINDS == sysModules) = false)
    (m_KINDS : kdS es_K = (some [("place", p_K1), ("order", p_K2), ("any", p_K3), ("legs", p_K4)] : Option (List (Str × Addr))))
    (l_K1 : K.lookup p_K1 = some o_K1)
    (q_K1 : tupI o_K1 = some [1, 4])
    (l_K2 : K.lookup p_K2 = some o_K2)
    (q_K2 : tupI o_K2 = some [2, 4])
    (l_K3 : K.lookup p_K3 = some o_K3)
    (q_K3 : tupI o_K3 = some [2, 3])
    (l_K4 : K.lookup p_K4 = some o_K4)
    (q_K4 : tupI o_K4 = some [2, 6])
    : ∃ fd : FuncData, (∀ (s : Shared) (us : List Value), us.length = (["card", "result"] : List Str).length → BindsTo s fd ⟨us, []⟩ ((["card", "result"] : List Str).zip us)) ∧ ∀ base : Heap, K.In base → base.Ns mainGlobals mg → FnOk P w K mg base CX0 9 fa fd ["card", "result"] (spJud K) := by
  have e_fa := hfa.symm.trans (PySem.W.mg_of X G a_jud)
  cases e_fa
  have F_dec := fun_mk (st := sDec) l_dec c_c_dec k_dec
  have b_dec := F_dec.binds (ps := ["data"]) fun _ _ _ _ _ _ us hl => match us, hl with | [_], _ => rfl
  have F_bnd := fun_mk (st := sBnd) l_bnd c_c_bnd k_bnd
  have b_bnd := F_bnd.binds (ps := ["word", "low", "high"]) fun _ _ _ _ _ _ us hl => match us, hl with | [_, _, _], _ => rfl
  have F_spl := fun_mk (st := sSplit) l_spl c_c_spl k_spl
  have b_spl := F_spl.binds (ps := ["line", "start"]) fun _ _ _ _ _ _ us hl => match us, hl with | [_, _], _ => rfl
  have F_sig := fun_mk (st := sSigns) l_sig c_c_sig k_sig
  have b_sig := F_sig.binds (ps := ["data", "start", "end"]) fun _ _ _ _ _ _ us hl => match us, hl with | [_, _, _], _ => rfl
  have F_the := fun_mk (st := sThere) l_the c_c_the k_the
  have b_the := F_the.binds (ps := ["word"]) fun _ _ _ _ _ _ us hl => match us, hl with | [_], _ => rfl
  have F_end := fun_mk (st := sEnded) l_end c_c_end k_end
  have b_end := F_end.binds (ps := ["word"]) fun _ _ _ _ _ _ us hl => match us, hl with | [_], _ => rfl
  have F_rno := fun_mk (st := sRNo) l_rno c_c_rno k_rno
  have b_rno := F_rno.binds (ps := ["words", "above", "highest"]) fun _ _ _ _ _ _ us hl => match us, hl with | [_, _, _], _ => rfl
  have F_run := fun_mk (st := sRun) l_run c_c_run k_run
  have b_run := F_run.binds (ps := ["word", "sign", "runners", "met"]) fun _ _ _ _ _ _ us hl => match us, hl with | [_, _, _, _], _ => rfl
  have F_cam := fun_mk (st := sCame) l_cam c_c_cam k_cam
  have b_cam := F_cam.binds (ps := ["words", "runners"]) fun _ _ _ _ _ _ us hl => match us, hl with | [_, _], _ => rfl
  have F_arv := fun_mk (st := sArrival) l_arv c_c_arv k_arv
  have b_arv := F_arv.binds (ps := ["words", "runners"]) fun _ _ _ _ _ _ us hl => match us, hl with | [_, _], _ => rfl
  have F_res := fun_mk (st := sRes) l_res c_c_res k_res
  have b_res := F_res.binds (ps := ["data", "races"]) fun _ _ _ _ _ _ us hl => match us, hl with | [_, _], _ => rfl
  have F_num := fun_mk (st := sNum) l_num c_c_num k_num
  have b_num := F_num.binds (ps := ["word", "low", "high"]) fun _ _ _ _ _ _ us hl => match us, hl with | [_, _, _], _ => rfl
  have F_nam := fun_mk (st := sName) l_nam c_c_nam k_nam
  have b_nam := F_nam.binds (ps := ["word"]) fun _ _ _ _ _ _ us hl => match us, hl with | [_], _ => rfl
  have F_dyc := fun_mk (st := sDayC) l_dyc c_c_dyc k_dyc
  have b_dyc := F_dyc.binds (ps := ["words"]) fun _ _ _ _ _ _ us hl => match us, hl with | [_], _ => rfl
  have F_rc := fun_mk (st := sRC) l_rc c_c_rc k_rc
  have b_rc := F_rc.binds (ps := ["words", "race"]) fun _ _ _ _ _ _ us hl => match us, hl with | [_, _], _ => rfl
  have F_rr := fun_mk (st := sRR) l_rr c_c_rr k_rr
  have b_rr := F_rr.binds (ps := ["words"]) fun _ _ _ _ _ _ us hl => match us, hl with | [_], _ => rfl
  have F_lst := fun_mk (st := sLst) l_lst c_c_lst k_lst
  have b_lst := F_lst.binds (ps := ["least_word", "unit_word"]) fun _ _ _ _ _ _ us hl => match us, hl with | [_, _], _ => rfl
  have F_knd := fun_mk (st := sKnd) l_knd c_c_knd k_knd
  have b_knd := F_knd.binds (ps := ["kind", "length", "first", "races"]) fun _ _ _ _ _ _ us hl => match us, hl with | [_, _, _, _], _ => rfl
  have F_poo := fun_mk (st := sPool) l_poo c_c_poo k_poo
  have b_poo := F_poo.binds (ps := ["words", "races"]) fun _ _ _ _ _ _ us hl => match us, hl with | [_, _], _ => rfl
  have F_crd := fun_mk (st := sCard) l_crd c_c_crd k_crd
  have b_crd := F_crd.binds (ps := ["data"]) fun _ _ _ _ _ _ us hl => match us, hl with | [_], _ => rfl
  have F_day := fun_mk (st := sDayF) l_day c_c_day k_day
  have b_day := F_day.binds (ps := ["card", "result"]) fun _ _ _ _ _ _ us hl => match us, hl with | [_, _], _ => rfl
  have F_jud := fun_mk (st := sJud) l_jud c_c_jud k_jud
  have b_jud := F_jud.binds (ps := ["card", "result"]) fun _ _ _ _ _ _ us hl => match us, hl with | [_, _], _ => rfl
  have F_iW := fun_mk (st := sWord) l_iW c_c_iW k_iW
  have b_iW := F_iW.binds (ps := ["self", "text", "place"]) fun _ _ _ _ _ _ us hl => match us, hl with | [_, _, _], _ => rfl
  have F_iA := fun_mk (st := sArr) l_iA c_c_iA k_iA
  have b_iA := F_iA.binds (ps := ["self", "state", "groups", "out"]) fun _ _ _ _ _ _ us hl => match us, hl with | [_, _, _, _], _ => rfl
  have F_iDy := fun_mk (st := sDay) l_iDy c_c_iDy k_iDy
  have b_iDy := F_iDy.binds (ps := ["self", "races", "pools", "arrivals"]) fun _ _ _ _ _ _ us hl => match us, hl with | [_, _, _, _], _ => rfl
  have F_iR := fun_mk (st := sRace) l_iR c_c_iR k_iR
  have b_iR := F_iR.binds (ps := ["self", "runners"]) fun _ _ _ _ _ _ us hl => match us, hl with | [_, _], _ => rfl
  have F_iPl := fun_mk (st := sPl) l_iPl c_c_iPl k_iPl
  have b_iPl := F_iPl.binds (ps := ["self", "kind", "k", "race"]) fun _ _ _ _ _ _ us hl => match us, hl with | [_, _, _, _], _ => rfl
  have F_iCd := fun_mk (st := sCd) l_iCd c_c_iCd k_iCd
  have b_iCd := F_iCd.binds (ps := ["self", "races", "pools"]) fun _ _ _ _ _ _ us hl => match us, hl with | [_, _, _], _ => rfl
  have F_ints := fun_mk (st := sInts) l_ints c_c_ints k_ints
  have b_ints := F_ints.binds (ps := ["self"]) fun _ _ _ _ _ _ us hl => match us, hl with | [_], _ => rfl
  have F_coup := fun_mk (st := sCoup) l_coup c_c_coup k_coup
  have b_coup := F_coup.binds (ps := ["self", "a", "b"]) fun _ _ _ _ _ _ us hl => match us, hl with | [_, _, _], _ => rfl
  have F_unc := fun_mk (st := sUnc) l_unc c_c_unc k_unc
  have b_unc := F_unc.binds (ps := ["self", "runner"]) fun _ _ _ _ _ _ us hl => match us, hl with | [_, _], _ => rfl
  have F_iB := fun_mk (st := sRef) l_iB c_c_iB k_iB
  have b_iB := F_iB.binds (ps := ["self", "code"]) fun _ _ _ _ _ _ us hl => match us, hl with | [_, _], _ => rfl
  have F_iT := fun_mk (st := sTL) l_iT c_c_iT k_iT
  have b_iT := F_iT.binds (ps := ["self"]) fun _ _ _ _ _ _ us hl => match us, hl with | [_], _ => rfl
  have F_iN := fun_mk (st := sNC) l_iN c_c_iN k_iN
  have b_iN := F_iN.binds (ps := ["self"]) fun _ _ _ _ _ _ us hl => match us, hl with | [_], _ => rfl
  have F_iF := fun_mk (st := sFt) l_iF c_c_iF k_iF
  have b_iF := F_iF.binds (ps := ["self", "kind", "place"]) fun _ _ _ _ _ _ us hl => match us, hl with | [_, _, _], _ => rfl
  refine ⟨PySem.W.fnOf "judge" "judge" (defArgs sJud) (defBody sJud) (defScope sJud) .none kV_jud dc_jud pm_jud an_jud cd_jud ct_jud, fun s us hu => match us, hu with | [_, _], _ => .of_eq rfl, fun base _ _ => ?_⟩
  let D : Ad := ⟨C_B, C_T, C_N, C_F, C_A, C_W, C_R, C_Dy, C_Pl, C_Cd, C_B, C_B, C_B, C_B, C_B, C_B, C_B⟩
  have tDec : TxDec mg := ⟨PySem.W.mg_none_of X G z_ord, ⟨t_SIGNS, by rw [PySem.W.mg_of X G g_SIGNS, e_SIGNS]⟩, ⟨t_STRANGE, by rw [PySem.W.mg_of X G g_STRANGE, e_STRANGE]⟩⟩
  have tLen : TxLen mg := ⟨PySem.W.mg_none_of X G z_len, PySem.W.mg_none_of X G z_str, PySem.W.mg_none_of X G z_int, PySem.W.mg_none_of X G z_range, PySem.W.mg_none_of X G z_list⟩
  have tLet : TxL mg := ⟨⟨t_LETTERS, by rw [PySem.W.mg_of X G g_LETTERS, e_LETTERS]⟩⟩
  have tW : TxW K D.cW := ⟨⟨pg_W, hd_W, po_W, sa_W⟩, n1_W, n2_W⟩
  have tA : TxA K D.cA := ⟨⟨pg_A, hd_A, po_A, sa_A⟩, n1_A, n2_A, n3_A⟩
  have tD : TxD K D.cD := ⟨⟨pg_Dy, hd_Dy, po_Dy, sa_Dy⟩, n1_Dy, n2_Dy, n3_Dy⟩
  have tR : TxR K D.cRc := ⟨⟨pg_R, hd_R, po_R, sa_R⟩, n1_R, n2_R⟩
  have tPl : TxPl K D.cPl := ⟨⟨pg_Pl, hd_Pl, po_Pl, sa_Pl⟩, n1_Pl, n2_Pl, n3_Pl⟩
  have tCd : TxCd K D.cCd := ⟨⟨pg_Cd, hd_Cd, po_Cd, sa_Cd⟩, n1_Cd, n2_Cd⟩
  have tS : TxS mg := ⟨⟨_, PySem.W.mg_of X G g_OPEN⟩, ⟨_, PySem.W.mg_of X G g_CAME⟩, ⟨_, PySem.W.mg_of X G g_VOID⟩⟩
  have tM : TxM mg := ⟨⟨_, PySem.W.mg_of X G g_MOST_RACES⟩, ⟨_, PySem.W.mg_of X G g_MOST_POOLS⟩⟩
  have tMc : TxC mg := ⟨⟨_, PySem.W.mg_of X G g_MOST_COUPLES⟩⟩
  have tLong : ∃ t, mg "LONGEST" = some (.int 65536 t) := ⟨_, PySem.W.mg_of X G g_LONGEST⟩
  have tKnd : TxK w K mg := kinds_ok (PySem.W.mg_of X G g_KINDS) l_KINDS y_KINDS s_KINDS m_KINDS l_K1 l_K2 l_K3 l_K4 q_K1 q_K2 q_K3 q_K4
  have tPoo : TxP K mg := ⟨⟨_, PySem.W.mg_of X G g_MARKS, fun H => marks_V ▸ tupS_ok l_MARKS q_MARKS H⟩, ⟨_, PySem.W.mg_of X G g_NONES, fun H => nones_V ▸ tupS_ok l_NONES q_NONES H⟩⟩
  have bs : Base K mg C_B f_iB := ⟨PySem.W.mg_of X G a_B, ⟨rd_B, sp_B⟩, fc_B, k_iB⟩
  have G_iB := ok_ref (P := P) (w := w) (mg := mg) (base := base) F_iB
  have x_T : ExC K C_T := ⟨xi_T, xo_T, hd_T, sa_T, xe_T, ty_T, kc_T⟩
  have E_T : ErrC K mg "TooLong" C_T f_iT := ⟨PySem.W.mg_of X G a_T, x_T, ai_T, tf_T, tkc_T⟩
  have x_N : ExC K C_N := ⟨xi_N, xo_N, hd_N, sa_N, xe_N, ty_N, kc_N⟩
  have E_N : ErrC K mg "NoCard" C_N f_iN := ⟨PySem.W.mg_of X G a_N, x_N, ai_N, tf_N, tkc_N⟩
  have x_F : ExC K C_F := ⟨xi_F, xo_F, hd_F, sa_F, xe_F, ty_F, kc_F⟩
  have E_F : ErrC K mg "Faulty" C_F f_iF := ⟨PySem.W.mg_of X G a_F, x_F, ai_F, tf_F, tkc_F⟩
  have eT : Err0 P w K mg base "TooLong" D.cTL (-2) := ⟨⟨_, _, E_T, ok_tl F_iT x_T tkc_T bs G_iB b_iB, b_iT⟩⟩
  have eN : Err0 P w K mg base "NoCard" D.cNC (-8) := ⟨⟨_, _, E_N, ok_nc F_iN x_N tkc_N bs G_iB b_iB, b_iN⟩⟩
  have eF : ErrF P w K mg base D.cF := ⟨⟨_, _, E_F, ok_ft F_iF x_F tkc_F tkk_F tkp_F bs G_iB b_iB, b_iF⟩⟩
  have mWord : Mak P w K mg base "Word" D.cW ["self", "text", "place"] (spIn2 D.cW "text" "place") := ⟨⟨_, _, ⟨mk_W, ai_W, if_W, kc_W⟩, ok_word F_iW tW, PySem.W.mg_of X G a_W, b_iW⟩⟩
  have mArr : Mak P w K mg base "Arrival" D.cA ["self", "state", "groups", "out"] (spIn3 D.cA "state" "groups" "out") := ⟨⟨_, _, ⟨mk_A, ai_A, if_A, kc_A⟩, ok_arr F_iA tA, PySem.W.mg_of X G a_A, b_iA⟩⟩
  have mDay : Mak P w K mg base "Day" D.cD ["self", "races", "pools", "arrivals"] (spIn3 D.cD "races" "pools" "arrivals") := ⟨⟨_, _, ⟨mk_Dy, ai_Dy, if_Dy, kc_Dy⟩, ok_day F_iDy tD, PySem.W.mg_of X G a_Dy, b_iDy⟩⟩
  have mPl : Mak P w K mg base "Pool" D.cPl ["self", "kind", "k", "race"] (spIn3 D.cPl "kind" "k" "race") := ⟨⟨_, _, ⟨mk_Pl, ai_Pl, if_Pl, kc_Pl⟩, ok_pl F_iPl tPl, PySem.W.mg_of X G a_Pl, b_iPl⟩⟩
  have mCd : Mak P w K mg base "Card" D.cCd ["self", "races", "pools"] (spIn2 D.cCd "races" "pools") := ⟨⟨_, _, ⟨mk_Cd, ai_Cd, if_Cd, kc_Cd⟩, ok_cd F_iCd tCd, PySem.W.mg_of X G a_Cd, b_iCd⟩⟩
  have tRc : TxRc P w K mg base D := ⟨tR, ⟨⟨_, _, ⟨mk_R, ai_R, if_R, kc_R⟩, ok_raceI F_iR tR tLen, PySem.W.mg_of X G a_R, b_iR⟩⟩, ⟨⟨_, _, tR.cl, ⟨am_ints, im_ints, k_ints⟩, ok_ints F_ints tR tLen, b_ints⟩⟩, ⟨⟨_, _, tR.cl, ⟨am_coup, im_coup, k_coup⟩, ok_coup F_coup tR, b_coup⟩⟩, ⟨⟨_, _, tR.cl, ⟨am_unc, im_unc, k_unc⟩, ok_unc F_unc tR, b_unc⟩⟩⟩
  have tE : TxE K mg D := ⟨PySem.W.mg_of X G a_F, PySem.W.mg_of X G a_B, exm_of xe_F iF ty_F su_FF, exm_of xe_F iF ty_F su_TF, exm_of bB iB tB su_TB, exm_of xe_F iF ty_F su_NF, exm_of bB iB tB su_NB, ⟨ga_F, gg_F, xe_F, hd_F⟩, ⟨ga_T, gg_T, xe_T, hd_T⟩, ⟨ga_N, gg_N, xe_N, hd_N⟩, fik_F, fip_F, fic_T, fic_N⟩
  have c_dec : Cal P w K mg base CX0 1 "decoded" ["data"] (spDec K) := ⟨⟨_, _, ok_dec F_dec tDec, PySem.W.mg_of X G a_dec, k_dec, b_dec⟩⟩
  have c_bnd : Cal P w K mg base CX0 1 "bounded_or_none" ["word", "low", "high"] spBnd := ⟨⟨_, _, ok_bnd F_bnd tLen, PySem.W.mg_of X G a_bnd, k_bnd, b_bnd⟩⟩
  have c_spl : Cal P w K mg base CX0 3 "split_line" ["line", "start"] (spSplit D) := ⟨⟨_, _, ok_split F_spl tLen mWord, PySem.W.mg_of X G a_spl, k_spl, b_spl⟩⟩
  have c_sig : Cal P w K mg base (L2.CX P w) 4 "check_signs" ["data", "start", "end"] (spSigns K D) := ⟨⟨_, _, ok_signs F_sig tLen eF, PySem.W.mg_of X G a_sig, k_sig, b_sig⟩⟩
  have c_the : Cal P w K mg base (L2.CX P w) 4 "check_there" ["word"] (spThere D) := ⟨⟨_, _, ok_there F_the tW eF, PySem.W.mg_of X G a_the, k_the, b_the⟩⟩
  have c_end : Cal P w K mg base (L2.CX P w) 4 "check_ended" ["word"] (spEnded D) := ⟨⟨_, _, ok_ended F_end tW eF, PySem.W.mg_of X G a_end, k_end, b_end⟩⟩
  have c_rno : Cal P w K mg base (L2.CX P w) 5 "read_race_number" ["words", "above", "highest"] (spRNo D) := ⟨⟨_, _, ok_rno F_rno tW c_bnd eF c_the, PySem.W.mg_of X G a_rno, k_rno, b_rno⟩⟩
  have c_run : Cal P w K mg base (L2.CX P w) 4 "read_runners" ["word", "sign", "runners", "met"] (spRun D) := ⟨⟨_, _, ok_run F_run tW c_bnd eF, PySem.W.mg_of X G a_run, k_run, b_run⟩⟩
  have c_cam : Cal P w K mg base (L2.CX P w) 5 "read_came" ["words", "runners"] (spCame D) := ⟨⟨_, _, ok_came F_cam tW tS c_run c_the c_end mArr, PySem.W.mg_of X G a_cam, k_cam, b_cam⟩⟩
  have c_arv : Cal P w K mg base (L2.CX P w) 6 "read_arrival" ["words", "runners"] (spArr D) := ⟨⟨_, _, ok_arrival F_arv tW tS eF c_cam c_end mArr, PySem.W.mg_of X G a_arv, k_arv, b_arv⟩⟩
  have c_res : Cal P w K mg base (L2.CX P w) 7 "read_result" ["data", "races"] (spRes K D) := ⟨⟨_, _, ok_res F_res tLen tS tR eF c_dec c_sig c_spl c_rno c_arv mArr, PySem.W.mg_of X G a_res, k_res, b_res⟩⟩
  have c_num : Cal P w K mg base (L2.CX P w) 4 "read_number" ["word", "low", "high"] (spNum D) := ⟨⟨_, _, ok_num F_num c_bnd eN, PySem.W.mg_of X G a_num, k_num, b_num⟩⟩
  have c_nam : Cal P w K mg base (L2.CX P w) 4 "check_name" ["word"] (spName D) := ⟨⟨_, _, ok_name F_nam tLen tLet eN, PySem.W.mg_of X G a_nam, k_nam, b_nam⟩⟩
  have c_dyc : Cal P w K mg base (L2.CX P w) 5 "check_day" ["words"] (spDayC K D) := ⟨⟨_, _, ok_dayC F_dyc tLen eN c_nam, PySem.W.mg_of X G a_dyc, k_dyc, b_dyc⟩⟩
  have c_rc : Cal P w K mg base (L2.CX P w) 5 "read_couple" ["words", "race"] (spRC K D) := ⟨⟨_, _, ok_rc F_rc tRc eN c_num, PySem.W.mg_of X G a_rc, k_rc, b_rc⟩⟩
  have c_rr : Cal P w K mg base (L2.CX P w) 6 "read_race" ["words"] (spRR K D) := ⟨⟨_, _, ok_rr F_rr tRc tLen tMc eN c_num c_rc, PySem.W.mg_of X G a_rr, k_rr, b_rr⟩⟩
  have c_lst : Cal P w K mg base (L2.CX P w) 5 "check_least" ["least_word", "unit_word"] (spLst D) := ⟨⟨_, _, ok_lst F_lst eN c_num, PySem.W.mg_of X G a_lst, k_lst, b_lst⟩⟩
  have c_knd : Cal P w K mg base (L2.CX P w) 5 "read_kind" ["kind", "length", "first", "races"] (spKnd D) := ⟨⟨_, _, ok_knd F_knd tKnd tLen tRc eN c_num mPl, PySem.W.mg_of X G a_knd, k_knd, b_knd⟩⟩
  have c_poo : Cal P w K mg base (L2.CX P w) 6 "read_pool" ["words", "races"] (spPool K D) := ⟨⟨_, _, ok_pool F_poo tPoo tLen eN c_num c_nam c_knd c_lst, PySem.W.mg_of X G a_poo, k_poo, b_poo⟩⟩
  have c_crd : Cal P w K mg base (L2.CX P w) 7 "read_card" ["data"] (spCard K D) := ⟨⟨_, _, ok_card F_crd tM tLen eN c_dec c_dyc c_rr c_poo mCd, PySem.W.mg_of X G a_crd, k_crd, b_crd⟩⟩
  have c_day : Cal P w K mg base (L2.CX P w) 8 "read_day" ["card", "result"] (spDayF K D) := ⟨⟨_, _, ok_dayF F_day tLen tLong eT c_crd c_res tCd mDay, PySem.W.mg_of X G a_day, k_day, b_day⟩⟩
  exact ok_jud (D := D) F_jud tE c_day
end RD
namespace RD
open PySem PySem.Spec PyProof.Rows L2 RX RT
theorem byte_V (z : Int) (h0 : 0 ≤ z) (h1 : z ≤ 255) : V.int z = V.int (((UInt8.ofNat z.toNat).toNat : Nat) : Int) := by
  rw [UInt8.toNat_ofNat', Nat.mod_eq_of_lt (show z.toNat < 2 ^ 8 by omega)]
  congr 1
  omega
theorem bytes_V : ∀ l : List Int, (l.all fun z => PySem.W.Codec.inInt 0 255 z) = true → l.map V.int = byV (ResultNeutral.text l)
  | [], _ => rfl
  | z :: r, h => by
    rw [List.all_cons, Bool.and_eq_true] at h
    have hz := h.1
    unfold PySem.W.Codec.inInt at hz
    simp only [Bool.and_eq_true, decide_eq_true_eq] at hz
    show V.int z :: r.map V.int = V.int (((UInt8.ofNat z.toNat).toNat : Nat) : Int) :: byV (ResultNeutral.text r)
    rw [← bytes_V r h.2, ← byte_V z hz.1 hz.2]
open PySem.W (Codec) in
theorem said (K : PySem.W.Frag) (H : Hp) (xs : List V) (a : Codec.denoteAll PySem.Challenge.rw_raceresults_s01_judge.args) (hwi : Codec.withinAll PySem.Challenge.rw_raceresults_s01_judge.args a = true) (hx : DwAll K H xs (Codec.encAll PySem.Challenge.rw_raceresults_s01_judge.args a)) :
    spJud K xs H (fun v H' => Dw K H' v (PySem.Challenge.rw_raceresults_s01_judge.ret.enc (Codec.app PySem.Challenge.rw_raceresults_s01_judge.args PySem.Challenge.rw_raceresults_s01_judge.f a))) fun _ _ _ => False := by
  cases hx with
  | cons h0 t0 =>
    cases t0 with
    | cons h1 t1 =>
      cases t1
      cases h0 with
      | lst hs ha =>
        cases h1 with
        | lst hs2 ha2 =>
          have e := ints_dw a.1 _ ha
          subst e
          have e2 := ints_dw a.2.1 _ ha2
          subst e2
          have q : ((Codec.inLen 0 66000 a.1 && a.1.all (Codec.inInt 0 255)) && ((Codec.inLen 0 66000 a.2.1 && a.2.1.all (Codec.inInt 0 255)) && true)) = true := hwi
          simp only [Bool.and_eq_true] at q
          rw [bytes_V a.1 q.1.2] at hs
          rw [bytes_V a.2.1 q.2.1.2] at hs2
          refine ⟨_, _, _, _, rfl, hs, hs2, fun H' p hp => ?_⟩
          have z : Dw K H' (.ref p) (.list ((judgeL (ResultNeutral.text a.1) (ResultNeutral.text a.2.1)).map PySem.W.WData.int)) := .lst (SqL.of hp) (dw_ints _)
          rw [← judge_is] at z
          exact z
end RD
open PySem PySem.W PyProof.Rows
set_option maxRecDepth 100000 in
set_option maxHeartbeats 0 in
theorem PySem.Challenge.cw_raceresults_s01_judge_holds : PySem.Challenge.rw_raceresults_s01_judge.Holds := by
  w_on; k_headS; (case hw => exact ⟨[.list [], .list []], by decide +kernel, by decide +kernel⟩)
  k_fillS
  refine L2.walk_specK (r := PySem.Challenge.rw_raceresults_s01_judge) (k := 9) (CX := L2.CX0) (ps := ["card", "result"]) (sp := RD.spJud) (by decide +kernel) rfl rfl ⟨rfl, by decide, by decide⟩ (fun w h Y => PySem.W.kIn_of Y) ?F ?S (fun _ _ _ _ z => z)
  case F =>
    intro w mg fa h Y KX G hmg
    refine' RD.all_mk KX G hmg ?a_dec ?l_dec ?c_c_dec ?k_dec ?a_bnd ?l_bnd ?c_c_bnd ?k_bnd ?a_spl ?l_spl ?c_c_spl ?k_spl ?a_sig ?l_sig ?c_c_sig ?k_sig ?a_the ?l_the ?c_c_the ?k_the ?a_end ?l_end ?c_c_end ?k_end ?a_rno ?l_rno ?c_c_rno ?k_rno ?a_run ?l_run ?c_c_run ?k_run ?a_cam ?l_cam ?c_c_cam ?k_cam ?a_arv ?l_arv ?c_c_arv ?k_arv ?a_res ?l_res ?c_c_res ?k_res ?a_num ?l_num ?c_c_num ?k_num ?a_nam ?l_nam ?c_c_nam ?k_nam ?a_dyc ?l_dyc ?c_c_dyc ?k_dyc ?a_rc ?l_rc ?c_c_rc ?k_rc ?a_rr ?l_rr ?c_c_rr ?k_rr ?a_lst ?l_lst ?c_c_lst ?k_lst ?a_knd ?l_knd ?c_c_knd ?k_knd ?a_poo ?l_poo ?c_c_poo ?k_poo ?a_crd ?l_crd ?c_c_crd ?k_crd ?a_day ?l_day ?c_c_day ?k_day ?a_jud ?l_jud ?c_c_jud ?k_jud ?a_W ?pg_W ?hd_W ?po_W ?sa_W ?mk_W ?kc_W ?n1_W ?n2_W ?ai_W ?if_W ?l_iW ?c_c_iW ?k_iW ?a_A ?pg_A ?hd_A ?po_A ?sa_A ?mk_A ?kc_A ?n1_A ?n2_A ?n3_A ?ai_A ?if_A ?l_iA ?c_c_iA ?k_iA ?a_Dy ?pg_Dy ?hd_Dy ?po_Dy ?sa_Dy ?mk_Dy ?kc_Dy ?n1_Dy ?n2_Dy ?n3_Dy ?ai_Dy ?if_Dy ?l_iDy ?c_c_iDy ?k_iDy ?a_R ?pg_R ?hd_R ?po_R ?sa_R ?mk_R ?kc_R ?n1_R ?n2_R ?ai_R ?if_R ?l_iR ?c_c_iR ?k_iR ?a_Pl ?pg_Pl ?hd_Pl ?po_Pl ?sa_Pl ?mk_Pl ?kc_Pl ?n1_Pl ?n2_Pl ?n3_Pl ?ai_Pl ?if_Pl ?l_iPl ?c_c_iPl ?k_iPl ?a_Cd ?pg_Cd ?hd_Cd ?po_Cd ?sa_Cd ?mk_Cd ?kc_Cd ?n1_Cd ?n2_Cd ?ai_Cd ?if_Cd ?l_iCd ?c_c_iCd ?k_iCd ?am_ints ?im_ints ?l_ints ?c_c_ints ?k_ints ?am_coup ?im_coup ?l_coup ?c_c_coup ?k_coup ?am_unc ?im_unc ?l_unc ?c_c_unc ?k_unc ?a_B ?rd_B ?sp_B ?fc_B ?l_iB ?c_c_iB ?k_iB ?bB ?iB ?tB ?a_T ?xi_T ?xo_T ?hd_T ?sa_T ?xe_T ?ty_T ?kc_T ?ai_T ?tf_T ?tkc_T ?fic_T ?ga_T ?gg_T ?l_iT ?c_c_iT ?k_iT ?a_N ?xi_N ?xo_N ?hd_N ?sa_N ?xe_N ?ty_N ?kc_N ?ai_N ?tf_N ?tkc_N ?fic_N ?ga_N ?gg_N ?l_iN ?c_c_iN ?k_iN ?a_F ?xi_F ?xo_F ?hd_F ?sa_F ?xe_F ?ty_F ?kc_F ?ai_F ?tf_F ?tkc_F ?fic_F ?tkk_F ?fik_F ?tkp_F ?fip_F ?ga_F ?gg_F ?l_iF ?c_c_iF ?k_iF ?iF ?su_FF ?su_TF ?su_TB ?su_NF ?su_NB ?z_len ?z_str ?z_int ?z_range ?z_list ?z_ord ?g_LONGEST ?g_MOST_RACES ?g_MOST_POOLS ?g_MOST_COUPLES ?g_OPEN ?g_CAME ?g_VOID ?g_SIGNS ?e_SIGNS ?g_STRANGE ?e_STRANGE ?g_LETTERS ?e_LETTERS ?g_MARKS ?l_MARKS ?q_MARKS ?g_NONES ?l_NONES ?q_NONES ?g_KINDS ?l_KINDS ?y_KINDS ?s_KINDS ?m_KINDS ?l_K1 ?q_K1 ?l_K2 ?q_K2 ?l_K3 ?q_K3 ?l_K4 ?q_K4
    (case a_dec => k_is)
    (case l_dec => k_is)
    (case c_c_dec => k_is)
    (case k_dec => k_is)
    (case a_bnd => k_is)
    (case l_bnd => k_is)
    (case c_c_bnd => k_is)
    (case k_bnd => k_is)
    (case a_spl => k_is)
    (case l_spl => k_is)
    (case c_c_spl => k_is)
    (case k_spl => k_is)
    (case a_sig => k_is)
    (case l_sig => k_is)
    (case c_c_sig => k_is)
    (case k_sig => k_is)
    (case a_the => k_is)
    (case l_the => k_is)
    (case c_c_the => k_is)
    (case k_the => k_is)
    (case a_end => k_is)
    (case l_end => k_is)
    (case c_c_end => k_is)
    (case k_end => k_is)
    (case a_rno => k_is)
    (case l_rno => k_is)
    (case c_c_rno => k_is)
    (case k_rno => k_is)
    (case a_run => k_is)
    (case l_run => k_is)
    (case c_c_run => k_is)
    (case k_run => k_is)
    (case a_cam => k_is)
    (case l_cam => k_is)
    (case c_c_cam => k_is)
    (case k_cam => k_is)
    (case a_arv => k_is)
    (case l_arv => k_is)
    (case c_c_arv => k_is)
    (case k_arv => k_is)
    (case a_res => k_is)
    (case l_res => k_is)
    (case c_c_res => k_is)
    (case k_res => k_is)
    (case a_num => k_is)
    (case l_num => k_is)
    (case c_c_num => k_is)
    (case k_num => k_is)
    (case a_nam => k_is)
    (case l_nam => k_is)
    (case c_c_nam => k_is)
    (case k_nam => k_is)
    (case a_dyc => k_is)
    (case l_dyc => k_is)
    (case c_c_dyc => k_is)
    (case k_dyc => k_is)
    (case a_rc => k_is)
    (case l_rc => k_is)
    (case c_c_rc => k_is)
    (case k_rc => k_is)
    (case a_rr => k_is)
    (case l_rr => k_is)
    (case c_c_rr => k_is)
    (case k_rr => k_is)
    (case a_lst => k_is)
    (case l_lst => k_is)
    (case c_c_lst => k_is)
    (case k_lst => k_is)
    (case a_knd => k_is)
    (case l_knd => k_is)
    (case c_c_knd => k_is)
    (case k_knd => k_is)
    (case a_poo => k_is)
    (case l_poo => k_is)
    (case c_c_poo => k_is)
    (case k_poo => k_is)
    (case a_crd => k_is)
    (case l_crd => k_is)
    (case c_c_crd => k_is)
    (case k_crd => k_is)
    (case a_day => k_is)
    (case l_day => k_is)
    (case c_c_day => k_is)
    (case k_day => k_is)
    (case a_jud => k_is)
    (case l_jud => k_is)
    (case c_c_jud => k_is)
    (case k_jud => k_is)
    (case a_W => k_is)
    (case pg_W => k_is)
    (case hd_W => k_is)
    (case po_W => k_is)
    (case sa_W => k_is)
    (case mk_W => k_is)
    (case kc_W => k_is)
    (case n1_W => k_is)
    (case n2_W => k_is)
    (case ai_W => k_is)
    (case if_W => k_is)
    (case l_iW => k_is)
    (case c_c_iW => k_is)
    (case k_iW => k_is)
    (case a_A => k_is)
    (case pg_A => k_is)
    (case hd_A => k_is)
    (case po_A => k_is)
    (case sa_A => k_is)
    (case mk_A => k_is)
    (case kc_A => k_is)
    (case n1_A => k_is)
    (case n2_A => k_is)
    (case n3_A => k_is)
    (case ai_A => k_is)
    (case if_A => k_is)
    (case l_iA => k_is)
    (case c_c_iA => k_is)
    (case k_iA => k_is)
    (case a_Dy => k_is)
    (case pg_Dy => k_is)
    (case hd_Dy => k_is)
    (case po_Dy => k_is)
    (case sa_Dy => k_is)
    (case mk_Dy => k_is)
    (case kc_Dy => k_is)
    (case n1_Dy => k_is)
    (case n2_Dy => k_is)
    (case n3_Dy => k_is)
    (case ai_Dy => k_is)
    (case if_Dy => k_is)
    (case l_iDy => k_is)
    (case c_c_iDy => k_is)
    (case k_iDy => k_is)
    (case a_R => k_is)
    (case pg_R => k_is)
    (case hd_R => k_is)
    (case po_R => k_is)
    (case sa_R => k_is)
    (case mk_R => k_is)
    (case kc_R => k_is)
    (case n1_R => k_is)
    (case n2_R => k_is)
    (case ai_R => k_is)
    (case if_R => k_is)
    (case l_iR => k_is)
    (case c_c_iR => k_is)
    (case k_iR => k_is)
    (case a_Pl => k_is)
    (case pg_Pl => k_is)
    (case hd_Pl => k_is)
    (case po_Pl => k_is)
    (case sa_Pl => k_is)
    (case mk_Pl => k_is)
    (case kc_Pl => k_is)
    (case n1_Pl => k_is)
    (case n2_Pl => k_is)
    (case n3_Pl => k_is)
    (case ai_Pl => k_is)
    (case if_Pl => k_is)
    (case l_iPl => k_is)
    (case c_c_iPl => k_is)
    (case k_iPl => k_is)
    (case a_Cd => k_is)
    (case pg_Cd => k_is)
    (case hd_Cd => k_is)
    (case po_Cd => k_is)
    (case sa_Cd => k_is)
    (case mk_Cd => k_is)
    (case kc_Cd => k_is)
    (case n1_Cd => k_is)
    (case n2_Cd => k_is)
    (case ai_Cd => k_is)
    (case if_Cd => k_is)
    (case l_iCd => k_is)
    (case c_c_iCd => k_is)
    (case k_iCd => k_is)
    (case am_ints => k_is)
    (case im_ints => k_is)
    (case l_ints => k_is)
    (case c_c_ints => k_is)
    (case k_ints => k_is)
    (case am_coup => k_is)
    (case im_coup => k_is)
    (case l_coup => k_is)
    (case c_c_coup => k_is)
    (case k_coup => k_is)
    (case am_unc => k_is)
    (case im_unc => k_is)
    (case l_unc => k_is)
    (case c_c_unc => k_is)
    (case k_unc => k_is)
    (case a_B => k_is)
    (case rd_B => k_is)
    (case sp_B => k_is)
    (case fc_B => k_is)
    (case l_iB => k_is)
    (case c_c_iB => k_is)
    (case k_iB => k_is)
    (case bB => k_is)
    (case iB => k_is)
    (case tB => k_is)
    (case a_T => k_is)
    (case xi_T => kx_is)
    (case xo_T => kx_is)
    (case hd_T => k_is)
    (case sa_T => k_is)
    (case xe_T => k_is)
    (case ty_T => k_is)
    (case kc_T => k_is)
    (case ai_T => k_is)
    (case tf_T => k_is)
    (case tkc_T => k_is)
    (case fic_T => k_is)
    (case ga_T => k_is)
    (case gg_T => k_is)
    (case l_iT => k_is)
    (case c_c_iT => k_is)
    (case k_iT => k_is)
    (case a_N => k_is)
    (case xi_N => kx_is)
    (case xo_N => kx_is)
    (case hd_N => k_is)
    (case sa_N => k_is)
    (case xe_N => k_is)
    (case ty_N => k_is)
    (case kc_N => k_is)
    (case ai_N => k_is)
    (case tf_N => k_is)
    (case tkc_N => k_is)
    (case fic_N => k_is)
    (case ga_N => k_is)
    (case gg_N => k_is)
    (case l_iN => k_is)
    (case c_c_iN => k_is)
    (case k_iN => k_is)
    (case a_F => k_is)
    (case xi_F => kx_is)
    (case xo_F => kx_is)
    (case hd_F => k_is)
    (case sa_F => k_is)
    (case xe_F => k_is)
    (case ty_F => k_is)
    (case kc_F => k_is)
    (case ai_F => k_is)
    (case tf_F => k_is)
    (case tkc_F => k_is)
    (case fic_F => k_is)
    (case tkk_F => k_is)
    (case fik_F => k_is)
    (case tkp_F => k_is)
    (case fip_F => k_is)
    (case ga_F => k_is)
    (case gg_F => k_is)
    (case l_iF => k_is)
    (case c_c_iF => k_is)
    (case k_iF => k_is)
    (case iF => k_is)
    (case su_FF => first | k_is | rfl)
    (case su_TF => first | k_is | rfl)
    (case su_TB => first | k_is | rfl)
    (case su_NF => first | k_is | rfl)
    (case su_NB => first | k_is | rfl)
    (case z_len => k_is)
    (case z_str => k_is)
    (case z_int => k_is)
    (case z_range => k_is)
    (case z_list => k_is)
    (case z_ord => k_is)
    (case g_LONGEST => k_is)
    (case g_MOST_RACES => k_is)
    (case g_MOST_POOLS => k_is)
    (case g_MOST_COUPLES => k_is)
    (case g_OPEN => k_is)
    (case g_CAME => k_is)
    (case g_VOID => k_is)
    (case g_SIGNS => k_is)
    (case e_SIGNS => decide +kernel)
    (case g_STRANGE => k_is)
    (case e_STRANGE => decide +kernel)
    (case g_LETTERS => k_is)
    (case e_LETTERS => decide +kernel)
    (case g_MARKS => k_is)
    (case l_MARKS => k_is)
    (case q_MARKS => first | rfl | decide +kernel)
    (case g_NONES => k_is)
    (case l_NONES => k_is)
    (case q_NONES => first | rfl | decide +kernel)
    (case g_KINDS => k_is)
    (case l_KINDS => k_is)
    (case y_KINDS => first | exact ⟨⟨_, _, rfl, rfl⟩, ⟨_, _, rfl, rfl⟩, ⟨_, _, rfl, rfl⟩, ⟨_, _, rfl, rfl⟩, trivial⟩ | (simp only [PySem.W.KeysLit]; decide))
    (case s_KINDS => first | rfl | decide)
    (case m_KINDS => first | rfl | decide +kernel)
    (case l_K1 => k_is)
    (case q_K1 => first | rfl | decide +kernel)
    (case l_K2 => k_is)
    (case q_K2 => first | rfl | decide +kernel)
    (case l_K3 => k_is)
    (case q_K3 => first | rfl | decide +kernel)
    (case l_K4 => k_is)
    (case q_K4 => first | rfl | decide +kernel)
  case S =>
    intro K H xs a hO hwi hask hx
    exact RD.said K H xs a hwi hx
