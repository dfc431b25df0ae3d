import PyProof.Rows.All
import Wide.All
import OpenK.AllK
import Wide.FinOn
import KE.KExcIs
import KE.KExcMore
import HandS.ForMost
import HandS.ForExc
import HandS.ExcInit
import HandS.ExcField
import HandS.ExcIs
import HandS.ExcValue
import HandS.IsInst
import HandS.HeadHook4
import HandS.Strs
import PyProof.ListStr
import PyProof.StrOps2
import HandS.HotCalls
import HandS.TryMany
import PyProof.ReprRoads
import PyProof.CallFns
import PyProof.Rows.FactsT3
import PyProof.StrLawsRepr
import PyProof.ReprLen
import HandS.Defaults
import KE.GoesEnum
import HandS.Walk
import KE.KOpsOwn
import HandS.OwnEq
import HandS.StrMore
import HandS.Style
import HandS.Lambda
import KE.KStateDown
import HandS.Head2
import HandS.HeadEnd
import PySem.Challenge.RW_letterfolds_k81_identities_that_are_read
set_option Elab.async false
set_option linter.all false
set_option maxRecDepth 100000
set_option maxHeartbeats 4000000
/-! Facts of error classes. -/
namespace Lf
open PySem PySem.Spec PyProof.Rows L2
/-- what isinstance of an error of the class at C wants -/
structure IsC (K : PySem.W.Frag) (C : Addr) : Prop where
  cl : (PySem.W.clsIn K C).isSome = true
  ga : PySem.W.findIn K (.ref C) "__getattribute__" = some (some (.builtin "BaseException.__getattribute__"))
  gg : PySem.W.findIn K (.ref C) "__getattr__" = some none
  sb : PySem.W.subIn K (.ref C) (.type "BaseException") = some true
  ca : PySem.W.findIn K (.ref C) "__class__" = some (some (.builtin "object.__class__"))
  sg : PySem.W.specialIn K (.builtin "object.__class__") "__get__" = some (some (.builtin "getset_descriptor.__get__"))
  tk : PySem.W.takesIn K (.builtin "object.__class__") = some true
  ob : PySem.W.mroIn K C (.type "object") = some true
/-! ### the classes by one look at the written part -/
/-- an exception class over ValueError -/
def oexB (K : PySem.W.Frag) (C : Addr) : Bool := match K.lookup C with
  | some ⟨.type t, _, .cls cd, sl⟩ => (match cd.mro, sl.toList with
    | .ref D :: bm, [_, _, _, _, some (.builtin n), _] => decide (t = "type") && (decide (D = C) && (decide (n = "ValueError.__new__") && (!cd.hasDel && (cd.hasDict && PySem.HandSPX.refsVE bm))))
    | _, _ => false)
  | _ => false
theorem oexB_ok {K : PySem.W.Frag} {C : Addr} (h : oexB K C = true) : ∃ nm q N bs bm sn sub ab col dd k0 k1 k2 k3 k5,
    K.lookup C = some (excClassObj nm q C N bs bm true sn sub ab col dd k0 k1 k2 k3 k5 "ValueError.__new__") ∧ PySem.HandSPX.refsVE bm = true := by
  unfold oexB at h
  split at h
  · rename_i t dd cd sl lk
    split at h
    · rename_i D bm k0 k1 k2 k3 n k5 hm hs
      simp only [Bool.and_eq_true, decide_eq_true_eq, Bool.not_eq_true'] at h
      obtain ⟨rfl, rfl, rfl, h4, h5, h6⟩ := h
      obtain ⟨nm, bs, mro, ns, qn, hd, sn, sub, ab, col, del⟩ := cd
      dsimp only at hm h4 h5
      subst hm h4 h5
      obtain ⟨l⟩ := sl
      dsimp only at hs
      subst hs
      exact ⟨nm, qn, ns, bs, bm, sn, sub, ab, col, dd, k0, k1, k2, k3, k5, lk, h6⟩
    · cases h
  · cases h
def errB (K : PySem.W.Frag) (C : Addr) : Bool :=
  oexB K C && (decide (PySem.W.findIn K (.ref C) "__setattr__" = some (some (.builtin "object.__setattr__"))) && (decide (PySem.W.subIn K (.ref C) (.type "BaseException") = some true) &&
  (decide (PySem.W.typeIn K (.ref C) = some (.type "type")) && (PySem.W.keepIn K (.ref C) && (PySem.W.hasDictIn K C &&
  (decide (PySem.W.findIn K (.ref C) "__getattribute__" = some (some (.builtin "BaseException.__getattribute__"))) && (decide (PySem.W.findIn K (.ref C) "__getattr__" = some none) &&
  (decide (PySem.W.findIn K (.ref C) "__class__" = some (some (.builtin "object.__class__"))) && (decide (PySem.W.specialIn K (.builtin "object.__class__") "__get__" = some (some (.builtin "getset_descriptor.__get__"))) &&
  (decide (PySem.W.takesIn K (.builtin "object.__class__") = some true) && decide (PySem.W.mroIn K C (.type "object") = some true)))))))))))
structure ErrC (K : PySem.W.Frag) (C : Addr) : Prop where
  o : OexC K C
  x : XfC K C
  i : IsC K C
theorem errB_ok {K : PySem.W.Frag} {C : Addr} (h : errB K C = true) : ErrC K C := by
  unfold errB at h
  simp only [Bool.and_eq_true, decide_eq_true_eq] at h
  obtain ⟨h1, h2, h3, h4, h5, h6, h7, h8, h9, h10, h11, h12⟩ := h
  have hc : (PySem.W.clsIn K C).isSome = true := by
    obtain ⟨nm, q, N, bs, bm, sn, sub, ab, col, dd, k0, k1, k2, k3, k5, lk, _⟩ := oexB_ok h1
    unfold PySem.W.clsIn
    rw [lk] <;> rfl
  exact ⟨⟨oexB_ok h1, h2, h3, h4, h5⟩, ⟨h7, h8, h3, h6⟩, ⟨hc, h7, h8, h3, h9, h10, h11, h12⟩⟩
end Lf

set_option Elab.async false
set_option linter.all false
set_option maxRecDepth 100000
set_option maxHeartbeats 4000000
/-! Errors of the program's own as values: made, read, asked, told. -/
namespace Lf
open PySem PySem.Spec PyProof.Rows L2

/-! ### made -/
/-- C(e, ..) as a value, C's own __init__ keeping sp -/
def tNew (C : Addr) (sp : Sp) (ta : TA) : TE := fun σ H Q => ta σ H fun vs H1 =>
  vs.length ≤ 1000 ∧ ∀ a, H1 a = none → sp (.ref a :: vs) (upd H1 a (exo a C none)) (fun v H2 => v = .non ∧ Q (.ref a) H2) E0
section
variable {X : Cx} {CX : CXT} {x : Str} {C fI : Addr} {k : Nat} {fd : FuncData} {ps : List Str} {sp : Sp} {e : Expr} {es : List Expr} {ta : TA} {p pos : Pos}
theorem pe_new (T : OexC X.K C) (iC : PySem.W.findIn X.K (.ref C) "__init__" = some (some (.ref fI)))
    (tI : PySem.W.typeIn X.K (.ref fI) = some (.type "function"))
    (F1 : FnOk X.prog X.w X.K X.mg X.base CX k fI fd ps sp) (hr : Room (k + 1) X.A) (hb : Binds X.K fd ps [])
    (hx : Passes CX X E0) (hg : Gl X x) (hm : X.mg x = some (.ref C)) (ha : PA X (e :: es) ta)
    (hdb : (x == ("__debug__" : Str)) = false := by decide +kernel)
    (he : starEach (e :: es) X.env = (false, eval e X.env) :: starEach es X.env := by rfl)
    (hpl : (backTo pos (starEach es X.env)).any (·.1) = false := by rfl) :
    PE X (.Call (.Name x p) (e :: es) [] pos) (tNew C sp ta) := by
  refine ⟨fun pins s σ H Q I h => ?_⟩
  obtain ⟨nm, q, N, bs, bm, sn, sub, ab, col, dd, k0, k1, k2, k3, k5, hC, hbm⟩ := T.cls
  refine wpAny_Call_Name_kw (ld_glob I hg hm ?_ hdb)
  refine PySem.W.callWith_K (h₀ := X.base) I.ok.mod.kin T.kC
    (thn (ha.run pos pins s σ H _ I h) fun us s1 hh => ?_) he hpl
  obtain ⟨vs, H1, I1, r1, hz, q1⟩ := hh
  refine ⟨I1.kIn, ?_⟩
  show wpAny _ _ (call (.ref C) us) _ _ _
  obtain ⟨hp, g, dr, tk, os⟩ := s1
  let a := hp.objs.size + 1
  have hsz : hp.objs.size ≤ a := Nat.le_succ _
  have hq := q1 a (I1.hok.fresh hsz)
  let hp' := (hp.push (PySem.W.kdv_tup us)).push (PySem.HandSPX.excO C hp.objs.size)
  have kk : ∀ b o, hp.get? b = some o → hp'.get? b = some o := fun b o z =>
    Heap.get?_push_of_some _ (Heap.get?_push_of_some _ z)
  have hget : ((hp.push (PySem.W.kdv_tup us)).push (PySem.HandSPX.excO C hp.objs.size)).get? (hp.objs.size + 1) =
    some (PySem.HandSPX.excO C hp.objs.size) := by heap_get
  have I2 : Inv X pins σ (upd H1 a (exo a C none)) ⟨hp', g, dr, tk, os⟩ :=
    I1.laid (t' := tk) (a := a) (o := exo a C none) (h' := hp') kk hsz (exo_ok (show hp'.get? a = _ from hget))
  have r2 : Vals (V.ref a :: vs) (Value.ref a :: us) := .cons rfl r1
  have hl : (Value.ref a :: us).length = ps.length := by
    have z := r2.length
    rw [F1.len _ _ _ _ hq] at z
    exact z.symm
  have hus : us.length ≤ sizeLine := by
    rw [← Paired.length r1, sizeLine_eq]
    omega
  have hb2 := hb ⟨hp', g, dr, tk, os⟩ (Value.ref a :: us) I2.kIn (by simpa using hl)
  rw [List.append_nil] at hb2
  refine wpAny_call (PySem.HandSPX.call_own F.excBase_ValueError (fun Y => PySem.HandSPX.refsVE_contains Y bm hbm) (I1.kIn _ _ hC)
    (PySem.W.looks_findIn I1.kIn iC) (fun self => PySem.W.bind_fn I1.kIn self tI) hus
    (codeAny_mono (F1.run _ X.stack _ _ ⟨Value.ref a :: us, []⟩ (Value.ref a :: us) _ _ E0 (hr.make C us []) (I2.env0.make C us []) hb2 r2 hq) fun r s' hq' => ?_))
  cases r with
  | error er => exact hx pins σ _ _ er s' I2 hq'
  | ok fl =>
    cases fl with
    | ret u =>
      obtain ⟨v, H2, os2, bare2, un2, hok2, rv, ev, q2⟩ := hq'
      subst ev
      exact ⟨rv, .ref a, H2, I2.call' (ch := []) os2 un2 hok2 bare2 (fun b z => nomatch z), rfl, q2⟩
    | next => exact False.elim hq'
    | brk => exact False.elim hq'
    | cont => exact False.elim hq'
end

/-! ### an error that stands -/
/-- at a an error of the class at C: its dict d, if it has one -/
def XAt (H : Hp) (a C : Addr) (d : Option Addr) : Prop := H a = some (exo a C d) ∨ (d = none ∧ H a = some (ExO (.ref C) a))
theorem XAt.obj {X : Cx} {pins : List (Addr × Obj)} {σ : L2.St} {H : Hp} {s : Shared} {a C : Addr} {d : Option Addr} (I : Inv X pins σ H s) (h : XAt H a C d) :
    ∃ oe vs, s.heap.get? a = some oe ∧ Zc (.ref C) d oe ∧ oe.data = .fields vs := by
  rcases h with h | ⟨rfl, h⟩
  · obtain ⟨t1, ho⟩ := exo_at I.hok h
    exact ⟨_, _, ho, ⟨rfl, rfl⟩, rfl⟩
  · obtain ⟨⟨oe, vs, ho, hz, hd, _⟩, _, _⟩ := I.hok a _ h
    exact ⟨oe, vs, ho, hz, hd⟩
theorem XAt.mono {H H' : Hp} {a C : Addr} {d : Option Addr} (h : XAt H a C d) (e : Same H H') : XAt H' a C d := by
  rcases h with h | ⟨z, h⟩
  · exact .inl (e _ _ h)
  · exact .inr ⟨z, e _ _ h⟩

/-! ### a field -/
def tXo (K : PySem.W.Frag) (f : Str) (te : TE) : TE := fun σ H Q => te σ H fun x H1 => ∃ (a C d : Addr) (fs : List (Str × V)) (v : V),
  x = .ref a ∧ XfC K C ∧ PySem.W.findIn K (.ref C) f = some none ∧ XAt H1 a C (some d) ∧ H1 d = some (exd d fs) ∧ fs.lookup f = some v ∧ Q v H1
theorem pe_xo {X : Cx} {e : Expr} {te : TE} {pos : Pos} {n : Str} (he : PE X e te)
    (hb : attributeBase e n X.env (eval e X.env) = eval e X.env := by rfl) : PE X (.Attribute e n pos) (tXo X.K n te) := by
  refine ⟨fun pins s σ H Q I h => ?_⟩
  refine attr_of hb (thn (he.run pins s σ H _ I h) fun u s1 hh => ?_)
  obtain ⟨x, H1, I1, rx, a, C, d, fs, v, ex, T, hno, ea, ed, l, q⟩ := hh
  subst ex
  obtain rfl : u = Value.ref a := rx
  obtain ⟨oe, vs, ho, hz, hd⟩ := ea.obj I1
  obtain ⟨mA, hns, hr⟩ := exd_at I1.hok ed
  obtain ⟨od, ho2, hl⟩ := lookIn_ns hns
  obtain ⟨u, hu, ru⟩ := RelO.some_of (v := v) (o := mA n) (by rw [← l]; exact hr n)
  have J : PySem.W.InstAt s1.heap a oe C (some od) := ⟨ho, hz.1, by unfold PySem.W.notCls; rw [hd] <;> rfl, by rw [hz.2]; exact ho2⟩
  exact HandSPX.exc_get I1.kIn J T.ga T.gg T.exC (PySem.W.findObj_own T.hdC hno rfl (by rw [hl, hu])) (handed_of ru)
    ⟨v, H1, I1.tok _, ru, q⟩

/-! ### isinstance -/
/-- its dict, if it has one, is an error's -/
def XDict (H : Hp) (d : Option Addr) : Prop := ∀ dx, d = some dx → ∃ fs, H dx = some (exd dx fs)
theorem XAt.inst {X : Cx} {pins : List (Addr × Obj)} {σ : L2.St} {H : Hp} {s : Shared} {a C : Addr} {d : Option Addr} (I : Inv X pins σ H s) (h : XAt H a C d) (hd : XDict H d) :
    ∃ ox od, PySem.W.InstAt s.heap a ox C od := by
  obtain ⟨oe, vs, ho, hz, hv⟩ := h.obj I
  have nc : PySem.W.notCls oe = true := by unfold PySem.W.notCls; rw [hv] <;> rfl
  cases d with
  | none => exact ⟨oe, none, ho, hz.1, nc, by rw [hz.2]; trivial⟩
  | some dx =>
    obtain ⟨fs, e⟩ := hd dx rfl
    obtain ⟨mA, hns, _⟩ := exd_at I.hok e
    obtain ⟨od, ho2, _⟩ := lookIn_ns hns
    exact ⟨oe, some od, ho, hz.1, nc, by rw [hz.2]; exact ho2⟩
def rIsX (K : PySem.W.Frag) : List V → Hp → VK → Prop := fun xs H Q => ∃ (a C : Addr) (d : Option Addr) (c : V) (cv : Value) (b : Bool),
  xs = [.ref a, c] ∧ ClsV c cv ∧ IsC K C ∧ XAt H a C d ∧ XDict H d ∧ PySem.W.kitOne K (.ref C) cv = some b ∧ Q (.bl b) H
theorem call_isX {X : Cx} : CallR X (.builtin "isinstance") (rIsX X.K) := by
  intro pins s σ H xs us Q I r h
  obtain ⟨a, C, d, c, cv, b, rfl, k, T, ha, hd, e, q⟩ := h
  obtain ⟨u1, u2, rfl, r1, r2⟩ := vals2 r
  obtain rfl := k.eq r2
  obtain rfl : u1 = Value.ref a := r1
  obtain ⟨ox, od, J⟩ := ha.inst I hd
  exact PySem.W.kia_one (PySem.W.kitx_exc (od := od) T.cl T.ga T.gg T.sb T.ca T.sg T.tk T.ob) I.kIn J e (fun z => nomatch z)
    fun tk => ⟨.bl b, H, I.tok tk, rfl, q⟩
def rIsXT (K : PySem.W.Frag) : List V → Hp → VK → Prop := fun xs H Q => ∃ (a C : Addr) (d : Option Addr) (tp : Addr) (cs : List V) (us : List Value) (b : Bool),
  xs = [.ref a, .ref tp] ∧ H tp = some (.tup cs) ∧ Paired ClsV cs us ∧ IsC K C ∧ XAt H a C d ∧ XDict H d ∧ PySem.W.kitAny K (.ref C) us = some b ∧ Q (.bl b) H
theorem call_isXT {X : Cx} : CallR X (.builtin "isinstance") (rIsXT X.K) := by
  intro pins s σ H xs us Q I r h
  obtain ⟨a, C, d, tp, cs, ws, b, rfl, htp, k, T, ha, hd, e, q⟩ := h
  obtain ⟨u1, u2, rfl, r1, r2⟩ := vals2 r
  obtain rfl : u1 = Value.ref a := r1
  obtain rfl : u2 = Value.ref tp := r2
  obtain ⟨ox, od, J⟩ := ha.inst I hd
  obtain ⟨_, its, rv, ⟨oc, dd, dt, sl⟩, h1, h2, n, h3⟩ := (show ObjOk X.prog X.w H s.heap tp (.tup cs) from I.hok tp _ htp)
  obtain rfl := ClsV.all k rv
  dsimp only at h2 h3
  subst h2 h3
  exact PySem.W.kia_tup (PySem.W.kitx_exc (od := od) T.cl T.ga T.gg T.sb T.ca T.sg T.tk T.ob) I.kIn J h1 e (fun z => nomatch z)
    fun tk => ⟨.bl b, H, I.tok tk, rfl, q⟩

/-! ### told() -/
/-- e.m() of an error e, by what stands of its class -/
def tTold (X : Cx) (m : Str) (te : TE) : TE := fun σ H Q => te σ H fun x H1 => ∃ (a C f : Addr) (d : Option Addr) (fd : FuncData) (sp : Sp),
  x = .ref a ∧ IsC X.K C ∧ Meth X.K C m f ∧ XAt H1 a C d ∧ (∀ dx, d = some dx → ∃ fs, H1 dx = some (exd dx fs) ∧ fs.lookup m = none) ∧
    FnOk X.prog X.w X.K X.mg X.base CX0 1 f fd ["self"] sp ∧ Binds X.K fd ["self"] [] ∧ sp [.ref a] H1 Q E0
theorem pe_told {X : Cx} {o : Expr} {m : Str} {te : TE} {pos apos : Pos} {pl : Sem Bool} (he : PE X o te) (hr : Room 1 X.A)
    (ht : eval (.Call (.Attribute o m apos) [] [] pos) X.env = (do
      let ov ← eval o X.env
      standAt apos.atName
      let (f, first) ← holding [ov] (getMethod ov m pl)
      callWith pos f first (backTo pos (starEach [] X.env)) (backToKw pos (keywordEach [] X.env))) := by rfl) :
    PE X (.Call (.Attribute o m apos) [] [] pos) (tTold X m te) := by
  refine ⟨fun pins s σ H Q I h => ?_⟩
  refine PySem.W.methodCall_KW (pl := pl) (thn (he.run pins s σ H _ I h) fun u s1 hh => ?_) ht
  obtain ⟨x, H1, I1, rx, a, C, f, d, fd, sp, rfl, T, M, ha, hd, FO, hb, q⟩ := hh
  obtain rfl : u = Value.ref a := rx
  obtain ⟨mm, fr⟩ := I1.fr
  obtain ⟨oe, vs, ho, hz, hv⟩ := ha.obj I1
  have nc : PySem.W.notCls oe = true := by unfold PySem.W.notCls; rw [hv] <;> rfl
  have go : wpAny (model X.prog X.w) X.A (callWith pos (Value.ref f) [Value.ref a] (backTo pos (starEach [] X.env)) []) (EP X pins σ Q) X.xe s1 :=
    PySem.W.callWith_K0 (first := [.ref a]) I1.kIn M.kp (run_fn (us := [.ref a]) (vs := [.ref a]) FO hr hb .nil pass0 I1 (.cons rfl .nil) q)
  cases d with
  | none =>
    have J : PySem.W.InstAt s1.heap a oe C none := ⟨ho, hz.1, nc, by rw [hz.2]; trivial⟩
    exact PySem.W.method_exc fr I1.ok.mod.kin J T.ga T.gg M.at_ M.fn rfl go
  | some dx =>
    obtain ⟨fs, e, hl⟩ := hd dx rfl
    obtain ⟨mA, hns, rel⟩ := exd_at I1.hok e
    obtain ⟨od, ho2, hk⟩ := lookIn_ns hns
    have J : PySem.W.InstAt s1.heap a oe C (some od) := ⟨ho, hz.1, nc, by rw [hz.2]; exact ho2⟩
    have hm : mA m = none := by
      have z := rel m
      rw [hl] at z
      cases y : mA m with
      | none => rfl
      | some v => rw [y] at z; exact z.elim
    exact PySem.W.method_exc fr I1.ok.mod.kin J T.ga T.gg M.at_ M.fn (by show (PySem.W.lookIn m od).map _ = _; rw [hk, hm]; rfl) go

/-! ### made without own __init__, of nothing -/
theorem pe_bare {X : Cx} {C : Addr} {bmB : List Value} {B newId initId : String} {x : Str} {p pos : Pos} (F : ExcBaseFacts B newId initId bmB)
    (q : PySem.W.excIn X.K C bmB newId = true) (gC : X.mg x = some (.ref C)) (kC : PySem.W.keepIn X.K (.ref C) = true) (hg : Gl X x)
    (hdb : (x == ("__debug__" : Str)) = false := by decide +kernel) :
    PE X (.Call (.Name x p) [] [] pos) (fun _ H Q => ∀ a, H a = none → Q (.ref a) (upd H a (ExO (.ref C) a))) := by
  refine ⟨fun pins s σ H Q I h => ?_⟩
  refine wpAny_Call_Name_kw (ld_glob I hg gC ?_ hdb)
  refine PySem.W.callWith_K0 I.kIn kC ?_
  show wpAny _ _ (call (.ref C) []) _ _ _
  obtain ⟨bm, N, nm, qn, bs, hdct, sn, sub, ab, col, dd, k0, k1, k2, k3, k5, mN, hC, hN, hni, T⟩ := exc_obj I.kIn q
  refine wpAny_call_exc_subT F T hC hN hni (fun h' a hm => ?_) (Nat.zero_le _)
  have hn : H a = none := I.hok.gone hm.new
  obtain ⟨t, ht, _, _⟩ := hm.there
  exact ⟨.ref a, _, I.laidN hm.keeps hm.new hn (exO_ok ht ⟨rfl, rfl⟩ rfl rfl rfl (show 4 < 6 by decide)), rfl, h a hn⟩

/-! ### by a weaker reading -/
theorem PE.imp {X : Cx} {e : Expr} {t t' : TE} (h : PE X e t) (f : ∀ σ H Q, t' σ H Q → t σ H Q) : PE X e t' := ⟨fun pins s σ H Q I q => h.run pins s σ H Q I (f σ H Q q)⟩
theorem PSs.imp {X : Cx} {e : List Stmt} {t t' : TS} (h : PSs X e t) (f : ∀ D σ H, t' D σ H → t D σ H) : PSs X e t' := ⟨fun pins s σ H D I q => h.run pins s σ H D I (f D σ H q)⟩
/-- a reading that may be weakened -/
def up (t : TE) : TE := fun σ H Q => ∃ Q0, t σ H Q0 ∧ ∀ v H', Q0 v H' → Q v H'
theorem PE.up {X : Cx} {e : Expr} {t : TE} (h : PE X e t) : PE X e (Lf.up t) := ⟨fun pins s σ H Q I q => by
  obtain ⟨Q0, q, k⟩ := q
  exact thn (h.run pins s σ H Q0 I q) fun u s1 r => by
    obtain ⟨v, H', I', rv, z⟩ := r
    exact ⟨v, H', I', rv, k v H' z⟩⟩
/-- a class (or another thing) of the module by its name -/
theorem pe_cl {X : Cx} {x : Str} {a : Addr} {pos : Pos} (hg : Gl X x) (hm : X.mg x = some (.ref a)) (hd : (x == ("__debug__" : Str)) = false := by decide +kernel) : PE X (.Name x pos) (tC (.ref a)) := pe_glob hg hm rfl hd
/-- an int of the module by its name -/
theorem pe_gint {X : Cx} {x : Str} {i : Int} {t : Tok} {pos : Pos} (hg : Gl X x) (hm : X.mg x = some (.int i t)) (hd : (x == ("__debug__" : Str)) = false := by decide +kernel) : PE X (.Name x pos) (tC (.int i)) := pe_glob hg hm ⟨t, rfl⟩ hd
theorem same_upd {H : Hp} {p : Addr} {o : HO} (n : H p = none) : Same H (upd H p o) := fun b u e => by rw [upd_ne (ne_of_none e n)]; exact e

/-! ### a def of the module, called by its name -/
structure Def (P : Program) (w : World) (K : PySem.W.Frag) (mg : Str → Option Value) (base : Heap) (CX : CXT) (k : Nat) (x : Str) (ps : List Str) (sp : Sp) : Prop where
  ex : ∃ f fd, mg x = some (.ref f) ∧ PySem.W.keepIn K (.ref f) = true ∧ FnOk P w K mg base CX k f fd ps sp ∧ Binds K fd ps []
section
variable {X : Cx} {CX : CXT} {k : Nat} {x : Str} {ps : List Str} {sp : Sp} {E : XK} {e : Expr} {es : List Expr} {t : TA} {p pos : Pos}
theorem pe_def (D : Def X.prog X.w X.K X.mg X.base CX k x ps sp) (hr : Room k X.A) (hx : Passes CX X E) (hg : Gl X x) (ha : PA X (e :: es) t)
    (hdb : (x == ("__debug__" : Str)) = false := by decide +kernel) (he : starEach (e :: es) X.env = (false, eval e X.env) :: starEach es X.env := by rfl)
    (hpl : (backTo pos (starEach es X.env)).any (·.1) = false := by rfl) : PE X (.Call (.Name x p) (e :: es) [] pos) (fun σ H Q => t σ H fun vs H1 => sp vs H1 Q E) := by
  obtain ⟨f, fd, g, kp, F, b⟩ := D.ex
  exact PE.imp (pe_call F hr hg g kp b .nil hx ha hdb he hpl) fun σ H Q h => by
    show t σ H fun vs H1 => sp (vs ++ []) H1 Q E
    simpa only [List.append_nil] using h
theorem pe_def0 (D : Def X.prog X.w X.K X.mg X.base CX k x ps sp) (hr : Room k X.A) (hx : Passes CX X E) (hg : Gl X x)
    (hdb : (x == ("__debug__" : Str)) = false := by decide +kernel) : PE X (.Call (.Name x p) [] [] pos) (fun _ H Q => sp [] H Q E) := by
  obtain ⟨f, fd, g, kp, F, b⟩ := D.ex
  exact pe_call0 F hr hg g kp b .nil hx hdb
end

/-! ### told, __init__ -/
def spTold (t : Str) : Sp := fun vs H Q _ => ∃ v, vs = [v] ∧ Q (.str t) H
def spIni1 (C : Addr) (f : Str) : Sp := fun vs H Q _ => ∃ a v, vs = [.ref a, v] ∧ H a = some (exo a C none) ∧
  ∀ d, H d = none → d ≠ a → Q .non (upd (upd H d (exd d [(f, v)])) a (exo a C (some d)))
def spIni2 (C : Addr) (f g : Str) : Sp := fun vs H Q _ => ∃ a v u, vs = [.ref a, v, u] ∧ H a = some (exo a C none) ∧
  ∀ d, H d = none → d ≠ a → Q .non (upd (upd (upd H d (exd d [(f, v)])) a (exo a C (some d))) d (exd d [(g, u), (f, v)]))
section
variable {P : Program} {w : World} {K : PySem.W.Frag} {mg : Str → Option Value} {base : Heap} {C f : Addr} {fd : FuncData} {q : Str} {a : Arguments} {sc : Scope}
theorem vis_of {N ps : List Str} (S : FnScope N ps sc) {x : Str} (h : x ∈ ps) : Vis sc x := by
  rcases S.par x h with e | e
  · exact .inl e
  · exact .inr (.inl e)
theorem told_ok {t : Str} {j : Nat} {p p2 : Pos} (F : FunD K "told" q a [.Return (some (.Constant (.str t) j p)) p2] sc [] [] f fd) (S : FnScope ["self"] ["self"] sc) :
    FnOk P w K mg base CX0 1 f fd ["self"] (spTold t) := by
  refine F.ok S (fun vs H Q E h => ?_) (fun cdv A outer s H vs Q E hr h => ⟨_, PSs.nox (pss_one (ps_ret pe_str)), ?_⟩)
  · obtain ⟨v, rfl, _⟩ := h
    rfl
  · obtain ⟨v, rfl, k⟩ := h
    exact k
theorem ini1_ok {fl : Str} {p1 p2 p3 p4 : Pos} (T : OexC K C) (no : PySem.W.findIn K (.ref C) fl = some none)
    (F : FunD K "__init__" q a [.Assign [.Attribute (.Name "self" p1) fl p2] (.Name fl p3) p4] sc [] [] f fd) (S : FnScope ["self", fl] ["self", fl] sc)
    (d1 : (fl == ("__debug__" : Str)) = false := by decide +kernel) (d2 : (fl == ("__classdict__" : Str)) = false := by decide +kernel) :
    FnOk P w K mg base CX0 1 f fd ["self", fl] (spIni1 C fl) := by
  refine F.ok S (fun vs H Q E h => ?_) (fun cdv A outer s H vs Q E hr h => ⟨_, PSs.nox (pss_one (ps_ost (pe_var (i := 0) rfl (vis_of S (by simp))) (pe_var (i := 1) rfl (vis_of S (by simp)) d1 d2))), ?_⟩)
  · obtain ⟨a, v, rfl, _⟩ := h
    rfl
  · obtain ⟨a, v, rfl, e, k⟩ := h
    exact ⟨_, rfl, _, rfl, a, C, rfl, T, no, .inl ⟨e, fun dx n ne => k dx n ne⟩⟩
theorem ini2_ok {fl gl : Str} {p1 p2 p3 p4 q1 q2 q3 q4 : Pos} (T : OexC K C) (no : PySem.W.findIn K (.ref C) fl = some none) (no2 : PySem.W.findIn K (.ref C) gl = some none)
    (F : FunD K "__init__" q a [.Assign [.Attribute (.Name "self" p1) fl p2] (.Name fl p3) p4, .Assign [.Attribute (.Name "self" q1) gl q2] (.Name gl q3) q4] sc [] [] f fd) (S : FnScope ["self", fl, gl] ["self", fl, gl] sc)
    (d1 : (fl == ("__debug__" : Str)) = false := by decide +kernel) (d2 : (fl == ("__classdict__" : Str)) = false := by decide +kernel)
    (d3 : (gl == ("__debug__" : Str)) = false := by decide +kernel) (d4 : (gl == ("__classdict__" : Str)) = false := by decide +kernel) :
    FnOk P w K mg base CX0 1 f fd ["self", fl, gl] (spIni2 C fl gl) := by
  refine F.ok S (fun vs H Q E h => ?_) (fun cdv A outer s H vs Q E hr h => ⟨_, PSs.nox (pss_cons (ps_ost (pe_var (i := 0) rfl (vis_of S (by simp))) (pe_var (i := 1) rfl (vis_of S (by simp)) d1 d2))
    (pss_one (ps_ost (pe_var (i := 0) rfl (vis_of S (by simp))) (pe_var (i := 2) rfl (vis_of S (by simp)) d3 d4)))), ?_⟩)
  · obtain ⟨a, v, u, rfl, _⟩ := h
    rfl
  · obtain ⟨a, v, u, rfl, e, k⟩ := h
    exact ⟨_, rfl, _, rfl, a, C, rfl, T, no, .inl ⟨e, fun dx n ne => ⟨_, rfl, _, rfl, a, C, rfl, T, no2, .inr ⟨dx, _, upd_same, by rw [upd_ne ne]; exact upd_same, (by show 1 ≤ 900; decide), k dx n ne⟩⟩⟩⟩
end

/-! ### an error class with all that is told of it -/
section
variable (P : Program) (w : World) (K : PySem.W.Frag) (mg : Str → Option Value) (base : Heap)
structure Tells (C : Addr) (t : Str) : Prop where
  ex : ∃ f fd, Meth K C "told" f ∧ FnOk P w K mg base CX0 1 f fd ["self"] (spTold t) ∧ Binds K fd ["self"] []
/-- the class x, made of one thing, its field -/
structure Err1 (x fl t : Str) : Prop where
  g : mg x = some (.ref (He.ga K x))
  c : ErrC K (He.ga K x)
  no : PySem.W.findIn K (.ref (He.ga K x)) fl = some none
  tl : Tells P w K mg base (He.ga K x) t
  ini : ∃ fI fd, PySem.W.findIn K (.ref (He.ga K x)) "__init__" = some (some (.ref fI)) ∧ PySem.W.typeIn K (.ref fI) = some (.type "function") ∧
    FnOk P w K mg base CX0 1 fI fd ["self", fl] (spIni1 (He.ga K x) fl) ∧ Binds K fd ["self", fl] []
structure Err2 (x fl gl t : Str) : Prop where
  g : mg x = some (.ref (He.ga K x))
  c : ErrC K (He.ga K x)
  no : PySem.W.findIn K (.ref (He.ga K x)) fl = some none
  no2 : PySem.W.findIn K (.ref (He.ga K x)) gl = some none
  tl : Tells P w K mg base (He.ga K x) t
  ini : ∃ fI fd, PySem.W.findIn K (.ref (He.ga K x)) "__init__" = some (some (.ref fI)) ∧ PySem.W.typeIn K (.ref fI) = some (.type "function") ∧
    FnOk P w K mg base CX0 1 fI fd ["self", fl, gl] (spIni2 (He.ga K x) fl gl) ∧ Binds K fd ["self", fl, gl] []
/-- made of nothing -/
structure Err0 (x t : Str) : Prop where
  g : mg x = some (.ref (He.ga K x))
  c : ErrC K (He.ga K x)
  ec : PySem.W.excIn K (He.ga K x) He.veBase "ValueError.__new__" = true
  tl : Tells P w K mg base (He.ga K x) t
end
section
variable {X : Cx} {x fl gl t : Str} {e e2 : Expr} {ta tb : TE} {p pos : Pos}
theorem pe_err1 (E : Err1 X.prog X.w X.K X.mg X.base x fl t) (hr : Room 2 X.A) (hg : Gl X x) (ha : PE X e ta) (hdb : (x == ("__debug__" : Str)) = false := by decide +kernel)
    (hs : starEach [e] X.env = (false, eval e X.env) :: starEach [] X.env := by rfl) :
    PE X (.Call (.Name x p) [e] [] pos) (fun σ H Q => ta σ H fun v H1 => ∀ a d H', H1 a = none → H1 d = none → Same H1 H' → XAt H' a (He.ga X.K x) (some d) → H' d = some (exd d [(fl, v)]) → Q (.ref a) H') := by
  obtain ⟨fI, fd, i1, i2, F, b⟩ := E.ini
  refine PE.imp (pe_new E.c.o i1 i2 F hr b pass0 hg E.g (pa_cons (PE.up ha) pa_nil hs) hdb hs rfl) fun σ H Q h => ?_
  refine ⟨_, h, fun v H1 k => ⟨(by show 1 ≤ 1000; decide), fun a na => ⟨a, v, rfl, upd_same, fun d nd ne => ?_⟩⟩⟩
  have nd1 : H1 d = none := by rw [upd_ne ne] at nd; exact nd
  refine ⟨rfl, k a d _ na nd1 (fun b o q => ?_) (.inl upd_same) (by rw [upd_ne ne]; exact upd_same)⟩
  rw [upd_ne (ne_of_none q na), upd_ne (ne_of_none q nd1), upd_ne (ne_of_none q na)]
  exact q
theorem pe_err2 (E : Err2 X.prog X.w X.K X.mg X.base x fl gl t) (hr : Room 2 X.A) (hg : Gl X x) (ha : PE X e ta) (hb : PE X e2 tb) (hdb : (x == ("__debug__" : Str)) = false := by decide +kernel)
    (hs : starEach [e, e2] X.env = (false, eval e X.env) :: starEach [e2] X.env := by rfl) (hs2 : starEach [e2] X.env = (false, eval e2 X.env) :: starEach [] X.env := by rfl)
    (hp : (backTo pos (starEach [e2] X.env)).any (·.1) = false := by rfl) :
    PE X (.Call (.Name x p) [e, e2] [] pos) (fun σ H Q => ta σ H fun v H0 => Lf.up tb σ H0 fun u H1 => ∀ a d H', H1 a = none → H1 d = none → Same H1 H' → XAt H' a (He.ga X.K x) (some d) → H' d = some (exd d [(gl, u), (fl, v)]) → Q (.ref a) H') := by
  obtain ⟨fI, fd, i1, i2, F, b⟩ := E.ini
  refine PE.imp (pe_new E.c.o i1 i2 F hr b pass0 hg E.g (pa_cons (PE.up ha) (pa_cons (PE.up hb) pa_nil hs2) hs) hdb hs hp) fun σ H Q h => ?_
  refine ⟨_, h, fun v H0 h2 => ?_⟩
  obtain ⟨Q0, h3, h4⟩ := h2
  refine ⟨Q0, h3, fun u H1 z => ?_⟩
  have k := h4 u H1 z
  refine ⟨(by show 2 ≤ 1000; decide), fun a na => ⟨a, v, u, rfl, upd_same, fun d nd ne => ?_⟩⟩
  have nd1 : H1 d = none := by rw [upd_ne ne] at nd; exact nd
  refine ⟨rfl, k a d _ na nd1 (fun b o q => ?_) (.inl (by rw [upd_ne ne.symm]; exact upd_same)) upd_same⟩
  rw [upd_ne (ne_of_none q nd1), upd_ne (ne_of_none q na), upd_ne (ne_of_none q nd1), upd_ne (ne_of_none q na)]
  exact q
theorem pe_err0 (E : Err0 X.prog X.w X.K X.mg X.base x t) (hg : Gl X x) (hdb : (x == ("__debug__" : Str)) = false := by decide +kernel) :
    PE X (.Call (.Name x p) [] [] pos) (fun _ H Q => ∀ a H', H a = none → Same H H' → XAt H' a (He.ga X.K x) none → Q (.ref a) H') :=
  PE.imp (pe_bare F.excBase_ValueError E.ec E.g E.c.o.kC hg hdb) fun σ H Q h a na => h a _ na (same_upd na) (.inr ⟨rfl, upd_same⟩)
end
end Lf

set_option Elab.async false
set_option linter.all false
set_option maxRecDepth 100000
set_option maxHeartbeats 4000000
/-! set(xs) of distinct texts, however many; how many there are. -/
namespace Lf
open PySem PySem.Spec PyProof.Rows L2
abbrev HasS (P : Program) (w : World) (h : Heap) (a : Addr) (xs : List Str) (i : Nat) : Prop := h.SetOf (PySem.strKind P w) a (fun y => (xs.take i).any (· == y)) i
theorem take_next {xs : List Str} (nd : xs.Nodup) {i : Nat} (hi : i < xs.length) :
    (xs.take i).any (· == xs.getD i Str.empty) = false ∧ ∀ y, ((xs.take i).any (· == y) || decide (y = xs.getD i Str.empty)) = (xs.take (i + 1)).any (· == y) := by
  have eg : xs.getD i Str.empty = xs[i] := by simp [List.getD, hi]
  rw [eg]
  have split : xs.take (i + 1) = xs.take i ++ [xs[i]] := by simp
  constructor
  · rw [List.any_eq_false]
    intro y hy hb
    have e : y = xs[i] := by simpa using hb
    subst e
    obtain ⟨j, hj, ej⟩ := List.mem_iff_getElem.mp hy
    rw [List.length_take] at hj
    have ej2 : xs[j] = xs[i] := by rw [← ej, List.getElem_take]
    have ji : j < i := by omega
    exact absurd ej2 (List.pairwise_iff_getElem.mp nd j i (by omega) hi ji)
  · intro y
    rw [split, List.any_append]
    congr 1
    by_cases e : y = xs[i]
    · subst e; simp
    · have q : (xs[i] == y) = false := beq_eq_false_iff_ne.mpr fun z => e z.symm
      simp [e, q]
section
variable {P : Program} {w : World} {A : Around} {R : Result → Shared → Prop} {It : Addr} {fp wr : List Addr} {G : Array GenState → Array GenState → Prop} {n : Nat} {Pv : Nat → Value → Prop} {Sv : Nat → Shared → Prop}
/-- the loop that fills a set: distinct texts -/
theorem fillS (W : WalksS P w A.in1 It fp wr G n Pv Sv) {a : Addr} (off : a ∉ fp) {xs : List Str} (nd : xs.Nodup) (len : xs.length = n) (few : n + 1 < scanBound)
    (read : ∀ i v, Pv i v → ∃ t, v = .str (xs.getD i Str.empty) t) : ∀ (m i : Nat) (s : Shared), i + m = n → Sv i s → HasS P w s.heap a xs i →
      (∀ s', Moved (a :: wr) G s s' → HasS P w s'.heap a xs n → R (.ok (.ret .none)) s') →
      codeAny (model P w) A (.builtin "set.update.loop" ⟨[.ref a, .ref It], []⟩) R s := by
  have offw : a ∉ wr := fun z => off (W.sub _ z)
  have keep : ∀ {s s' : Shared} {i : Nat}, Moved wr G s s' → HasS P w s.heap a xs i → HasS P w s'.heap a xs i := fun mv hs => by
    obtain ⟨o, es, ep, t, ho, r⟩ := hs
    exact ⟨o, es, ep, t, mv.heap a _ offw ho, r⟩
  intro m
  induction m with
  | zero =>
    intro i s e st hs fin
    obtain rfl : i = n := by omega
    refine codeAny_builtin PyProof.Rows.F.entry_set_update_loop ?_
    rw [Around.under_plainId PyProof.Rows.F.plain_set_update_loop _]
    show wpAny _ _ (pyNext (.ref It) >>= _) _ _ _
    exact wpAny_bind (W.done s _ _ st fun s' mv => wpAny_pure (fin s' (mv.mono fun b hb => List.mem_cons_of_mem _ hb) (keep mv hs)))
  | succ m ih =>
    intro i s e st hs fin
    have hi : i < n := by omega
    refine codeAny_builtin PyProof.Rows.F.entry_set_update_loop ?_
    rw [Around.under_plainId PyProof.Rows.F.plain_set_update_loop _]
    show wpAny _ _ (pyNext (.ref It) >>= _) _ _ _
    refine wpAny_bind (W.item i s _ _ hi st fun v s' pv st' mv => ?_)
    obtain ⟨t, rfl⟩ := read i v pv
    have hs' := keep mv hs
    obtain ⟨new, grow⟩ := take_next nd (show i < xs.length by omega)
    show wpAny _ _ (holding [Value.str _ t] (setAdd a (.str _ t)) >>= _) _ _ _
    refine wpAny_bind (wpAny_holding ?_)
    unfold setAdd
    refine wpAny_holding (wpAny_bind ((PySem.strKind P w).pyHash (strKind_is _ _ _ _) ?_))
    refine wpAny_setAddHashed_of (knd := PySem.strKind P w) (s := { s' with toks := s'.toks + 1 }) (strKind_is _ _ _ _) rfl hs' (by omega) fun h' sb hs2 => ?_
    have hs3 : HasS P w h' a xs (i + 1) := SetOf_congr hs2 grow (by show (if (xs.take i).any (· == xs.getD i Str.empty) = true then i else i + 1) = i + 1; rw [new]; rfl)
    refine wpAny_pure ⟨plainId_quiet PyProof.Rows.F.plain_set_update_loop _, ih (i + 1) _ (by omega) (W.frame _ s' _ _ st' (Nat.le_succ _) fun b hb o z => ?_) hs3 fun s2 mv2 q => fin s2 ?_ q⟩
    · rw [sb.2 b fun y => off (y ▸ hb)]
      exact z
    · refine Moved.trans W.gtrans ((mv.mono fun b hb => List.mem_cons_of_mem _ hb).then_heap (Nat.le_succ _) fun b o hb z => ?_) mv2
      rw [sb.2 b fun y => hb (by rw [y]; exact List.mem_cons_self)]
      exact z
end
/-- an empty set, newly laid -/
abbrev emptySet (led : Bool) : Obj := { cls := .type "set", dict := none, data := .set #[] 0 (.fresh 0 0 led) }
section
variable {P : Program} {w : World} {A : Around} {E : Value → Shared → Prop} {s : Shared} {l : Addr} {its : Array Value} {xs : List Str}
/-- what is wanted of it: a set at the next place, of these texts; all else as it was -/
abbrev SetMade (P : Program) (w : World) (s : Shared) (xs : List Str) (s' : Shared) : Prop :=
  ∃ h' tk, s' = { s with heap := h', toks := tk } ∧ HasS P w h' s.heap.objs.size xs xs.length ∧ ∀ b o, b < s.heap.objs.size → s.heap.get? b = some o → h'.get? b = some o
theorem setInit {led : Bool} {Q : Fin → Shared → Prop} (calm : A.handled = none) (hl : s.heap.IsList l its) (ht : StrsAre its.toList xs) (nd : xs.Nodup) (few : xs.length + 1 < scanBound)
    (h : ∀ s', SetMade P w s xs s' → Q (.done (.ret .none)) s') :
    wpAny (model P w) A (Builtin.«set.__init__» ⟨[.ref s.heap.objs.size, .ref l], []⟩) Q E { s with heap := s.heap.push (emptySet led) } := by
  obtain ⟨⟨oc, od, odt, osl⟩, hol, hcl, nl, hdl⟩ := hl
  dsimp only at hcl hdl
  subst hcl hdl
  have hS : (s.heap.push (emptySet led)).get? s.heap.objs.size = some (emptySet led) := Heap.get?_push_size _ rfl
  have hT : Shared.TypeIs { s with heap := s.heap.push (emptySet led) } (.ref s.heap.objs.size) "set" := ⟨_, hS, rfl⟩
  have hol' : (s.heap.push (emptySet led)).get? l = some { cls := .type "list", dict := od, data := .seq its nl, slots := osl } := Heap.get?_push_of_some _ hol
  have f1 := F.sub_list_set
  have f2 := F.sub_list_frozenset
  have f3 : (Value.type "list" == Value.type "dict") = false := by decide
  have hl1 : (s.heap.push (emptySet led)).IsList l its := ⟨_, hol', rfl, nl, rfl⟩
  unfold Builtin.«set.__init__» noKeywords Builtin.Frozenset.updateFrom
  generalize hPI : pyIter = PI
  wp_walk
  subst hPI
  refine wpAny_pyIter_list hl1 (wpAny_bind (wpAny_runValue ?_))
  have lS : l < s.heap.objs.size := Heap.lt_size hol
  have calm3 : A.in1.handled = none := by simp [calm]
  have nI : l ≠ (s.heap.push (emptySet led)).objs.size := by
    rw [Heap.size_push]
    exact Nat.ne_of_lt (Nat.lt_succ_of_lt lS)
  have off : s.heap.objs.size ∉ [(s.heap.push (emptySet led)).objs.size, l] := by
    rw [Heap.size_push]
    simp only [List.mem_cons, List.not_mem_nil, or_false, not_or]
    exact ⟨Nat.ne_of_lt (Nat.lt_succ_self _), Nat.ne_of_gt lS⟩
  have sz : xs.length = its.size := by rw [← StrsAre.len_eq ht, Array.length_toList]
  refine fillS ((Walks.list calm3 _ l nI its).toS) off nd sz (by omega) (fun i v hv => SS.strs_at ht i v (by rw [Array.getElem?_toList]; exact hv)) its.size 0 _ (Nat.zero_add _) ?_ ?_ fun s' mv q => ?_
  · exact ⟨⟨_, Heap.get?_push_size _ rfl, rfl, rfl⟩, hl1.push _⟩
  · exact SetOf_congr ((setObjOf_fresh (knd := PySem.strKind P w) led).setOf (Heap.get?_push_of_some _ hS) (by unfold scanBound; omega)) (fun _ => rfl) rfl
  · obtain ⟨h', g', d', tk', os'⟩ := s'
    obtain rfl : g' = s.gens := mv.gens
    obtain rfl : d' = s.drawn := mv.drawn
    obtain rfl : os' = s.os := mv.os
    show wpAny _ _ _ _ _ _
    refine wpAny_pure ?_
    show wpAny _ _ (ret Value.none) _ _ _
    refine wpAny_pure (h _ ⟨h', tk', rfl, by rw [sz]; exact q, fun b o hb z => mv.heap b o ?_ (Heap.get?_push_of_some _ (Heap.get?_push_of_some _ z))⟩)
    simp only [List.mem_cons, List.not_mem_nil, or_false, not_or]
    rw [Heap.size_push]
    exact ⟨Nat.ne_of_lt hb, Nat.ne_of_lt (Nat.lt_succ_of_lt hb)⟩
theorem setOfTexts {Q : Value → Shared → Prop} (calm : A.handled = none) (hl : s.heap.IsList l its) (ht : StrsAre its.toList xs) (nd : xs.Nodup) (few : xs.length + 1 < scanBound)
    (h : ∀ s', SetMade P w s xs s' → Q (.ref s.heap.objs.size) s') : wpAny (model P w) A (call (.type "set") [.ref l]) Q E s := by
  obtain ⟨c, tl, mro⟩ := F.called_set.mro
  have g1 := F.called_set.made
  have g2 := F.called_set.sub
  refine wpAny_call (codeAny_of_tree ?_)
  show wpAny _ _ (callAny (.type "set") _) _ _ _
  refine wpAny_pure ⟨Code.quiet_builtin _ (by decide +kernel), codeAny_builtin F.entry_type_call ?_⟩
  rw [Around.under_plain (weight_type_call_type "set" [.ref l] []) rfl]
  have g3 := F.called_set.notType
  have g4 := F.called_set.canCreate
  have g5 := F.typeCall_set_1 (.ref l)
  repeat (any_goals (first | assumption | wp_step))
  refine codeAny_mono (code_set_new_1 (.ref l) (E := E) (Q₁ := fun o s1 => ∃ led : Bool, o = .ref s.heap.objs.size ∧ s1 = { s with heap := s.heap.push (emptySet led) }) fun led => ⟨led, rfl, rfl⟩) fun r s1 hr => ?_
  cases r with
  | error e => exact hr
  | ok fl =>
    cases fl with
    | ret o =>
      obtain ⟨led, rfl, rfl⟩ := hr
      have hT : Shared.TypeIs { s with heap := s.heap.push (emptySet led) } (.ref s.heap.objs.size) "set" := ⟨_, Heap.get?_push_size _ rfl, rfl⟩
      have g6 := F.called_set.init.lookup
      have g7 := F.called_set.init.bind (.ref s.heap.objs.size)
      repeat (any_goals (first | assumption | wp_step))
      refine codeAny_mono (codeAny_call_builtin (R := wants (fun r s2 => r = .none ∧ SetMade P w s xs s2) E) F.called_set.init.plain F.entry_set_init (check_set_init_1 hT (setInit (by simp [calm]) hl ht nd few fun s2 q => ⟨rfl, q⟩))) fun r2 s2 hr2 => ?_
      cases r2 with
      | error e => exact hr2
      | ok f2 =>
        cases f2 with
        | ret v =>
          obtain ⟨rfl, q⟩ := hr2
          repeat (any_goals (first | assumption | wp_step))
          exact h _ q
        | _ => exact hr2.elim
    | _ => exact hr.elim
end
/-- len(set(xs)), xs a list of distinct texts -/
def tCount (K : PySem.W.Frag) (ta : TE) : TE := fun σ H Q => ta σ H fun x H1 => ∃ (l : Addr) (xs : List Str), x = .ref l ∧ SqL K H1 l (xs.map V.str) ∧ xs.Nodup ∧ xs.length ≤ 4000 ∧ Q (.int xs.length) H1
theorem pe_count {X : Cx} {a : Expr} {ta : TE} {p p2 q pos : Pos} (hc : X.calm = true) (hg : Gl X "len") (hm : X.mg "len" = none) (hg2 : Gl X "set") (hm2 : X.mg "set" = none) (ha : PE X a ta)
    (na : starEach [a] X.env = (false, eval a X.env) :: starEach [] X.env := by rfl) : PE X (.Call (.Name "len" p) [.Call (.Name "set" p2) [a] [] q] [] pos) (tCount X.K ta) := by
  refine ⟨fun pins s σ H Q I h => ?_⟩
  refine Call_ (ld_blt I hg hm boot_len (PyProof.Rows.callWith_builtin1 (PyProof.Rows.args_cons ?_ rfl) rfl rfl))
  refine Call_ (ld_blt I hg2 hm2 boot_set (PyProof.Rows.callWith_type1 (PyProof.Rows.args_cons (thn (ha.run pins s σ H _ I h) fun v s1 hh => PyProof.Rows.args_nil ?_) na) na rfl))
  obtain ⟨x, H1, I1, r1, l, xs, rfl, hq, nd, few, q1⟩ := hh
  cases r1
  obtain ⟨its, r, pl, hz⟩ := I1.list hq
  refine setOfTexts (I1.ok.hd hc) pl.isList (by simpa using strsAre_of r) nd (by unfold scanBound; omega) fun s' hs => PyProof.Rows.args_nil ?_
  obtain ⟨h', tk, rfl, ⟨o, es, ep, t, ho, hex, hd, _, _, _, hf, hn⟩, hk⟩ := hs
  have I2 : Inv X pins σ H1 { s1 with heap := h', toks := tk } := I1.kept fun b o z => hk b o (Heap.lt_size z) z
  exact call_len_set ho hex hd hf (by rw [hn]; omega) ⟨.int xs.length, H1, I2.tok _, ⟨_, by rw [hn]⟩, q1⟩
/-- xs + ys, lists that are read -/
def rCatL (K : PySem.W.Frag) : R2 := fun x y H Q => ∃ l b xs zs, x = .ref l ∧ y = .ref b ∧ SqL K H l xs ∧ SqL K H b zs ∧ xs.length + zs.length ≤ sizeLine ∧ ∀ p, H p = none → Q (.ref p) (upd H p (.lst (xs ++ zs)))
theorem op_catL {X : Cx} : OpR X (binaryOp .Add) (rCatL X.K) := by
  intro pins s σ H x y v u Q I rx ry h
  obtain ⟨l, b, xs, zs, rfl, rfl, h1, h2, hz, q⟩ := h
  cases rx
  cases ry
  obtain ⟨is, r1, ⟨⟨c1, d1, t1, s1⟩, n1, e1, k1, _, m1⟩, _⟩ := I.list h1
  obtain ⟨js, r2, ⟨⟨c2, d2, t2, s2⟩, n2, e2, k2, _, m2⟩, _⟩ := I.list h2
  dsimp only at k1 m1 k2 m2
  subst k1 m1 k2 m2
  have l1 := r1.length
  have l2 := r2.length
  refine concat_meets ⟨_, e1, rfl⟩ ⟨_, e2, rfl⟩ noFill_list_add seq_list_add F.slot_list_add F.entry_list_add (F.args_list_add_2 _ _)
    (list_addW l b is.toArray js.toArray n1 n2 d1 d2 s1 s2 (by simp only [List.size_toArray]; omega)) ⟨e1, e2, ?_⟩
  have ea : is.toArray ++ js.toArray = (is ++ js).toArray := by simp
  rw [ea]
  exact ⟨.ref _, _, I.lnew (t' := s.toks) (r1.append r2) (by rw [List.length_append]; omega), rfl, q _ I.fresh⟩
end Lf

set_option Elab.async false
set_option linter.all false
set_option maxRecDepth 100000
set_option maxHeartbeats 4000000
/-! Heaps that grow; data. -/
namespace Lf
open PySem PySem.Spec PyProof.Rows L2
/-- all but lists stay -/
def Solid (H H' : Hp) : Prop := ∀ b o, H b = some o → (∀ xs, o ≠ .lst xs) → H' b = some o
theorem Solid.refl (H : Hp) : Solid H H := fun _ _ h _ => h
theorem Solid.trans {H H1 H2 : Hp} (a : Solid H H1) (b : Solid H1 H2) : Solid H H2 := fun c o h n => b c o (a c o h n) n
theorem Solid.of {H H' : Hp} (e : Same H H') : Solid H H' := fun b o h _ => e b o h
theorem Solid.lst {H : Hp} {l : Addr} {xs ys : List V} (h : H l = some (.lst xs)) : Solid H (upd H l (.lst ys)) := fun b o e n => by
  rw [upd_ne (fun z => by rw [z, h] at e; cases e; exact n xs rfl)]
  exact e
theorem exo_nl {a C : Addr} {d : Option Addr} (xs : List V) : exo a C d ≠ .lst xs := fun z => by
  have z' : HO.ext _ = HO.lst xs := z
  cases z'
theorem exO_nl {a : Addr} {c : Value} (xs : List V) : ExO c a ≠ .lst xs := fun z => by
  have z' : HO.ext _ = HO.lst xs := z
  cases z'
theorem exd_nl {a : Addr} {fs : List (Str × V)} (xs : List V) : exd a fs ≠ .lst xs := fun z => by
  have z' : HO.ext _ = HO.lst xs := z
  cases z'
theorem XAt.solid {H H' : Hp} {a C : Addr} {d : Option Addr} (h : XAt H a C d) (s : Solid H H') : XAt H' a C d := by
  rcases h with h | ⟨e, h⟩
  · exact .inl (s _ _ h exo_nl)
  · exact .inr ⟨e, s _ _ h exO_nl⟩
/-- all but the thing at l stay -/
def But (l : Addr) (H H' : Hp) : Prop := ∀ b o, b ≠ l → H b = some o → H' b = some o
theorem But.refl {l : Addr} {H : Hp} : But l H H := fun _ _ _ h => h
theorem But.trans {l : Addr} {H H1 H2 : Hp} (a : But l H H1) (b : But l H1 H2) : But l H H2 := fun c o n h => b c o n (a c o n h)
theorem But.of {l : Addr} {H H' : Hp} (e : Same H H') : But l H H' := fun b o _ h => e b o h
theorem But.upd {l : Addr} {H : Hp} {o : HO} : But l H (upd H l o) := fun b u n h => by rw [upd_ne n]; exact h
theorem Same.but {l : Addr} {H0 H H' : Hp} (s : Same H0 H) (n : H0 l = none) (b : But l H H') : Same H0 H' := fun c o h => b c o (ne_of_none h n) (s c o h)
theorem SqT.same {K : PySem.W.Frag} {H H' : Hp} {a : Addr} {xs : List V} (e : Same H H') (h : SqT K H a xs) : SqT K H' a xs := by
  rcases h with (h | ⟨o, h⟩) | h
  · exact .inl (.inl (e _ _ h))
  · exact .inl (.inr ⟨o, e _ _ h⟩)
  · exact .inr h
theorem But.solid {l : Addr} {H H' : Hp} {xs : List V} (h : H l = some (.lst xs)) (b : But l H H') : Solid H H' := fun c o e n => b c o (fun z => by rw [z, h] at e; cases e; exact n xs rfl) e
theorem ifT {c : Bool} {A B : Prop} (hc : c = true) (h : A) : if c = true then A else B := by
  rw [if_pos hc]
  exact h
theorem ifF {c : Bool} {A B : Prop} (hc : c = false) (h : B) : if c = true then A else B := by
  rw [hc, if_neg Bool.false_ne_true]
  exact h
theorem pair_get {α β : Type} {F : α → β → Prop} : ∀ {as : List α} {bs : List β} {i : Nat} {a : α}, Paired F as bs → as[i]? = some a → ∃ b, bs[i]? = some b ∧ F a b
  | _, _, _, _, .nil, e => by simp at e
  | _, _, 0, _, .cons r _, e => by simp at e; subst e; exact ⟨_, rfl, r⟩
  | _, _, i + 1, a, .cons _ t, e => by
    obtain ⟨b, h1, h2⟩ := pair_get (i := i) (a := a) t (by simpa using e)
    exact ⟨b, by simpa using h1, h2⟩
theorem take_snoc {α : Type} {l : List α} {i : Nat} {x : α} (h : l[i]? = some x) : l.take (i + 1) = l.take i ++ [x] := by
  obtain ⟨hi, e⟩ := List.getElem?_eq_some_iff.mp h
  rw [← e]
  simp
theorem map_at {α : Type} {f : α → V} {l : List α} {i : Nat} {y : V} (h : (l.map f)[i]? = some y) : ∃ a, l[i]? = some a ∧ y = f a := by
  rw [List.getElem?_map] at h
  cases e : l[i]? with
  | none => rw [e] at h; cases h
  | some a => rw [e] at h; exact ⟨a, rfl, (Option.some.inj h).symm⟩
theorem eqv_same {d : PyData} (h : SeqAt.shaped d = true) : (!PyData.eqv d d) = false := by
  rw [SeqAt.eqv_refl d (SeqAt.canLay_of_shaped h)]
  rfl
mutual
theorem dp_same {K : PySem.W.Frag} {H H' : Hp} (e : Same H H') : ∀ {v : V} {d : PyData}, Dp K H v d → Dp K H' v d
  | _, _, .non => .non
  | _, _, .bl b => .bl b
  | _, _, .int i => .int i
  | _, _, .str x => .str x
  | _, _, .lst h r => .lst (L2.Same.seq e h) (dpAll_same e r)
  | _, _, .tup h r => .tup (SqT.same e h) (dpAll_same e r)
theorem dpAll_same {K : PySem.W.Frag} {H H' : Hp} (e : Same H H') : ∀ {vs : List V} {ds : List PyData}, DpAll K H vs ds → DpAll K H' vs ds
  | _, _, .nil => .nil
  | _, _, .cons h r => .cons (dp_same e h) (dpAll_same e r)
end
end Lf

set_option Elab.async false
set_option linter.all false
set_option maxRecDepth 100000
set_option maxHeartbeats 4000000
/-! Small things that many texts want. -/
namespace Lf
open PySem PySem.Spec PyProof.Rows L2
theorem yesT {σ : L2.St} {H : Hp} {A B : Hp → Prop} (h : A H) : tYes σ H fun b H3 => if b = true then A H3 else B H3 := by
  show if true = true then A H else B H
  rw [if_pos rfl]
  exact h
theorem pe_gstr {X : Cx} {x v : Str} {t : Tok} {pos : Pos} (hg : Gl X x) (hm : X.mg x = some (.str v t)) (hd : (x == ("__debug__" : Str)) = false := by decide +kernel) : PE X (.Name x pos) (tC (.str v)) := pe_glob hg hm ⟨t, rfl⟩ hd
theorem map_get {α β : Type} {f : α → β} {l : List α} {i : Nat} {y : β} (h : (l.map f)[i]? = some y) : ∃ a, l[i]? = some a ∧ y = f a := by
  rw [List.getElem?_map] at h
  cases z : l[i]? with
  | none => rw [z] at h; cases h
  | some a => rw [z] at h; exact ⟨a, rfl, (Option.some.inj h).symm⟩
theorem get_map {α β : Type} {f : α → β} {l : List α} {i : Nat} {a : α} (h : l[i]? = some a) : (l.map f)[i]? = some (f a) := by rw [List.getElem?_map, h]; rfl
theorem get_lt {α : Type} {l : List α} {i : Nat} {a : α} (h : l[i]? = some a) : i < l.length := (List.getElem?_eq_some_iff.mp h).1
theorem lt_get {α : Type} {l : List α} {i : Nat} (h : i < l.length) : ∃ a, l[i]? = some a := ⟨_, List.getElem?_eq_getElem h⟩
theorem nil_of {H H' : Hp} {p : Addr} (s : Same H H') (n : H' p = none) : H p = none := by
  cases e : H p with
  | none => rfl
  | some o => rw [s _ _ e] at n; cases n
theorem But.nil {H H' : Hp} {l p : Addr} (s : But l H H') (np : p ≠ l) (n : H' p = none) : H p = none := by
  cases e : H p with
  | none => rfl
  | some o => rw [s _ _ np e] at n; cases n
theorem tyx_same {K : PySem.W.Frag} {H H' : Hp} {x : V} {t : Value} (e : Same H H') (h : TyX K H x t) : TyX K H' x t := by
  cases h with
  | base b =>
    cases b with
    | non => exact .base .non
    | bl b => exact .base (.bl b)
    | int i => exact .base (.int i)
    | str s => exact .base (.str s)
    | flt f => exact .base (.flt f)
    | lst h => exact .base (.lst (e _ _ h))
    | frz h => exact .base (.frz (e _ _ h))
    | tup h => exact .base (.tup (e _ _ h))
    | dK h => exact .base (.dK (e _ _ h))
    | dT h => exact .base (.dT (e _ _ h))
    | ins h a b c d f => exact .base (.ins (e _ _ h) a b c d f)
  | byt b => exact .byt b
  | set h => exact .set (e _ _ h)
  | kList h c => exact .kList h c
  | kTuple h c => exact .kTuple h c
  | kDict h c => exact .kDict h c
  | fTuple h => exact .fTuple (e _ _ h)
  | fDict h => exact .fDict (e _ _ h)
/-- a number, or what is none -/
inductive NumK (K : PySem.W.Frag) (H : Hp) : V → Option Int → Prop
  | int (i : Int) : NumK K H (.int i) (some i)
  | bl (b : Bool) : NumK K H (.bl b) none
  | oth {x : V} {n : String} (ty : TyX K H x (.type n)) (e : kitB n "int" = some false) : NumK K H x none
theorem NumK.same {K : PySem.W.Frag} {H H' : Hp} {x : V} {o : Option Int} (e : Same H H') (h : NumK K H x o) : NumK K H' x o := by
  cases h with
  | int i => exact .int i
  | bl b => exact .bl b
  | oth t q => exact .oth (tyx_same e t) q
/-- a text, or what is none -/
inductive TxtK (K : PySem.W.Frag) (H : Hp) : V → Option Str → Prop
  | str (z : Str) : TxtK K H (.str z) (some z)
  | oth {x : V} {n : String} (ty : TyX K H x (.type n)) (e : kitB n "str" = some false) : TxtK K H x none
theorem TxtK.same {K : PySem.W.Frag} {H H' : Hp} {x : V} {o : Option Str} (e : Same H H') (h : TxtK K H x o) : TxtK K H' x o := by
  cases h with
  | str i => exact .str i
  | oth t q => exact .oth (tyx_same e t) q
def isTx : Option Str → Bool
  | some _ => true
  | none => false
theorem TxtK.ty {K : PySem.W.Frag} {H : Hp} {x : V} {o : Option Str} (h : TxtK K H x o) : ∃ n, TyX K H x (.type n) ∧ PySem.W.kitOne K (.type n) (.type "str") = some (isTx o) := by
  cases h with
  | str z => exact ⟨_, .base (.str z), kit_ty (show kitB "str" "str" = some true by decide +kernel)⟩
  | oth t q => exact ⟨_, t, kit_ty q⟩
end Lf

set_option Elab.async false
set_option linter.all false
set_option maxRecDepth 100000
set_option maxHeartbeats 4000000
/-! list(text), text * n; texts by their signs. -/
namespace Lf
open PySem PySem.Spec PyProof.Rows L2
/-- a text of signs -/
def tx (cs : List Nat) : Str := ⟨cs.toArray⟩
theorem tx_len (cs : List Nat) : (tx cs).length = cs.length := by
  show cs.toArray.size = _
  simp
theorem tx_list (cs : List Nat) : (tx cs).cps.toList = cs := rfl
theorem tx_app (a b : List Nat) : tx a ++ tx b = tx (a ++ b) := by
  show Str.mk (a.toArray ++ b.toArray) = Str.mk (a ++ b).toArray
  simp
theorem tx_inj {a b : List Nat} (h : tx a = tx b) : a = b := by
  have := congrArg (fun z : Str => z.cps.toList) h
  exact this
theorem tx_of (z : Str) : z = tx z.cps.toList := by
  obtain ⟨⟨l⟩⟩ := z
  rfl
theorem call_listStr {X : Cx} (hc : X.calm = true) : CallR X (.type "list") (fun xs H Q => ∃ cs : List Nat, xs = [.str (tx cs)] ∧ cs.length ≤ sizeLine ∧ ∀ l, H l = none → Q (.ref l) (upd H l (.lst (cs.map fun c => V.str (tx [c]))))) := by
  intro pins s σ H xs us Q I r h
  obtain ⟨cs, rfl, hz, q⟩ := h
  obtain ⟨u, rfl, rx⟩ := vals1 r
  obtain ⟨t, rfl⟩ := rx
  have sz : (tx cs).cps.size = cs.length := by simp [tx]
  refine call_list_str (I.ok.hd hc) (tx cs) t (fun h' tk acc' c' kp e it => ?_) (by rw [sz]; exact hz)
  have la : acc'.toList.length = cs.length := by rw [Array.length_toList, it.1, sz]
  have rv : Vals (cs.map fun c => V.str (tx [c])) acc'.toList := by
    have g : ∀ (cs : List Nat) (us : List Value), us.length = cs.length → (∀ (j : Nat) (v : Value), us[j]? = some v → ∃ (c : Nat) (u : Tok), cs[j]? = some c ∧ v = Value.str ⟨#[c]⟩ u) → Vals (cs.map fun c => V.str (tx [c])) us := by
      intro cs
      induction cs with
      | nil =>
        intro us hl _
        cases us with
        | nil => exact .nil
        | cons a b => simp at hl
      | cons c cs ih =>
        intro us hl hv
        cases us with
        | nil => simp at hl
        | cons a b =>
          refine .cons ?_ (ih b (by simpa using hl) fun j v hj => hv (j + 1) v hj)
          obtain ⟨c', u, e1, e2⟩ := hv 0 a rfl
          cases e1
          exact ⟨u, e2⟩
    refine g cs _ la fun j v hj => ?_
    have hj' : acc'[j]? = some v := by rw [← Array.getElem?_toList]; exact hj
    obtain ⟨c, u, e1, e2⟩ := it.2 j v hj'
    refine ⟨c, u, ?_, e2⟩
    rw [← Array.getElem?_toList] at e1
    exact e1
  refine ⟨.ref s.heap.objs.size, _, I.laid (t' := tk) kp (Nat.le_refl _) (show ObjOk X.prog X.w _ h' _ (.lst (cs.map fun c => V.str (tx [c]))) from ⟨by rw [List.length_map]; exact hz, acc'.toList, c', rv, ?_⟩), rfl, q _ (I.hok.fresh (Nat.le_refl _))⟩
  exact e
theorem foldl_app (x : Array Nat) : ∀ (n : Nat) (a : Array Nat), (List.replicate n x).foldl (· ++ ·) a = a ++ (List.replicate n x.toList).flatten.toArray
  | 0, a => by simp
  | n + 1, a => by
    rw [List.replicate_succ, List.foldl_cons, foldl_app x n, List.replicate_succ, List.flatten_cons]
    apply Array.ext'
    simp
theorem flat_len (n : Nat) (cs : List Nat) : (List.replicate n cs).flatten.length = n * cs.length := by
  induction n with
  | zero => rw [Nat.zero_mul]; rfl
  | succ n ih => rw [List.replicate_succ, List.flatten_cons, List.length_append, ih, Nat.succ_mul, Nat.add_comm]
theorem op_mul_str {X : Cx} : OpR X (binaryOp .Mult) (fun x y H Q => ∃ (cs : List Nat) (n : Nat), x = .str (tx cs) ∧ y = .int (n : Nat) ∧ 2 ≤ n ∧ n ≤ 1000 ∧ 1 ≤ cs.length ∧ cs.length ≤ 1000 ∧ Q (.str (tx (List.replicate n cs).flatten)) H) := by
  intro pins s σ H x y v u Q I rx ry h
  obtain ⟨cs, n, rfl, rfl, h2, hn, l1, l2, q⟩ := h
  obtain ⟨t, rfl⟩ := rx
  obtain ⟨t', rfl⟩ := ry
  have ll : (tx cs).length = cs.length := tx_len cs
  have nl : ¬ ((n : Nat) : Int) < 1 := by omega
  have no : (((n : Nat) : Int) == 1 || (tx cs).length == 0) = false := by
    rw [ll]
    have a : (((n : Nat) : Int) == 1) = false := by
      apply beq_false_of_ne
      omega
    have b : (cs.length == 0) = false := by
      apply beq_false_of_ne
      omega
    rw [a, b]
    rfl
  have hm : cs.length * n ≤ 1000000 := by
    have := Nat.mul_le_mul l2 hn
    omega
  refine P.mul_str ?_ (fun _ _ => ?_) (fun _ _ => ?_) ?_
  · rw [decide_eq_false (by omega), decide_eq_false (by omega)]
    rfl
  · rw [ll]
    have : (cs.length : Int) ≤ (2 ^ 63 - 1) / (n : Nat) := by
      rw [Int.le_ediv_iff_mul_le (by omega)]
      have : ((cs.length * n : Nat) : Int) ≤ 1000000 := Int.ofNat_le.mpr hm
      rw [Int.natCast_mul] at this
      omega
    omega
  · rw [ll, Int.toNat_natCast]
    have : ¬ cs.length * n > sizeLine := by rw [sizeLine_eq]; omega
    show decide (cs.length * n > sizeLine) = false
    exact decide_eq_false this
  · rw [if_neg nl, no, if_neg (by decide), Int.toNat_natCast]
    have e : (⟨(List.replicate n (tx cs).cps).foldl (· ++ ·) #[]⟩ : Str) = tx (List.replicate n cs).flatten := by
      rw [foldl_app]
      show Str.mk (#[] ++ (List.replicate n cs).flatten.toArray) = _
      rw [Array.empty_append]
      rfl
    rw [e]
    refine ⟨?_, ⟨.str (tx (List.replicate n cs).flatten), H, I.tok _, ⟨_, rfl⟩, q⟩⟩
    rw [tx_len]
    have : (List.replicate n cs).flatten.length = n * cs.length := flat_len n cs
    rw [this, sizeLine_eq, Nat.mul_comm]
    omega
end Lf

set_option Elab.async false
set_option linter.all false
set_option maxRecDepth 100000
set_option maxHeartbeats 4000000
/-! try: .. except X as e: .. except Y: ..; what a suite asks of e: isinstance, told(). -/
namespace Lf
open PySem PySem.Spec PyProof.Rows L2
/-- clauses: the first one by a name, the others without -/
def wAsM (K : PySem.W.Frag) (c : Value) (i : Nat) (ts : Addr → Value → Option Addr → TS) (rest : Ends → WX) (D : Ends) : WX := fun cls d σ H =>
  ∃ b, PySem.W.exmOne K cls c = some b ∧ (b = true → ∀ a, H a = none → ts a cls d ⟨fun σ' H' => D.nx (σ'.set i none) H', D.rt, fun σ' H' => D.bk (σ'.set i none) H', fun σ' H' => D.ct (σ'.set i none) H'⟩ (σ.set i (some (.ref a))) H) ∧ (b = false → rest D cls d σ H)
/-- with as many slots as there are names -/
def wLen (n : Nat) (W : WX) : WX := fun cls d σ H => σ.length = n → W cls d σ H
section
variable {X : Cx} {x n : Str} {c : Value} {i : Nat} {body suite : List Stmt} {b1 : Stmt} {np pos p3 : Pos} {tb : WX → TS} {ts : Addr → Value → Option Addr → TS} {Wout : WX} {more : List ExceptHandler} {l : List (Value × (Addr → Value → Option Addr → TS))}
theorem ps_try_asM (st : X.stack = X.env :: X.outer) (fr : X.env.frame = some X.env.locals) (nd : X.N.Nodup) (ni : X.N[i]? = some n) (kd : X.env.kindOf n = some .local) (nm : Names X x c) (tk : Takes X Wout)
    (inner : ∀ (W : WX) (pn : List (Addr × Obj)) (xe : Value → Shared → Prop), Takes (X.tr pn xe) W → PassesOwn (model X.prog X.w) X.A X.env xe → PSs (X.tr pn xe) body (tb W))
    (first : ∀ (a : Addr) (o : Obj) (cls : Value) (d : Option Addr) (pn : List (Addr × Obj)), Zc cls d o → (∃ vs, o.data = .fields vs) → PSs (X.suite a ((a, o) :: pn)) (b1 :: suite) (ts a cls d)) (others : HdsOk X more l) :
    PS X (.Try body (.ExceptHandler (some (.Name x np)) (some n) (b1 :: suite) p3 :: more) [] [] pos) (fun D σ H => tb (wLen X.N.length (wAsM X.K c i ts (fun D => wMany X.K Wout D l) D)) D σ H) := by
  refine ⟨fun pins s σ H D I0 h => ?_⟩
  have ok := I0.ok
  have fa : X.A.frames = some (X.env :: X.outer) := by rw [ok.frames, st]
  have lc : Loc X.env.scope n := .inl kd
  refine wpAny_Try_except ?_
  refine wpAny_mono ((inner (wLen X.N.length (wAsM X.K c i ts (fun D => wMany X.K Wout D l) D)) (X.pn ++ pins) (fun e s1 => wpAny (model X.prog X.w) X.A (noteFrame e X.env) (fun _ s2 => wpAny (model X.prog X.w) X.A (setFlight e none) (fun _ s3 =>
    wpAny (model X.prog X.w) X.A (handleBy e X.env (.ExceptHandler (some (.Name x np)) (some n) (b1 :: suite) p3 :: more)) (SP X pins D) X.xe s3) X.xe s2) X.xe s1) (fun u s' q => ?_) PassesOwn.looking).run [] s σ H D (I0.toTry _) h) (fun f s1 q => ?_) (fun e s1 q => q)
  · obtain ⟨a, B, sI, pins', σ', H', cls, d, rfl, J', nb, up, sky, na, os, ag, w⟩ := q
    have J0 : Inv X pins σ' H' sI := J'.ofTry ok
    have sk : Sky B (X.env :: X.outer) a (Zc cls d) X.env.locals s'.heap := by rw [← st]; exact sky
    show wpAny (model X.prog X.w) X.A (noteFrame (.ref a) X.env) _ _ _
    refine Sky.land Zc.steady fa fr sk fun h1 g1 u1 => ?_
    have J1 : Inv X pins σ' H' { s' with heap := h1 } := J0.landed nb g1.1 (up.trans u1) os ag
    obtain ⟨o1, v1, e1, z1, d1⟩ := g1.there
    have off : a ∉ frs (X.env :: X.outer) := fun hm => by
      obtain ⟨_, o', e', nf⟩ := g1.2.2.1.mem hm
      rw [e1] at e'
      cases e'
      exact nf _ d1
    have nL : a ≠ X.env.locals := fun z => off (List.mem_filterMap.mpr ⟨X.env, List.mem_cons_self, by rw [fr, z]⟩)
    have nF : a ∉ X.fs := fun hm => by
      obtain ⟨e, he, q⟩ := List.mem_filterMap.mp hm
      exact off (List.mem_filterMap.mpr ⟨e, List.mem_cons_of_mem _ he, q⟩)
    have S1 := J1.suite e1 d1 na nL nF
    have L1 : PySem.W.Looks (model X.prog X.w) h1 (typeOf (.ref a)) cls := fun A Q E s k q => wpAny_typeOf_ref (k _ _ e1) (by rw [z1.1]; exact q)
    have asks : ∀ {y : Str} {cv : Value} {yp : Pos} {Q : Value → Shared → Prop} {E : Value → Shared → Prop}, Names X y cv → Q cv { s' with heap := h1 } → wpAny (model X.prog X.w) (X.A.mark (some (.ref a))) (eval (.Name y yp) X.env) Q E { s' with heap := h1 } := fun {y cv yp Q E} nm q => by
      obtain ⟨hg, hb, hm | ⟨hm, hv, hn⟩⟩ := nm
      · exact ld_glob (X := X.suite a ((a, o1) :: (X.pn ++ pins))) S1 hg hm q hb
      · exact ld_blt (X := X.suite a ((a, o1) :: (X.pn ++ pins))) S1 hg hm hv q hn hb
    have rest : ∀ {hs : List ExceptHandler} {l' : List (Value × (Addr → Value → Option Addr → TS))}, HdsOk X hs l' → wMany X.K Wout D l' cls d σ' H' →
        wpAny (model X.prog X.w) X.A (handleBy (.ref a) X.env hs) (SP X pins D) X.xe { s' with heap := h1 } := by
      intro hs l' hk
      induction hk with
      | nil =>
        intro w
        refine wpAny_handleBy_nil ?_
        obtain ⟨k1, k2, k3, oe, vs, T, oT, ts', he, hz, hd, f1, hr⟩ := id g1
        unfold PySem.passOn
        refine wpAny_bind (wpAny_field he hd f1 ?_)
        rw [if_neg (show ¬ ((Value.ref T == Value.none) = true) from by simp)]
        have out : wpAny (model X.prog X.w) X.A (setFlight (.ref a) X.env.frame) (fun _ s4 => wpAny (model X.prog X.w) X.A (throw (.ref a) : Sem Flow) (SP X pins D) X.xe s4) X.xe { s' with heap := h1 } := by
          rw [fr]
          exact HandSPX.setFlight_upZ g1 fun h2 b2 u2 => wpAny_throw (tk _ _ ⟨a, B, sI, pins, σ', H', cls, d, rfl, J0, nb, (up.trans u1).trans u2, .inr (.inr (by rw [st]; exact b2)), na, os, ag, w⟩)
        first
          | exact wpAny_bind (wpAny_pure (wpAny_bind out))
          | exact wpAny_bind out
      | @cons y cv ts2 c1 suite2 yp p4 more2 l2 nm2 hsu r ih =>
        intro w
        obtain ⟨b, hb1, yes, no⟩ := w
        refine wpAny_handleBy_cons (codeAny_handlers_test ?_) (by intro q; cases q)
        refine asks nm2 ((PySem.W.exm_one (M := model X.prog X.w) J1.kIn L1 hb1).here ?_)
        cases b with
        | true =>
          refine codeAny_handlers_suite ?_
          refine HandSPX.lands_againZ g1 fun h2 g2 u2 => ?_
          have J2 : Inv X pins σ' H' { s' with heap := h2 } := J0.landed nb g2.1 ((up.trans u1).trans u2) os ag
          obtain ⟨o2, v2, e2, z2, d2⟩ := g2.there
          refine wpAny_mono ((hsu a o2 cls d (X.pn ++ pins) z2 ⟨_, d2⟩).run [] _ _ H' _ (J2.suite e2 d2 na nL nF) (yes rfl a na)) (fun f s6 q => ?_) (fun _ _ z => False.elim z)
          cases f with
          | ret u =>
            obtain ⟨v6, σ6, H6, S6, r6, q6⟩ := q
            exact ⟨_, _, _, S6.unsuite ok, r6, q6⟩
          | next => obtain ⟨σ6, H6, S6, q6⟩ := q; exact ⟨_, _, S6.unsuite ok, q6⟩
          | brk => obtain ⟨σ6, H6, S6, q6⟩ := q; exact ⟨_, _, S6.unsuite ok, q6⟩
          | cont => obtain ⟨σ6, H6, S6, q6⟩ := q; exact ⟨_, _, S6.unsuite ok, q6⟩
        | false =>
          show wpAny _ X.A (handleBy (.ref a) X.env more2) _ _ _
          exact ih (no rfl)
    obtain ⟨b, hb1, yes, no⟩ := w J0.len
    refine wpAny_handleBy_cons (codeAny_handlers_test ?_) (by intro q; cases q)
    refine asks nm ((PySem.W.exm_one (M := model X.prog X.w) J1.kIn L1 hb1).here ?_)
    cases b with
    | false =>
      show wpAny _ X.A (handleBy (.ref a) X.env more) _ _ _
      exact rest others (no rfl)
    | true =>
      refine codeAny_handlers_suite_as ?_
      refine HandSPX.lands_againZ g1 fun h2 g2 u2 => ?_
      have J2 : Inv X pins σ' H' { s' with heap := h2 } := J0.landed nb g2.1 ((up.trans u1).trans u2) os ag
      obtain ⟨o2, v2, e2, z2, d2⟩ := g2.there
      refine store_ok (X := X.suite a ((a, o2) :: (X.pn ++ pins))) (v := .ref a) (J2.suite e2 d2 na nL nF) nd ni lc rfl (fun s5 S5 => ?_) (.inr kd)
      refine wpAny_mono ((first a o2 cls d (X.pn ++ pins) z2 ⟨_, d2⟩).run [] s5 _ H' _ S5 (yes rfl a na)) (fun f s6 q => ?_) (fun _ _ z => False.elim z)
      have gone : ∀ {σ6 : L2.St} {H6 : Hp} {Q : Shared → Prop}, Inv (X.suite a ((a, o2) :: (X.pn ++ pins))) [] σ6 H6 s6 → (∀ s7, Inv X pins (σ6.set i none) H6 s7 → Q s7) →
          wpAny (model X.prog X.w) X.A (do bindName X.env n .none; unbindBehindTheSuite X.env n p3) (fun _ s7 => Q s7) X.xe s6 := fun {σ6 H6 Q} S6 hq => gone_ok (S6.unsuite ok) nd ni kd hq
      cases f with
      | ret u =>
        obtain ⟨v6, σ6, H6, S6, r6, q6⟩ := q
        exact gone S6 fun s7 J7 => ⟨_, _, _, J7, r6, q6⟩
      | next => obtain ⟨σ6, H6, S6, q6⟩ := q; exact gone S6 fun s7 J7 => ⟨_, _, J7, q6⟩
      | brk => obtain ⟨σ6, H6, S6, q6⟩ := q; exact gone S6 fun s7 J7 => ⟨_, _, J7, q6⟩
      | cont => obtain ⟨σ6, H6, S6, q6⟩ := q; exact gone S6 fun s7 J7 => ⟨_, _, J7, q6⟩
  · cases f with
    | ret u =>
      obtain ⟨v, σ', H', J', r, q⟩ := q
      exact ⟨v, σ', H', J'.ofTry ok, r, q⟩
    | next => obtain ⟨σ', H', J', q⟩ := q; exact wpAny_execs_nil ⟨σ', H', J'.ofTry ok, q⟩
    | brk => obtain ⟨σ', H', J', q⟩ := q; exact ⟨σ', H', J'.ofTry ok, q⟩
    | cont => obtain ⟨σ', H', J', q⟩ := q; exact ⟨σ', H', J'.ofTry ok, q⟩
end

/-- a block by a reading that is chosen when its slots and heap are known -/
theorem pss_some {X : Cx} {b : List Stmt} {ts : TS} (h : ∀ D σ H, ts D σ H → ∃ t, PSs X b t ∧ t D σ H) : PSs X b ts := ⟨fun pins s σ H D I q => by
  obtain ⟨t, p, z⟩ := h D σ H q
  exact p.run pins s σ H D I z⟩
theorem pe_some {X : Cx} {e : Expr} {te : TE} (h : ∀ σ H Q, te σ H Q → ∃ t, PE X e t ∧ t σ H Q) : PE X e te := ⟨fun pins s σ H Q I q => by
  obtain ⟨t, p, z⟩ := h σ H Q q
  exact p.run pins s σ H Q I z⟩

/-! ### a def called while an exception is handled: it raises nothing -/
structure FnW (P : Program) (w : World) (K : PySem.W.Frag) (mg : Str → Option Value) (base : Heap) (k : Nat) (f : Addr) (fd : FuncData) (ps : List Str) (sp : Sp) : Prop where
  len : ∀ vs H Q E, sp vs H Q E → vs.length = ps.length
  run : ∀ (A : Around) (outer : List Env) (s : Shared) (H : Hp) (args : Args) (us : List Value) (vs : List V) (Q : VK) (p : Addr × Obj), L2H.RoomH k A → L2H.PinOk outer H s p → Env0 P w K mg base A outer s H → BindsTo s fd args (ps.zip us) → Vals vs us → sp vs H Q E0 →
    codeAny (model P w) A (.call (.ref f) args) (CR CX0 outer P w H s Q E0) s
section
variable {P : Program} {w : World} {K : PySem.W.Frag} {mg : Str → Option Value} {base : Heap} {x qual : Str} {params : Arguments} {body : List Stmt} {scope : Scope} {dvs : List V} {kws : List (Str × V)} {f : Addr} {fd : FuncData}
theorem fnW_of {N ps : List Str} {k : Nat} {sp : Sp} (F : FunD K x qual params body scope dvs kws f fd) (S : FnScope N ps scope) (len : ∀ vs H Q E, sp vs H Q E → vs.length = ps.length)
    (hbody : ∀ (cdv : Value) (A : Around) (outer : List Env) (s : Shared) (H : Hp) (vs : List V) (Q : VK) (p : Addr × Obj), L2H.RoomH k (A.deeper (envOfC qual scope s.heap.objs.size f cdv)) → sp vs H Q E0 →
      ∃ t, PSs (L2H.cxH CX0 P w K mg base N qual scope f cdv A outer s H E0 p) body t ∧ t { nx := fun _ H' => Q .non H', rt := Q } (L2.start N vs) H) : FnW P w K mg base (k + 1) f fd ps sp := by
  obtain ⟨oc, od, dV, kV, doc, pm, an, cdv, ct, osl, rfl, lk, cd, _, _⟩ := F.ex
  refine ⟨len, fun A outer s H args us vs Q p room pin env bd rel told => ?_⟩
  have ln := len _ _ _ _ told
  have KX : K.In s.heap := env.mod.kin.keeps fun b o e => (env.bs b o e).1
  have kinds : ∀ y ∈ ps.zip us, scope.names.lookup y.1 = some .local ∨ (scope.names.lookup y.1 = some .cell ∧ ((cellsFrom (s.heap.objs.size + 1) scope.names []).lookup y.1).isSome = true) := fun ⟨m, v⟩ hy =>
    (S.par m (List.of_mem_zip hy).1).imp id fun q => ⟨q, PySem.W.cellsFrom_some _ _ _ (.inl q)⟩
  refine codeAny_call_function room.depth (KX _ _ lk) rfl S.co S.gen rfl (PySem.W.codeRec_of KX cd) (bd _ _ _ _ ?_)
  refine wpAny_newFunctionEnv_cells S.kind kinds fun en he s1 inC => ?_
  subst he
  refine ⟨(env.mod.nolimit.keeps fun b o e => (env.bs b o e).1).keeps inC.toInCall.keep, codeAny_func ?_⟩
  obtain ⟨t, ht, hq⟩ := hbody cdv A outer s H vs Q p (room.deeper _) told
  have I0 := L2H.inv_startH (CX := CX0) (E := E0) S pin env ln rel inC
  refine wpAny_mono (ht.run [] s1 (L2.start N vs) H _ I0 hq) (fun fl s' hs => ?_) fun e s' hs => hs
  cases fl with
  | ret u =>
    obtain ⟨v, σ', H', J, rv, q⟩ := hs
    exact ⟨v, H', J.os, J.bare, J.base, J.hok, rv, q⟩
  | next =>
    obtain ⟨σ', H', J, q⟩ := hs
    exact ⟨V.non, H', J.os, J.bare, J.base, J.hok, rfl, q⟩
  | brk => obtain ⟨_, _, _, q⟩ := hs; exact q.elim
  | cont => obtain ⟨_, _, _, q⟩ := hs; exact q.elim
/-- told() of one text, there -/
theorem told_okW {t : Str} {j : Nat} {p p2 : Pos} (F : FunD K "told" qual params [.Return (some (.Constant (.str t) j p)) p2] scope [] [] f fd) (S : FnScope ["self"] ["self"] scope) : FnW P w K mg base 1 f fd ["self"] (spTold t) := by
  refine fnW_of F S (fun vs H Q E h => ?_) (fun cdv A outer s H vs Q pp hr h => ?_)
  · obtain ⟨v, rfl, _⟩ := h
    rfl
  · obtain ⟨v, rfl, q⟩ := h
    exact ⟨_, pss_one (ps_ret pe_str), q⟩
end
section
variable {X : Cx} {a C f : Addr} {o1 : Obj} {pn : List (Addr × Obj)} {d : Option Addr} {m : Str} {fd : FuncData} {sp : Sp} {k : Nat}
/-- the caught error as an instance -/
theorem caught_inst {pins : List (Addr × Obj)} {σ : L2.St} {H : Hp} {s : Shared} (I : Inv (X.suite a ((a, o1) :: pn)) pins σ H s) (z : Zc (.ref C) d o1) (fl : ∃ vs, o1.data = .fields vs) (hd : ∀ dx, d = some dx → ∃ fs, H dx = some (exd dx fs) ∧ fs.lookup m = none) :
    ∃ od, PySem.W.InstAt s.heap a o1 C od ∧ PySem.W.shadowIn od m = some false := by
  obtain ⟨g, _⟩ := I.pin (a, o1) (List.mem_append_left _ List.mem_cons_self)
  obtain ⟨vs, hv⟩ := fl
  have nc : PySem.W.notCls o1 = true := by unfold PySem.W.notCls; rw [hv] <;> rfl
  cases d with
  | none => exact ⟨none, ⟨g, z.1, nc, by rw [z.2]; trivial⟩, rfl⟩
  | some dx =>
    obtain ⟨fs, e, lk⟩ := hd dx rfl
    obtain ⟨mA, ns, rel⟩ := exd_at I.hok e
    obtain ⟨od, h2, hk⟩ := lookIn_ns ns
    refine ⟨some od, ⟨g, z.1, nc, by rw [z.2]; exact h2⟩, ?_⟩
    have hm : mA m = none := by
      have r := rel m
      rw [lk] at r
      cases y : mA m with
      | none => rfl
      | some v => rw [y] at r; exact r.elim
    show (PySem.W.lookIn m od).map _ = _
    rw [hk, hm]
    rfl
def tToldC (a : Addr) (d : Option Addr) (m : Str) (sp : Sp) (te : TE) : TE := fun σ H Q => te σ H fun x H1 => x = .ref a ∧ (∀ dx, d = some dx → ∃ fs, H1 dx = some (exd dx fs) ∧ fs.lookup m = none) ∧ sp [.ref a] H1 Q E0
/-- e.m() of the caught error e -/
theorem pe_toldC {o : Expr} {te : TE} {pos apos : Pos} {pl : Sem Bool} (T : IsC X.K C) (M : Meth X.K C m f) (F : FnW X.prog X.w X.K X.mg X.base k f fd ["self"] sp) (hb : L2.Binds X.K fd ["self"] []) (hr : L2H.RoomH k X.A) (z : Zc (.ref C) d o1) (fl : ∃ vs, o1.data = .fields vs)
    (he : PE (X.suite a ((a, o1) :: pn)) o te)
    (ht : eval (.Call (.Attribute o m apos) [] [] pos) X.env = (do
      let ov ← eval o X.env
      standAt apos.atName
      let (f, first) ← holding [ov] (getMethod ov m pl)
      callWith pos f first (backTo pos (starEach [] X.env)) (backToKw pos (keywordEach [] X.env))) := by rfl) :
    PE (X.suite a ((a, o1) :: pn)) (.Call (.Attribute o m apos) [] [] pos) (tToldC a d m sp te) := by
  refine ⟨fun pins s σ H Q I h => ?_⟩
  refine PySem.W.methodCall_KW (pl := pl) (thn (he.run pins s σ H _ I h) fun u s1 hh => ?_) ht
  obtain ⟨x, H1, I1, rx, rfl, hd, q⟩ := hh
  obtain rfl : u = Value.ref a := rx
  obtain ⟨mm, fr⟩ := I1.fr
  obtain ⟨od, J, sh⟩ := caught_inst I1 z fl hd
  refine PySem.W.method_exc fr I1.ok.mod.kin J T.ga T.gg M.at_ M.fn sh (PySem.W.callWith_K0 (first := [.ref a]) I1.kIn M.kp ?_)
  have pin := I1.pin (a, o1) (List.mem_append_left _ List.mem_cons_self)
  have pk : L2H.PinOk (X.suite a ((a, o1) :: pn)).stack H1 s1 (a, o1) := ⟨pin.1, pin.2.1, fun hm => (List.mem_cons.mp (I1.stkSub _ hm)).elim pin.2.2.1 pin.2.2.2.1, pin.2.2.2.2⟩
  have room : L2H.RoomH k (X.suite a ((a, o1) :: pn)).A := ⟨hr.dp, hr.un⟩
  have bd := hb s1 [.ref a] I1.kIn rfl
  refine wpAny_call (codeAny_mono (F.run _ _ s1 H1 ⟨[.ref a], []⟩ [.ref a] [.ref a] Q (a, o1) room pk I1.env0 (by simpa using bd) (.cons rfl .nil) q) fun r s' hq => ?_)
  cases r with
  | error e => exact (show False from hq).elim
  | ok fl' =>
    cases fl' with
    | ret u => exact I1.after hq
    | next => exact hq.elim
    | brk => exact hq.elim
    | cont => exact hq.elim
/-- isinstance(e, c), e the caught error -/
def rIsC (K : PySem.W.Frag) (a C : Addr) (d : Option Addr) : List V → Hp → VK → Prop := fun xs H Q => ∃ (c : V) (cv : Value) (b : Bool),
  xs = [.ref a, c] ∧ ClsV c cv ∧ (∀ dx, d = some dx → ∃ fs, H dx = some (exd dx fs) ∧ fs.lookup ("__class__" : Str) = none) ∧ PySem.W.kitOne K (.ref C) cv = some b ∧ Q (.bl b) H
theorem call_isC (T : IsC X.K C) (z : Zc (.ref C) d o1) (fl : ∃ vs, o1.data = .fields vs) : CallR (X.suite a ((a, o1) :: pn)) (.builtin "isinstance") (rIsC X.K a C d) := by
  intro pins s σ H xs us Q I r h
  obtain ⟨c, cv, b, rfl, k, hd, e, q⟩ := h
  obtain ⟨u1, u2, rfl, r1, r2⟩ := vals2 r
  obtain rfl := k.eq r2
  obtain rfl : u1 = Value.ref a := r1
  obtain ⟨od, J, _⟩ := caught_inst I z fl hd
  exact PySem.W.kia_one (PySem.W.kitx_exc (od := od) T.cl T.ga T.gg T.sb T.ca T.sg T.tk T.ob) I.kIn J e (fun z => nomatch z)
    fun tk => ⟨.bl b, H, I.kept (t' := tk) fun _ _ z => z, rfl, q⟩
end
end Lf

set_option Elab.async false
set_option linter.all false
set_option maxRecDepth 100000
set_option maxHeartbeats 4000000
/-! raise X(e) of an own class with its __init__; try with clauses of which any may have `as`; repr of data. -/
namespace Lf
open PySem PySem.Spec PyProof.Rows L2
/-- raise X(e) -/
def tMk1 (C : Addr) (fl : Str) (ta : TE) : L2.St → Hp → XK → Prop := fun σ H Q => ta σ H fun v H1 => ∀ d H', H1 d = none → Same H1 H' → H' d = some (.xd [(fl, v)]) → Q (.ref C) (some d) H'
theorem pmk_err1 {X : Cx} {x fl t : Str} {e : Expr} {ta : TE} {p pos : Pos} (E : Err1 X.prog X.w X.K X.mg X.base x fl t) (hr : Room 2 X.A) (hg : Gl X x) (ha : PE X e ta)
    (hdb : (x == ("__debug__" : Str)) = false := by decide) (hs : starEach [e] X.env = (false, eval e X.env) :: starEach [] X.env := by rfl) :
    PMk X (.Call (.Name x p) [e] [] pos) (tMk1 (He.ga X.K x) fl ta) := by
  obtain ⟨fI, fd, i1, i2, F, b⟩ := E.ini
  have M := pmk_oex (X := X) (pos := pos) (p := p) (dvs := []) E.c.o i1 i2 F hr b .nil pass0 hg E.g (pa_cons (PE.up ha) pa_nil hs) hdb hs rfl
  intro pins s σ H Q I h
  refine M pins s σ H Q I ?_
  refine ⟨_, h, fun v H1 k => ⟨(by show 1 ≤ 1000; decide), fun a na => ⟨a, v, rfl, upd_same, fun d nd ne => ?_⟩⟩⟩
  have nd1 : H1 d = none := by rw [upd_ne ne] at nd; exact nd
  refine ⟨rfl, d, [(fl, v)], upd_same, by rw [upd_ne ne]; exact upd_same, nd1, ?_⟩
  refine k d _ nd1 (fun b o q => ?_) upd_same
  have n1 := ne_of_none q na
  have n2 := ne_of_none q nd1
  rw [upd_ne n2, del_ne n1, upd_ne n1, upd_ne n2, upd_ne n1]
  exact q
/-! ### clauses, with a name or without -/
abbrev Cl := Value × Option Nat × (Addr → Value → Option Addr → TS)
def asEnds (i : Nat) (D : Ends) : Ends := ⟨fun σ' H' => D.nx (σ'.set i none) H', D.rt, fun σ' H' => D.bk (σ'.set i none) H', fun σ' H' => D.ct (σ'.set i none) H'⟩
def wA (K : PySem.W.Frag) (Wout : WX) (D : Ends) : List Cl → WX
  | [] => Wout
  | (c, none, ts) :: r => fun cls d σ H => ∃ b, PySem.W.exmOne K cls c = some b ∧ (b = true → ∀ a, H a = none → ts a cls d D σ H) ∧ (b = false → wA K Wout D r cls d σ H)
  | (c, some i, ts) :: r => fun cls d σ H => ∃ b, PySem.W.exmOne K cls c = some b ∧ (b = true → ∀ a, H a = none → ts a cls d (asEnds i D) (σ.set i (some (.ref a))) H) ∧ (b = false → wA K Wout D r cls d σ H)
inductive HdA (X : Cx) : List ExceptHandler → List Cl → Prop
  | nil : HdA X [] []
  | plain {x : Str} {c : Value} {ts : Addr → Value → Option Addr → TS} {b1 : Stmt} {suite : List Stmt} {np p3 : Pos} {hds : List ExceptHandler} {l : List Cl} (nm : Names X x c)
      (hsu : ∀ (a : Addr) (o : Obj) (cls : Value) (d : Option Addr) (pn : List (Addr × Obj)), Zc cls d o → (∃ vs, o.data = .fields vs) → PSs (X.suite a ((a, o) :: pn)) (b1 :: suite) (ts a cls d)) (r : HdA X hds l) :
      HdA X (.ExceptHandler (some (.Name x np)) none (b1 :: suite) p3 :: hds) ((c, none, ts) :: l)
  | as {x n : Str} {c : Value} {i : Nat} {ts : Addr → Value → Option Addr → TS} {b1 : Stmt} {suite : List Stmt} {np p3 : Pos} {hds : List ExceptHandler} {l : List Cl} (nm : Names X x c) (ni : X.N[i]? = some n) (kd : X.env.kindOf n = some .local)
      (hsu : ∀ (a : Addr) (o : Obj) (cls : Value) (d : Option Addr) (pn : List (Addr × Obj)), Zc cls d o → (∃ vs, o.data = .fields vs) → PSs (X.suite a ((a, o) :: pn)) (b1 :: suite) (ts a cls d)) (r : HdA X hds l) :
      HdA X (.ExceptHandler (some (.Name x np)) (some n) (b1 :: suite) p3 :: hds) ((c, some i, ts) :: l)
section
variable {X : Cx} {body : List Stmt} {h0 : ExceptHandler} {hds : List ExceptHandler} {l : List Cl} {pos : Pos} {tb : WX → TS} {Wout : WX}
theorem ps_tryA (st : X.stack = X.env :: X.outer) (fr : X.env.frame = some X.env.locals) (nd : X.N.Nodup) (tk : Takes X Wout)
    (inner : ∀ (W : WX) (pn : List (Addr × Obj)) (xe : Value → Shared → Prop), Takes (X.tr pn xe) W → PassesOwn (model X.prog X.w) X.A X.env xe → PSs (X.tr pn xe) body (tb W))
    (hh : HdA X (h0 :: hds) l) : PS X (.Try body (h0 :: hds) [] [] pos) (fun D σ H => tb (wLen X.N.length (wA X.K Wout D l)) D σ H) := by
  refine ⟨fun pins s σ H D I0 h => ?_⟩
  have ok := I0.ok
  have fa : X.A.frames = some (X.env :: X.outer) := by rw [ok.frames, st]
  refine wpAny_Try_except ?_
  refine wpAny_mono ((inner (wLen X.N.length (wA X.K Wout D l)) (X.pn ++ pins) (fun e s1 => wpAny (model X.prog X.w) X.A (noteFrame e X.env) (fun _ s2 => wpAny (model X.prog X.w) X.A (setFlight e none) (fun _ s3 =>
    wpAny (model X.prog X.w) X.A (handleBy e X.env (h0 :: hds)) (SP X pins D) X.xe s3) X.xe s2) X.xe s1) (fun u s' q => ?_) PassesOwn.looking).run [] s σ H D (I0.toTry _) h) (fun f s1 q => ?_) (fun e s1 q => q)
  · obtain ⟨a, B, sI, pins', σ', H', cls, d, rfl, J', nb, up, sky, na, os, ag, w⟩ := q
    have J0 : Inv X pins σ' H' sI := J'.ofTry ok
    have sk : Sky B (X.env :: X.outer) a (Zc cls d) X.env.locals s'.heap := by rw [← st]; exact sky
    show wpAny (model X.prog X.w) X.A (noteFrame (.ref a) X.env) _ _ _
    refine Sky.land Zc.steady fa fr sk fun h1 g1 u1 => ?_
    have J1 : Inv X pins σ' H' { s' with heap := h1 } := J0.landed nb g1.1 (up.trans u1) os ag
    obtain ⟨o1, v1, e1, z1, d1⟩ := g1.there
    have off : a ∉ frs (X.env :: X.outer) := fun hm => by
      obtain ⟨_, o', e', nf⟩ := g1.2.2.1.mem hm
      rw [e1] at e'
      cases e'
      exact nf _ d1
    have nL : a ≠ X.env.locals := fun z => off (List.mem_filterMap.mpr ⟨X.env, List.mem_cons_self, by rw [fr, z]⟩)
    have nF : a ∉ X.fs := fun hm => by
      obtain ⟨e, he, q⟩ := List.mem_filterMap.mp hm
      exact off (List.mem_filterMap.mpr ⟨e, List.mem_cons_of_mem _ he, q⟩)
    have S1 := J1.suite e1 d1 na nL nF
    have L1 : PySem.W.Looks (model X.prog X.w) h1 (typeOf (.ref a)) cls := fun A Q E s k q => wpAny_typeOf_ref (k _ _ e1) (by rw [z1.1]; exact q)
    have asks : ∀ {y : Str} {cv : Value} {yp : Pos} {Q : Value → Shared → Prop} {E : Value → Shared → Prop}, Names X y cv → Q cv { s' with heap := h1 } → wpAny (model X.prog X.w) (X.A.mark (some (.ref a))) (eval (.Name y yp) X.env) Q E { s' with heap := h1 } := fun {y cv yp Q E} nm q => by
      obtain ⟨hg, hb, hm | ⟨hm, hv, hn⟩⟩ := nm
      · exact ld_glob (X := X.suite a ((a, o1) :: (X.pn ++ pins))) S1 hg hm q hb
      · exact ld_blt (X := X.suite a ((a, o1) :: (X.pn ++ pins))) S1 hg hm hv q hn hb
    have rest : ∀ {hs : List ExceptHandler} {l' : List Cl}, HdA X hs l' → wA X.K Wout D l' cls d σ' H' →
        wpAny (model X.prog X.w) X.A (handleBy (.ref a) X.env hs) (SP X pins D) X.xe { s' with heap := h1 } := by
      intro hs l' hk
      induction hk with
      | nil =>
        intro w
        refine wpAny_handleBy_nil ?_
        obtain ⟨k1, k2, k3, oe, vs, T, oT, ts', he, hz, hd, f1, hr⟩ := id g1
        unfold PySem.passOn
        refine wpAny_bind (wpAny_field he hd f1 ?_)
        rw [if_neg (show ¬ ((Value.ref T == Value.none) = true) from by simp)]
        have out : wpAny (model X.prog X.w) X.A (setFlight (.ref a) X.env.frame) (fun _ s4 => wpAny (model X.prog X.w) X.A (throw (.ref a) : Sem Flow) (SP X pins D) X.xe s4) X.xe { s' with heap := h1 } := by
          rw [fr]
          exact HandSPX.setFlight_upZ g1 fun h2 b2 u2 => wpAny_throw (tk _ _ ⟨a, B, sI, pins, σ', H', cls, d, rfl, J0, nb, (up.trans u1).trans u2, .inr (.inr (by rw [st]; exact b2)), na, os, ag, w⟩)
        first
          | exact wpAny_bind (wpAny_pure (wpAny_bind out))
          | exact wpAny_bind out
      | @plain y cv ts2 c1 suite2 yp p4 more2 l2 nm2 hsu r ih =>
        intro w
        obtain ⟨b, hb1, yes, no⟩ := w
        refine wpAny_handleBy_cons (codeAny_handlers_test ?_) (by intro q; cases q)
        refine asks nm2 ((PySem.W.exm_one (M := model X.prog X.w) J1.kIn L1 hb1).here ?_)
        cases b with
        | true =>
          refine codeAny_handlers_suite ?_
          refine HandSPX.lands_againZ g1 fun h2 g2 u2 => ?_
          have J2 : Inv X pins σ' H' { s' with heap := h2 } := J0.landed nb g2.1 ((up.trans u1).trans u2) os ag
          obtain ⟨o2, v2, e2, z2, d2⟩ := g2.there
          refine wpAny_mono ((hsu a o2 cls d (X.pn ++ pins) z2 ⟨_, d2⟩).run [] _ _ H' _ (J2.suite e2 d2 na nL nF) (yes rfl a na)) (fun f s6 q => ?_) (fun _ _ z => False.elim z)
          cases f with
          | ret u =>
            obtain ⟨v6, σ6, H6, S6, r6, q6⟩ := q
            exact ⟨_, _, _, S6.unsuite ok, r6, q6⟩
          | next => obtain ⟨σ6, H6, S6, q6⟩ := q; exact ⟨_, _, S6.unsuite ok, q6⟩
          | brk => obtain ⟨σ6, H6, S6, q6⟩ := q; exact ⟨_, _, S6.unsuite ok, q6⟩
          | cont => obtain ⟨σ6, H6, S6, q6⟩ := q; exact ⟨_, _, S6.unsuite ok, q6⟩
        | false =>
          show wpAny _ X.A (handleBy (.ref a) X.env more2) _ _ _
          exact ih (no rfl)
      | @as y n cv i ts2 c1 suite2 yp p4 more2 l2 nm2 ni kd hsu r ih =>
        intro w
        obtain ⟨b, hb1, yes, no⟩ := w
        refine wpAny_handleBy_cons (codeAny_handlers_test ?_) (by intro q; cases q)
        refine asks nm2 ((PySem.W.exm_one (M := model X.prog X.w) J1.kIn L1 hb1).here ?_)
        cases b with
        | false =>
          show wpAny _ X.A (handleBy (.ref a) X.env more2) _ _ _
          exact ih (no rfl)
        | true =>
          refine codeAny_handlers_suite_as ?_
          refine HandSPX.lands_againZ g1 fun h2 g2 u2 => ?_
          have J2 : Inv X pins σ' H' { s' with heap := h2 } := J0.landed nb g2.1 ((up.trans u1).trans u2) os ag
          obtain ⟨o2, v2, e2, z2, d2⟩ := g2.there
          have lc : Loc X.env.scope n := .inl kd
          refine store_ok (X := X.suite a ((a, o2) :: (X.pn ++ pins))) (v := .ref a) (J2.suite e2 d2 na nL nF) nd ni lc rfl (fun s5 S5 => ?_) (.inr kd)
          refine wpAny_mono ((hsu a o2 cls d (X.pn ++ pins) z2 ⟨_, d2⟩).run [] s5 _ H' _ S5 (yes rfl a na)) (fun f s6 q => ?_) (fun _ _ z => False.elim z)
          have gone : ∀ {σ6 : L2.St} {H6 : Hp} {Q : Shared → Prop}, Inv (X.suite a ((a, o2) :: (X.pn ++ pins))) [] σ6 H6 s6 → (∀ s7, Inv X pins (σ6.set i none) H6 s7 → Q s7) →
              wpAny (model X.prog X.w) X.A (do bindName X.env n .none; unbindBehindTheSuite X.env n p4) (fun _ s7 => Q s7) X.xe s6 := fun {σ6 H6 Q} S6 hq => gone_ok (S6.unsuite ok) nd ni kd hq
          cases f with
          | ret u =>
            obtain ⟨v6, σ6, H6, S6, r6, q6⟩ := q
            exact gone S6 fun s7 J7 => ⟨_, _, _, J7, r6, q6⟩
          | next => obtain ⟨σ6, H6, S6, q6⟩ := q; exact gone S6 fun s7 J7 => ⟨_, _, J7, q6⟩
          | brk => obtain ⟨σ6, H6, S6, q6⟩ := q; exact gone S6 fun s7 J7 => ⟨_, _, J7, q6⟩
          | cont => obtain ⟨σ6, H6, S6, q6⟩ := q; exact gone S6 fun s7 J7 => ⟨_, _, J7, q6⟩
    exact rest hh (w J0.len)
  · cases f with
    | ret u =>
      obtain ⟨v, σ', H', J', r, q⟩ := q
      exact ⟨v, σ', H', J'.ofTry ok, r, q⟩
    | next => obtain ⟨σ', H', J', q⟩ := q; exact wpAny_execs_nil ⟨σ', H', J'.ofTry ok, q⟩
    | brk => obtain ⟨σ', H', J', q⟩ := q; exact ⟨σ', H', J'.ofTry ok, q⟩
    | cont => obtain ⟨σ', H', J', q⟩ := q; exact ⟨σ', H', J'.ofTry ok, q⟩
end
/-! ### repr of data -/
theorem call_reprD {X : Cx} (hg : X.A.guards = some []) (hu : X.A.units + 9 < cLine) : CallR X (.builtin "repr") (fun xs H Q => ∃ v d, xs = [v] ∧ Dp X.K H v d ∧ d.showable = true ∧ d.hasDict = false ∧ d.depth ≤ 7 ∧ d.shown.length ≤ sizeLine ∧ Q (.str d.shown) H) := by
  intro pins s σ H xs us Q I r h
  obtain ⟨v, d, rfl, hd, sh, nd, dp, hz, q⟩ := h
  obtain ⟨u, rfl, rv⟩ := vals1 r
  obtain ⟨as, rd⟩ := Dp.reads I d v u hd rv
  cases rd with
  | none => exact P.repr_of_none ⟨.str "None", H, I.tok _, ⟨_, rfl⟩, q⟩
  | bool b =>
    refine P.repr_of_bool ⟨.str _, H, I.tok _, ⟨_, rfl⟩, ?_⟩
    exact q
  | int i t =>
    refine P.repr_of_int (by simpa [PyData.showable] using sh) ⟨.str _, H, I.tok _, ⟨_, rfl⟩, ?_⟩
    exact q
  | str x t =>
    refine P.repr_of_str ⟨.str _, H, I.tok _, ⟨_, rfl⟩, ?_⟩ hz
    exact q
  | list h1 h2 h3 h4 =>
    refine repr_of_reads' (h₀ := s.heap) (.list h1 h2 h3 h4) sh (fun z => by rw [nd] at z; cases z) hg (by omega) (fun _ _ z => z) (fun h' u tk hk => ?_) hz
    exact ⟨.str _, H, I.kept hk, ⟨u, rfl⟩, q⟩
  | tuple h1 h2 h3 h4 =>
    refine repr_of_reads' (h₀ := s.heap) (.tuple h1 h2 h3 h4) sh (fun z => by rw [nd] at z; cases z) hg (by omega) (fun _ _ z => z) (fun h' u tk hk => ?_) hz
    exact ⟨.str _, H, I.kept hk, ⟨u, rfl⟩, q⟩
  | dict h1 h2 h3 h4 h5 => rw [PyData.hasDict] at nd; cases nd
end Lf

set_option Elab.async false
set_option linter.all false
set_option maxRecDepth 100000
set_option maxHeartbeats 4000000
/-! What repr tells of data, held against what repr tells. -/
namespace Lf
open PySem PySem.Spec PyProof.Rows L2
/-- data that repr tells, in signs that stand -/
structure Rp (K : PySem.W.Frag) (H : Hp) (v : V) (d : PyData) : Prop where
  dp : Dp K H v d
  sh : d.showable = true
  nd : d.hasDict = false
  de : d.depth ≤ 7
  le : d.shown.length ≤ sizeLine
  ok : PyData.strOk d.shown = true
theorem Rp.same {K : PySem.W.Frag} {H H' : Hp} {v : V} {d : PyData} (h : Rp K H v d) (e : Same H H') : Rp K H' v d := ⟨dp_same e h.dp, h.sh, h.nd, h.de, h.le, h.ok⟩
theorem char_ok : ∀ c < 128, (∀ d ∈ Builtin.Str.reprChar 34 c, d < 1114112) ∧ ∀ d ∈ Builtin.Str.reprChar 39 c, d < 1114112 := by decide +kernel
theorem all_of {x : Str} (h : ∀ c ∈ x.cps.toList, c < 1114112) : PyData.strOk x = true := by
  unfold PyData.strOk
  rw [← Array.all_toList, List.all_eq_true]
  intro c hc
  exact decide_eq_true (h c hc)
theorem fold_signs {q : Nat} (hq : ∀ c < 128, ∀ d ∈ Builtin.Str.reprChar q c, d < 1114112) : ∀ (l : List Nat) (acc : Array Nat), (∀ c ∈ l, c < 128) → (∀ d ∈ acc.toList, d < 1114112) → ∀ d ∈ (l.foldl (fun out c => out ++ (Builtin.Str.reprChar q c).toArray) acc).toList, d < 1114112
  | [], acc, _, h => h
  | c :: r, acc, hl, h => by
    rw [List.foldl_cons]
    refine fold_signs hq r _ (fun d hd => hl d (List.mem_cons_of_mem _ hd)) fun d hd => ?_
    rw [Array.toList_append] at hd
    rcases List.mem_append.mp hd with z | z
    · exact h d z
    · exact hq c (hl c List.mem_cons_self) d z
theorem repr_signs {cs : List Nat} (h : ∀ c ∈ cs, c < 128) : PyData.strOk (reprText (tx cs)) = true := by
  refine all_of fun d hd => ?_
  unfold reprText at hd
  rw [Array.toList_push] at hd
  have hq : reprQuote (tx cs) = 34 ∨ reprQuote (tx cs) = 39 := by
    unfold reprQuote
    split
    · exact .inl rfl
    · exact .inr rfl
  have q1 : reprQuote (tx cs) < 1114112 := by rcases hq with z | z <;> omega
  rcases List.mem_append.mp hd with z | z
  · rw [← Array.foldl_toList] at z
    refine fold_signs (q := reprQuote (tx cs)) ?_ _ _ h ?_ d z
    · intro c hc
      rcases hq with y | y <;> rw [y]
      · exact (char_ok c hc).1
      · exact (char_ok c hc).2
    · intro d hd
      rw [List.mem_singleton.mp hd]
      exact q1
  · rw [List.mem_singleton.mp z]
    exact q1
theorem rp_txt {K : PySem.W.Frag} {H : Hp} {cs : List Nat} (h : ∀ c ∈ cs, c < 128) (l : cs.length ≤ 100000) : Rp K H (.str (tx cs)) (.str (tx cs)) where
  dp := .str _
  sh := rfl
  nd := rfl
  de := by show 0 ≤ 7; decide
  le := by
    have := StrLaws.reprText_len (tx cs) fun c hc => by
      have := h c hc
      have : (128 : Nat) < 16 ^ 8 := by decide
      omega
    rw [tx_len] at this
    show (reprText (tx cs)).length ≤ 16777216
    omega
  ok := repr_signs h
/-- a tuple of two texts -/
theorem dp_pair {K : PySem.W.Frag} {H : Hp} {t : Addr} {a b : Str} (h : H t = some (.tup [.str a, .str b])) : Dp K H (.ref t) (.tuple [.str a, .str b]) := .tup (SqT.of h) (.cons (.str a) (.cons (.str b) .nil))
theorem pair_shaped {a b : Str} (ha : PyData.strOk a = true) (hb : PyData.strOk b = true) : SeqAt.shaped (.tuple [.str a, .str b]) = true := by
  unfold SeqAt.shaped
  simp [PyData.canLay0, PyData.canLayAll0, PyData.depth, PyData.depthAll, ha, hb]
end Lf

set_option Elab.async false
set_option linter.all false
set_option maxRecDepth 100000
set_option maxHeartbeats 4000000
/-! Functions that are promised only where no repr is under way; repr of a list of ints. -/
namespace Lf
open PySem PySem.Spec PyProof.Rows L2
/-- a promise of calls from where no repr is under way -/
structure FnG (P : Program) (w : World) (K : PySem.W.Frag) (mg : Str → Option Value) (base : Heap) (CX : CXT) (k : Nat) (f : Addr) (fd : FuncData) (ps : List Str) (sp : Sp) : Prop where
  len : ∀ vs H Q E, sp vs H Q E → vs.length = ps.length
  run : ∀ (A : Around) (outer : List Env) (s : Shared) (H : Hp) (args : Args) (us : List Value) (vs : List V) (Q : VK) (E : XK), A.guards = some [] → Room k A → Env0 P w K mg base A outer s H → BindsTo s fd args (ps.zip us) → Vals vs us → sp vs H Q E →
    codeAny (model P w) A (.call (.ref f) args) (CR CX outer P w H s Q E) s
section
variable {CX : CXT} {P : Program} {w : World} {K : PySem.W.Frag} {mg : Str → Option Value} {base : Heap} {x qual : Str} {params : Arguments} {body : List Stmt} {scope : Scope} {f : Addr} {fd : FuncData}
theorem okG {N ps : List Str} {k : Nat} {sp : Sp} (F : FunD K x qual params body scope [] [] f fd) (S : FnScope N ps scope) (len : ∀ vs H Q E, sp vs H Q E → vs.length = ps.length)
    (hbody : ∀ (cdv : Value) (A : Around) (outer : List Env) (s : Shared) (H : Hp) (vs : List V) (Q : VK) (E : XK), A.guards = some [] → Room k (A.deeper (envOfC qual scope s.heap.objs.size f cdv)) → sp vs H Q E →
      ∃ t, PSs (cxOf CX P w K mg base N qual scope f cdv A outer s H E) body t ∧ t { nx := fun _ H' => Q .non H', rt := Q } (L2.start N vs) H) : FnG P w K mg base CX (k + 1) f fd ps sp := by
  obtain ⟨oc, od, dV, kV, doc, pm, an, cdv, ct, osl, rfl, lk, hcd, _, _⟩ := F.ex
  refine ⟨len, fun A outer s H args us vs Q E hgd hr e0 hb r hsp => ?_⟩
  have hl := len _ _ _ _ hsp
  have KX : K.In s.heap := e0.mod.kin.keeps fun b o e => (e0.bs b o e).1
  have hk : ∀ y ∈ ps.zip us, scope.names.lookup y.1 = some .local ∨ (scope.names.lookup y.1 = some .cell ∧ ((cellsFrom (s.heap.objs.size + 1) scope.names []).lookup y.1).isSome = true) := fun y hy =>
    (S.par y.1 (List.of_mem_zip hy).1).imp id fun q => ⟨q, PySem.W.cellsFrom_some _ _ _ (.inl q)⟩
  refine codeAny_call_function hr.depth (KX _ _ lk) rfl S.co S.gen rfl (PySem.W.codeRec_of KX hcd) (hb _ _ _ _ (wpAny_newFunctionEnv_cells S.kind hk fun env he s1 g => ?_))
  subst he
  refine ⟨(e0.mod.nolimit.keeps fun b o e => (e0.bs b o e).1).keeps g.toInCall.keep, codeAny_func ?_⟩
  obtain ⟨t, ht, hq⟩ := hbody cdv A outer s H vs Q E hgd (hr.deeper _) hsp
  refine wpAny_mono (ht.run [] s1 (L2.start N vs) H _ (inv_start S hr.hd e0 hl r g) hq) (fun fl s' hs => ?_) fun _ _ hs => hs
  cases fl with
  | brk => exact hs.elim fun _ z => z.elim fun _ z => False.elim z.2
  | cont => exact hs.elim fun _ z => z.elim fun _ z => False.elim z.2
  | next =>
    obtain ⟨_, H', J, q⟩ := hs
    exact ⟨V.non, H', J.os, J.bare, J.base, J.hok, rfl, q⟩
  | ret u =>
    obtain ⟨v, _, H', J, rv, q⟩ := hs
    exact ⟨v, H', J.os, J.bare, J.base, J.hok, rv, q⟩
end
/-- a def by its name -/
structure DefG (P : Program) (w : World) (K : PySem.W.Frag) (mg : Str → Option Value) (base : Heap) (CX : CXT) (k : Nat) (x : Str) (ps : List Str) (sp : Sp) : Prop where
  ex : ∃ f fd, mg x = some (.ref f) ∧ PySem.W.keepIn K (.ref f) = true ∧ FnG P w K mg base CX k f fd ps sp ∧ Binds K fd ps []
section
variable {X : Cx} {CX : CXT} {k : Nat} {x : Str} {ps : List Str} {sp : Sp} {E : XK} {e : Expr} {es : List Expr} {t : TA} {p pos : Pos}
theorem pe_defG (D : DefG X.prog X.w X.K X.mg X.base CX k x ps sp) (hgd : X.A.guards = some []) (hr : Room k X.A) (hx : Passes CX X E) (hg : Gl X x) (ha : PA X (e :: es) t)
    (hdb : (x == ("__debug__" : Str)) = false := by decide +kernel) (he : starEach (e :: es) X.env = (false, eval e X.env) :: starEach es X.env := by rfl)
    (hpl : (backTo pos (starEach es X.env)).any (·.1) = false := by rfl) : PE X (.Call (.Name x p) (e :: es) [] pos) (fun σ H Q => t σ H fun vs H1 => sp vs H1 Q E) := by
  obtain ⟨f, fd, g, kp, F, b⟩ := D.ex
  refine ⟨fun pins s σ H Q I h => wpAny_Call_Name_kw (ld_glob I hg g ?_ hdb)⟩
  refine PySem.W.callWith_K (h₀ := X.base) I.ok.mod.kin kp (thn (ha.run pos pins s σ H _ I h) fun us s1 ⟨vs, H1, I1, r, q⟩ => ⟨I1.kIn, ?_⟩) he hpl
  have b' := b s1 us I1.kIn (by rw [List.append_nil, ← r.length]; exact F.len _ _ _ _ q)
  rw [List.append_nil] at b'
  refine wpAny_call (codeAny_mono (F.run X.A X.stack s1 H1 ⟨us, []⟩ us vs Q E hgd hr I1.env0 b' r q) fun r' s' hq => ?_)
  cases r' with
  | error e => exact hx pins σ H1 s1 e s' I1 hq
  | ok fl =>
    cases fl with
    | ret u => exact I1.after hq
    | next => exact False.elim hq
    | brk => exact False.elim hq
    | cont => exact False.elim hq
end
/-! ### repr of a list of ints -/
abbrev reprL (ns : List Int) : Str := (PyData.list (ns.map PyData.int)).shown
theorem reads_ints {h : Heap} : ∀ {ns : List Int} {us : List Value}, Vals (ns.map V.int) us → ReadsAll h us (ns.map PyData.int) []
  | [], _, r => by
    rw [List.map_nil] at r
    cases r
    exact .nil
  | n :: ns, _, r => by
    rw [List.map_cons] at r
    cases r with
    | cons a b =>
      obtain ⟨t, rfl⟩ := (show ∃ t, _ = Value.int n t from a)
      exact .cons (.int n t) (reads_ints b)
theorem ints_noDict : ∀ (ns : List Int), PyData.hasDictAll (ns.map PyData.int) = false
  | [] => rfl
  | n :: ns => by rw [List.map_cons, PyData.hasDictAll, PyData.hasDict, ints_noDict ns]; rfl
theorem ints_depth : ∀ (ns : List Int), PyData.depthAll (ns.map PyData.int) = 0
  | [] => rfl
  | n :: ns => by rw [List.map_cons, PyData.depthAll, PyData.depth, ints_depth ns]; rfl
theorem call_reprInts {X : Cx} (hg : X.A.guards = some []) (hu : X.A.units + 9 < cLine) : CallR X (.builtin "repr") (fun xs H Q => ∃ p ns, xs = [.ref p] ∧ SqL X.K H p (ns.map V.int) ∧ (PyData.list (ns.map PyData.int)).showable = true ∧ (reprL ns).length ≤ sizeLine ∧ Q (.str (reprL ns)) H) := by
  intro pins s σ H xs us Q I r h
  obtain ⟨p, ns, rfl, hq, sh, hz, q⟩ := h
  obtain ⟨u, rfl, e⟩ := vals1 r
  cases e
  obtain ⟨its, rv, ⟨o, n, e1, e2, e3, e4⟩, _⟩ := I.list hq
  refine repr_of_reads' (h₀ := s.heap) (.list e1 e2 e4 (by rw [List.toList_toArray]; exact reads_ints rv)) sh (fun z => ?_) hg ?_ (fun _ _ z => z) (fun h' u tk hk => ?_) hz
  · rw [PyData.hasDict, ints_noDict] at z
    cases z
  · rw [PyData.depth, ints_depth]
    omega
  · exact ⟨.str (reprL ns), H, I.kept hk, ⟨u, rfl⟩, q⟩
theorem small_text : ∀ n : Nat, n < 300 → ((PyData.int (n : Nat)).shown).length ≤ 3 := by decide +kernel
theorem small_show : ∀ n : Nat, n < 300 → (PyData.int (n : Nat)).showable = true := by decide +kernel
theorem repr_small : ∀ {ns : List Nat}, (∀ n ∈ ns, n < 300) → PyData.showableAll ((ns.map fun n => ((n : Nat) : Int)).map PyData.int) = true ∧ ((PyData.shownAll ((ns.map fun n => ((n : Nat) : Int)).map PyData.int)).map (·.length)).sum ≤ 3 * ns.length ∧ (PyData.shownAll ((ns.map fun n => ((n : Nat) : Int)).map PyData.int)).length = ns.length
  | [], _ => ⟨rfl, Nat.le_refl _, rfl⟩
  | n :: ns, h => by
    obtain ⟨a, b, c⟩ := repr_small (ns := ns) fun m hm => h m (List.mem_cons_of_mem _ hm)
    have h1 := small_text n (h n List.mem_cons_self)
    have h2 := small_show n (h n List.mem_cons_self)
    rw [List.map_cons, List.map_cons]
    refine ⟨?_, ?_, ?_⟩
    · rw [PyData.showableAll, h2, a]
      rfl
    · rw [PyData.shownAll, List.map_cons, List.sum_cons, List.length_cons]
      omega
    · rw [PyData.shownAll, List.length_cons, c, List.length_cons]
/-- repr of numbers below 300 -/
theorem reprOk {ns : List Nat} (h : ∀ n ∈ ns, n < 300) (l : ns.length ≤ 100000) : (PyData.list ((ns.map fun n => ((n : Nat) : Int)).map PyData.int)).showable = true ∧ (reprL (ns.map fun n => ((n : Nat) : Int))).length ≤ sizeLine := by
  obtain ⟨a, b, c⟩ := repr_small h
  refine ⟨by rw [PyData.showable]; exact a, ?_⟩
  have := listText_len_le (PyData.shownAll ((ns.map fun n => ((n : Nat) : Int)).map PyData.int))
  unfold reprL
  rw [PyData.shown, sizeLine_eq]
  omega
end Lf

set_option Elab.async false
set_option linter.all false
set_option maxRecDepth 100000
set_option maxHeartbeats 4000000
/-! for i, x in enumerate(t), t a tuple. -/
namespace Lf
open PySem PySem.Spec PyProof.Rows L2
set_option maxHeartbeats 8000000 in
theorem new_enum {v : Value} {o : Obj} {G : Heap → Prop} (B : Begins v o G) :
    Meets (Builtin.«enumerate.__new__» ⟨[.type "enumerate", v], []⟩) (fun _ R s => G s.heap ∧
      R (.ok (.ret (.ref (s.heap.push o).objs.size)))
        { s with heap := (s.heap.push o).push { cls := .type "enumerate", data := .fields #[.none, .bool false, .ref s.heap.objs.size, rawInt 0, .none, .none] } }) :=
  .of_wp fun prog w A R s hh => by
    obtain ⟨hp, g, d, tk, os⟩ := s
    obtain ⟨hg, fin⟩ := hh
    have sub := sub_enumerate
    have go : ∀ {A' : Around} {E' : Value → Shared → Prop} {Q' : Value → Shared → Prop}, Q' (.ref hp.objs.size) ⟨hp.push o, g, d, tk, os⟩ → wpAny (model prog w) A' (pyIter v) Q' E' ⟨hp, g, d, tk, os⟩ := fun q =>
      B.iter prog w _ _ ⟨hp, g, d, tk, os⟩ _ hg q
    wp_walk using go
    refine wpAny_stack_any fun st => wpAny_pure ?_
    split
    · rename_i c _ _ _ _ _
      cases (c == Value.type "enumerate") <;> (wp_walk using go; exact ⟨_, rfl, fin⟩)
    · wp_walk using go
      exact ⟨_, rfl, fin⟩
theorem call_enum {prog : Program} {w : World} {A : Around} {E : Value → Shared → Prop} {s : Shared} {v : Value} {o : Obj} {G : Heap → Prop} {Q : Value → Shared → Prop} (B : Begins v o G) (hg : G s.heap)
    (h : ∀ h', IsEnum h' (s.heap.objs.size + 1) s.heap.objs.size 0 .none → h'.get? s.heap.objs.size = some o → (∀ b u, s.heap.get? b = some u → h'.get? b = some u) → Q (.ref (s.heap.objs.size + 1)) { s with heap := h' }) :
    wpAny (model prog w) A (call (.type "enumerate") [v]) Q E s := by
  refine callType_new F.called_enumerate (by decide) (F.typeCall_enumerate_1 _) (F.newCall_enumerate_1 _) (fun x => F.args_object_init_2 x _) F.entry_enumerate_new (new_enum B) ⟨hg, ?_⟩
  have sz : (s.heap.push o).objs.size = s.heap.objs.size + 1 := Heap.size_push ..
  show _ ∧ _
  rw [sz]
  let e : Obj := { cls := .type "enumerate", data := .fields #[.none, .bool false, .ref s.heap.objs.size, rawInt 0, .none, .none] }
  have he : IsEnum ((s.heap.push o).push e) (s.heap.objs.size + 1) s.heap.objs.size 0 .none := by
    have z := Heap.get?_push_size (s.heap.push o) (o := e) rfl
    rw [sz] at z
    exact z
  exact ⟨⟨_, he, rfl⟩, h _ he (Heap.get?_push_of_some _ (Heap.get?_push_size _ B.free)) fun b u z => Heap.get?_push_of_some _ (Heap.get?_push_of_some _ z)⟩
/-- the tuple at a as it stands, its items in new pairs with their places -/
def Itet (K : PySem.W.Frag) (a : Addr) : It :=
  ⟨fun i H => ∃ (xs : List V) (x : V), SqT K H a xs ∧ xs[i]? = some x,
    fun i H v H' => ∃ T x, v = .ref T ∧ H T = none ∧ H' = upd H T (.tup [.int (i : Nat), x]) ∧ ∀ xs, SqT K H a xs → xs[i]? = some x,
    fun i H => ∃ xs : List V, SqT K H a xs ∧ xs.length = i⟩
theorem turn_enumT {P : Program} {w : World} {K : PySem.W.Frag} {elts : List Expr} {kk : Nat} {tpos : Pos} (a e it : Addr) :
    Turn P w K (.Tuple elts kk tpos) (Itet K a) [e, it] e (fun i h => (∃ old, IsEnum h e it ((i : Nat) : Int) old) ∧ h.IsTupleIter it a i ∧ e ≠ it ∧ a ≠ it ∧ a ≠ e) where
  mem := List.mem_cons_self
  obj := fun i h st b hb => by
    obtain ⟨⟨old, he⟩, ⟨o, ho, hc, hd⟩, _⟩ := st
    simp only [List.mem_cons, List.not_mem_nil, or_false] at hb
    rcases hb with rfl | rfl
    · exact ⟨_, he, fun v q => nomatch q⟩
    · exact ⟨o, ho, fun v q => by rw [hd] at q; cases q⟩
  keep := fun i h h' st k => by
    obtain ⟨⟨old, he⟩, hi, ne⟩ := st
    exact ⟨⟨old, k e (by simp) _ he⟩, hi.at fun o q => k it (by simp) o q, ne⟩
  item := by
    intro X hP hw hK hc i pins s σ H E I hf st hg
    subst hP hw hK
    obtain ⟨⟨old, he⟩, hit, ne, na, nae⟩ := st
    obtain ⟨xs, x, hq, hx⟩ := hg
    obtain ⟨its, rv, p, hz⟩ := I.tuple hq
    obtain ⟨u, hu, ru⟩ := rv.get hx
    have el : e < s.heap.objs.size := Heap.lt_size he
    have il : it < s.heap.objs.size := by obtain ⟨_, q, _⟩ := hit; exact Heap.lt_size q
    have calm : X.A.in1.handled = none := by have := I.ok.hd hc; simp [this]
    have hlt : i < its.toArray.size := by rw [List.size_toArray, ← rv.length]; exact (List.getElem?_eq_some_iff.mp hx).1
    refine wpAny_pyNext_enum_itemD (Draws.tuple (prog := X.prog) (w := X.w) calm it a na its.toArray) he ⟨hit, p⟩ hlt ne (by simp only [List.mem_cons, List.not_mem_nil, or_false, not_or]; exact ⟨ne, Ne.symm nae⟩) fun y h' tk hy ho st' hT hsz hk => ?_
    have ey : y = u := by
      have h1 : its[i]? = some y := by simpa using hy
      rw [hu] at h1
      exact (Option.some.inj h1).symm
    subst ey
    refine ⟨_, rfl, wpAny_letOwnedTupleGo_enum (s := { s with heap := h', toks := tk + 1 }) ho fun h'' he' sb => ?_⟩
    have hT2 := (sb.2 _ (Nat.ne_of_gt el)).trans hT
    have new : ObjOk X.prog X.w (upd H s.heap.objs.size (.tup [.int (i : Nat), x])) h'' s.heap.objs.size (.tup [.int (i : Nat), x]) :=
      ⟨by show 2 ≤ sizeLine; decide, [.int i tk, y], .cons ⟨_, rfl⟩ (.cons ru .nil), ⟨_, hT2, rfl, _, rfl⟩⟩
    have off : ∀ b, b ∉ [e, it] → b ≠ e ∧ b ≠ it := fun b hb => by
      simp only [List.mem_cons, List.not_mem_nil, or_false, not_or] at hb
      exact hb
    have I1 : Inv X pins σ (upd H s.heap.objs.size (.tup [.int (i : Nat), x])) { s with heap := h'', toks := tk + 1 } :=
      I.turnedNew (ch := [e, it]) (fun b ob hb q => (sb.2 b (off b hb).1).trans (hk b ob (off b hb).1 (off b hb).2 q)) hf (Nat.le_refl _) new
    refine ⟨.ref s.heap.objs.size, _, I1, rfl, ⟨_, x, rfl, I.hok.fresh (Nat.le_refl _), rfl, fun ys hy => by rw [I.tuple_inj hy hq]; exact hx⟩, ⟨⟨y, ?_⟩, st'.1.at fun o q => (sb.2 it (Ne.symm ne)).trans q, ne, na, nae⟩, fun b hb => ?_⟩
    · have z : ((i + 1 : Nat) : Int) = (i : Int) + 1 := by omega
      rw [z]
      exact he'
    · have lt : b < s.heap.objs.size := by
        simp only [List.mem_cons, List.not_mem_nil, or_false] at hb
        rcases hb with rfl | rfl
        · exact el
        · exact il
      rw [upd_ne (Nat.ne_of_lt lt)]
      exact (hf b hb).1
  done := by
    intro X hP hw hK hc i pins s σ H E I hf st hg
    subst hP hw hK
    obtain ⟨⟨old, he⟩, hit, ne, na, nae⟩ := st
    obtain ⟨xs, hq, hx⟩ := hg
    obtain ⟨its, rv, p, hz⟩ := I.tuple hq
    obtain ⟨f0, f1, f2, f3, f4, f5⟩ := hf it (by simp)
    have calm : X.A.in1.handled = none := by have := I.ok.hd hc; simp [this]
    have en : its.toArray.size = i := by rw [List.size_toArray, ← rv.length, hx]
    exact wpAny_pyNext_enum_endD (Draws.tuple (prog := X.prog) (w := X.w) calm it a na its.toArray) he (by rw [en]; exact ⟨hit, p⟩) fun h' eb => ⟨rfl, I.turned (t' := s.toks) (fun b o hb q => eb b o hb q) f0 f1 f3 f4 f5⟩
  self := fun A i s Q E st h => by
    obtain ⟨⟨_, he⟩, _⟩ := st
    exact wpAny_pyIter_enum he h
/-- enumerate(x), x a list or a tuple -/
def iEnumA (K : PySem.W.Frag) (ta : TE) : TI := fun σ H R => ta σ H fun x H1 => ∃ a xs, x = .ref a ∧ ((SqL K H1 a xs ∧ R (Ite K a) H1) ∨ (SqT K H1 a xs ∧ R (Itet K a) H1))
theorem pi_enumA {X : Cx} {e : Expr} {ta : TE} {p pos tpos : Pos} {elts : List Expr} {kk : Nat} (hg : Gl X "enumerate") (hm : X.mg "enumerate" = none) (ha : PE X e ta)
    (hs : starEach [e] X.env = [(false, eval e X.env)] := by rfl) : PI X (.Tuple elts kk tpos) (.Call (.Name "enumerate" p) [e] [] pos) (iEnumA X.K ta) := by
  refine ⟨fun pins s σ H R I h => ?_⟩
  refine Call_ (ld_blt I hg hm boot_enumerate (PyProof.Rows.callWith_type1 (thn ((pa_cons (PE.up ha) pa_nil hs).run pos pins s σ H (fun vs H1 => ∃ x, vs = [x] ∧ ∃ a xs, x = .ref a ∧ ((SqL X.K H1 a xs ∧ R (Ite X.K a) H1) ∨ (SqT X.K H1 a xs ∧ R (Itet X.K a) H1))) I ?_) fun us s1 hh => ?_) hs rfl))
  · exact ⟨_, h, fun v H' z => ⟨v, rfl, z⟩⟩
  obtain ⟨vs, H1, I1, r1, x, rfl, a, xs, rfl, q1⟩ := hh
  cases r1 with
  | cons r rr =>
    cases rr
    cases r
    have fp : ∀ b ∈ [s1.heap.objs.size + 1, s1.heap.objs.size], s1.heap.objs.size ≤ b := fun b hb => by
      simp only [List.mem_cons, List.not_mem_nil, or_false] at hb
      rcases hb with rfl | rfl
      · exact Nat.le_add_right _ _
      · exact Nat.le_refl _
    rcases q1 with ⟨hq, q⟩ | ⟨hq, q⟩
    · obtain ⟨its, rv, p', hz⟩ := I1.list hq
      refine call_enum (begins_list a its.toArray) p'.isList fun h' he hit hk => wpAny_pyIter_enum he ?_
      exact ⟨s1.heap.objs.size + 1, [s1.heap.objs.size + 1, s1.heap.objs.size], _, _, H1, rfl, I1.kept (t' := s1.toks) hk, turn_enum a (s1.heap.objs.size + 1) s1.heap.objs.size,
        ⟨⟨.none, he⟩, ⟨_, hit, rfl, rfl⟩, Nat.succ_ne_self _⟩, fun b hb => I1.fpOk (fp b hb) (I1.hok.fresh (fp b hb)), q⟩
    · obtain ⟨its, rv, p', hz⟩ := I1.tuple hq
      have al : a < s1.heap.objs.size := p'.lt
      refine call_enum (begins_tuple a its.toArray) p' fun h' he hit hk => wpAny_pyIter_enum he ?_
      exact ⟨s1.heap.objs.size + 1, [s1.heap.objs.size + 1, s1.heap.objs.size], _, _, H1, rfl, I1.kept (t' := s1.toks) hk, turn_enumT a (s1.heap.objs.size + 1) s1.heap.objs.size,
        ⟨⟨.none, he⟩, ⟨_, hit, rfl, rfl⟩, Nat.succ_ne_self _, Nat.ne_of_lt al, Nat.ne_of_lt (Nat.lt_succ_of_lt al)⟩, fun b hb => I1.fpOk (fp b hb) (I1.hok.fresh (fp b hb)), q⟩
/-- it gives each item of xs in a new pair with its place -/
theorem walk_enumT {K : PySem.W.Frag} {a : Addr} {xs : List V} : Walk (Itet K a) xs.length (fun H => SqT K H a xs)
    (fun i H v H' => ∃ T x, v = .ref T ∧ H T = none ∧ H' = upd H T (.tup [.int (i : Nat), x]) ∧ xs[i]? = some x) where
  goes := fun i H hi g => ⟨xs, _, g, List.getElem?_eq_getElem hi⟩
  stops := fun H g => ⟨xs, g, rfl⟩
  yields := fun i H x H' _ g y => by
    obtain ⟨T, z, e, n, eh, f⟩ := y
    exact ⟨T, z, e, n, eh, f xs g⟩
theorem walk_enumL {K : PySem.W.Frag} {a : Addr} {xs : List V} : Walk (Ite K a) xs.length (fun H => SqL K H a xs)
    (fun i H v H' => ∃ T x, v = .ref T ∧ H T = none ∧ H' = upd H T (.tup [.int (i : Nat), x]) ∧ xs[i]? = some x) where
  goes := fun i H hi g => ⟨xs, _, g, List.getElem?_eq_getElem hi⟩
  stops := fun H g => ⟨xs, g, Nat.le_refl _⟩
  yields := fun i H x H' _ g y => by
    obtain ⟨T, z, e, n, eh, f⟩ := y
    exact ⟨T, z, e, n, eh, f xs g⟩
end Lf

set_option Elab.async false
set_option linter.all false
set_option maxRecDepth 100000
set_option maxHeartbeats 4000000
/-! for i, c in enumerate(s), s a text. -/
namespace Lf
open PySem PySem.Spec PyProof.Rows L2
theorem Draws.strU {prog : Program} {w : World} {A : Around} (hh : A.handled = none) (it : Addr) (x : Str) (t : Tok) :
    Draws prog w A it [it] x.cps.size (fun i v => ∃ c u, x.cps[i]? = some c ∧ v = .str ⟨#[c]⟩ u) (fun i h => h.IsStrIter it (strIterType x) x t i) := by
  cases ha : x.cps.all (· < 128)
  · have e : strIterType x = "str_iterator" := by simp [strIterType, ha]
    rw [e]
    exact PySem.Draws.strWide hh it x t
  · have e : strIterType x = "str_ascii_iterator" := by simp [strIterType, ha]
    rw [e]
    exact PySem.Draws.strAscii hh it x t
/-- the signs of x in new pairs with their places -/
def Ites (x : Str) : It :=
  ⟨fun i H => i < x.cps.size,
    fun i H v H' => ∃ (T : Addr) (c : Nat), v = .ref T ∧ H T = none ∧ H' = upd H T (.tup [.int (i : Nat), .str ⟨#[c]⟩]) ∧ x.cps[i]? = some c,
    fun i H => x.cps.size = i⟩
theorem turn_enumS {P : Program} {w : World} {K : PySem.W.Frag} {elts : List Expr} {kk : Nat} {tpos : Pos} (x : Str) (t : Tok) (e it : Addr) :
    Turn P w K (.Tuple elts kk tpos) (Ites x) [e, it] e (fun i h => (∃ old, IsEnum h e it ((i : Nat) : Int) old) ∧ h.IsStrIter it (strIterType x) x t i ∧ e ≠ it) where
  mem := List.mem_cons_self
  obj := fun i h st b hb => by
    obtain ⟨⟨old, he⟩, ⟨o, ho, hc, hd⟩, _⟩ := st
    simp only [List.mem_cons, List.not_mem_nil, or_false] at hb
    rcases hb with rfl | rfl
    · exact ⟨_, he, fun v q => nomatch q⟩
    · exact ⟨o, ho, fun v q => by rw [hd] at q; cases q⟩
  keep := fun i h h' st k => by
    obtain ⟨⟨old, he⟩, ⟨o, ho, g⟩, ne⟩ := st
    exact ⟨⟨old, k e (by simp) _ he⟩, ⟨o, k it (by simp) _ ho, g⟩, ne⟩
  item := by
    intro X hP hw hK hc i pins s σ H E I hf st hg
    subst hP hw hK
    obtain ⟨⟨old, he⟩, hit, ne⟩ := st
    have hlt : i < x.cps.size := hg
    have el : e < s.heap.objs.size := Heap.lt_size he
    have il : it < s.heap.objs.size := by obtain ⟨_, q, _⟩ := hit; exact Heap.lt_size q
    have calm : X.A.in1.handled = none := by have := I.ok.hd hc; simp [this]
    refine wpAny_pyNext_enum_itemD (Draws.strU (prog := X.prog) (w := X.w) calm it x t) he hit hlt ne (by simp only [List.mem_cons, List.not_mem_nil, or_false]; exact ne) fun y h' tk hy ho st' hT hs hk => ?_
    obtain ⟨c, u, hxc, rfl⟩ := hy
    refine ⟨_, rfl, wpAny_letOwnedTupleGo_enum (s := { s with heap := h', toks := tk + 1 }) ho fun h'' he' sb => ?_⟩
    have hT2 := (sb.2 _ (Nat.ne_of_gt el)).trans hT
    have new : ObjOk X.prog X.w (upd H s.heap.objs.size (.tup [.int (i : Nat), .str ⟨#[c]⟩])) h'' s.heap.objs.size (.tup [.int (i : Nat), .str ⟨#[c]⟩]) :=
      ⟨by show 2 ≤ sizeLine; decide, [.int i tk, .str ⟨#[c]⟩ u], .cons ⟨_, rfl⟩ (.cons ⟨_, rfl⟩ .nil), ⟨_, hT2, rfl, _, rfl⟩⟩
    have off : ∀ b, b ∉ [e, it] → b ≠ e ∧ b ≠ it := fun b hb => by
      simp only [List.mem_cons, List.not_mem_nil, or_false, not_or] at hb
      exact hb
    have I1 : Inv X pins σ (upd H s.heap.objs.size (.tup [.int (i : Nat), .str ⟨#[c]⟩])) { s with heap := h'', toks := tk + 1 } :=
      I.turnedNew (ch := [e, it]) (fun b ob hb q => (sb.2 b (off b hb).1).trans (hk b ob (off b hb).1 (off b hb).2 q)) hf (Nat.le_refl _) new
    refine ⟨.ref s.heap.objs.size, _, I1, rfl, ⟨_, c, rfl, I.hok.fresh (Nat.le_refl _), rfl, hxc⟩, ⟨⟨Value.str ⟨#[c]⟩ u, ?_⟩, ?_, ne⟩, fun b hb => ?_⟩
    · have z : ((i + 1 : Nat) : Int) = (i : Int) + 1 := by omega
      rw [z]
      exact he'
    · obtain ⟨o, q, g⟩ := st'
      exact ⟨o, (sb.2 it (Ne.symm ne)).trans q, g⟩
    · have lt : b < s.heap.objs.size := by
        simp only [List.mem_cons, List.not_mem_nil, or_false] at hb
        rcases hb with rfl | rfl
        · exact el
        · exact il
      rw [upd_ne (Nat.ne_of_lt lt)]
      exact (hf b hb).1
  done := by
    intro X hP hw hK hc i pins s σ H E I hf st hg
    subst hP hw hK
    obtain ⟨⟨old, he⟩, hit, ne⟩ := st
    have hx : x.cps.size = i := hg
    obtain ⟨f0, f1, f2, f3, f4, f5⟩ := hf it (by simp)
    have calm : X.A.in1.handled = none := by have := I.ok.hd hc; simp [this]
    exact wpAny_pyNext_enum_endD (Draws.strU (prog := X.prog) (w := X.w) calm it x t) he (by rw [hx]; exact hit) fun h' eb => ⟨rfl, I.turned (t' := s.toks) (fun b o hb q => eb b o hb q) f0 f1 f3 f4 f5⟩
  self := fun A i s Q E st h => by
    obtain ⟨⟨_, he⟩, _⟩ := st
    exact wpAny_pyIter_enum he h
/-- enumerate(x), x a text -/
def iEnumS (ta : TE) : TI := fun σ H R => ta σ H fun v H1 => ∃ x, v = .str x ∧ R (Ites x) H1
theorem pi_enumS {X : Cx} {e : Expr} {ta : TE} {p pos tpos : Pos} {elts : List Expr} {kk : Nat} (hg : Gl X "enumerate") (hm : X.mg "enumerate" = none) (ha : PE X e ta)
    (hs : starEach [e] X.env = [(false, eval e X.env)] := by rfl) : PI X (.Tuple elts kk tpos) (.Call (.Name "enumerate" p) [e] [] pos) (iEnumS ta) := by
  refine ⟨fun pins s σ H R I h => ?_⟩
  refine Call_ (ld_blt I hg hm boot_enumerate (PyProof.Rows.callWith_type1 (thn ((pa_cons (PE.up ha) pa_nil hs).run pos pins s σ H (fun vs H1 => ∃ v, vs = [v] ∧ ∃ x, v = .str x ∧ R (Ites x) H1) I ?_) fun us s1 hh => ?_) hs rfl))
  · exact ⟨_, h, fun v H' z => ⟨v, rfl, z⟩⟩
  obtain ⟨vs, H1, I1, r1, v, rfl, x, rfl, q⟩ := hh
  cases r1 with
  | cons r rr =>
    cases rr
    obtain ⟨t, rfl⟩ := r
    have fp : ∀ b ∈ [s1.heap.objs.size + 1, s1.heap.objs.size], s1.heap.objs.size ≤ b := fun b hb => by
      simp only [List.mem_cons, List.not_mem_nil, or_false] at hb
      rcases hb with rfl | rfl
      · exact Nat.le_add_right _ _
      · exact Nat.le_refl _
    refine call_enumerate_str fun h' he hit hz hk => wpAny_pyIter_enum he ?_
    exact ⟨s1.heap.objs.size + 1, [s1.heap.objs.size + 1, s1.heap.objs.size], _, _, H1, rfl, I1.kept (t' := s1.toks) hk, turn_enumS x t (s1.heap.objs.size + 1) s1.heap.objs.size,
      ⟨⟨.none, he⟩, hit, Nat.succ_ne_self _⟩, fun b hb => I1.fpOk (fp b hb) (I1.hok.fresh (fp b hb)), q⟩
theorem walk_enumS {x : Str} : Walk (Ites x) x.cps.size (fun _ => True)
    (fun i H v H' => ∃ (T : Addr) (c : Nat), v = .ref T ∧ H T = none ∧ H' = upd H T (.tup [.int (i : Nat), .str ⟨#[c]⟩]) ∧ x.cps[i]? = some c) where
  goes := fun i H hi g => hi
  stops := fun H g => rfl
  yields := fun i H v H' _ g y => y
end Lf

set_option Elab.async false
set_option linter.all false
/-! Identities: the signs by which one goes on. Pure. -/
namespace Idn
abbrev S3 := Nat × Nat × Bool
def ok (st : S3) (c : Nat) : Bool :=
  if st.1 = 0 then decide (c ∈ [49, 40, 119, 120, 121, 122])
  else if c = 41 then decide (0 < st.2.1)
  else if c = 61 then decide (st.2.1 = 0) && !st.2.2
  else decide (st.1 = 2) && decide (c ∈ [119, 120, 121, 122, 40, 94, 126])
def step (st : S3) (c : Nat) : S3 := (if c = 40 ∨ c = 61 then 0 else if c = 49 then 1 else 2, if c = 40 then st.2.1 + 1 else if c = 41 then st.2.1 - 1 else st.2.1, st.2.2 || decide (c = 61))
def nx (o : Option S3) (c : Nat) : Option S3 := o.bind fun st => if ok st c = true then some (step st c) else none
def from_ (st : S3) (l : List Nat) : Option S3 := l.foldl nx (some st)
def ini : S3 := (0, 0, false)
theorem none_nx : ∀ l : List Nat, l.foldl nx none = none
  | [] => rfl
  | c :: r => none_nx r
theorem from_app (st : S3) (a b : List Nat) : from_ st (a ++ b) = (from_ st a).bind fun s => from_ s b := by
  unfold from_
  rw [List.foldl_append]
  cases h : a.foldl nx (some st) with
  | none => exact none_nx b
  | some s => rfl
theorem from_snoc {st s : S3} {a : List Nat} {c : Nat} (h : from_ st a = some s) (o : ok s c = true) : from_ st (a ++ [c]) = some (step s c) := by
  rw [from_app, h]
  show nx (some s) c = _
  show (if ok s c = true then _ else _) = _
  rw [if_pos o]
def go : Nat → S3 → List Nat → Nat ⊕ S3
  | _, st, [] => .inr st
  | i, st, c :: r => if ok st c = true then go (i + 1) (step st c) r else .inl i
theorem go_pre (r : List Nat) : ∀ (l : List Nat) (i : Nat) (st s : S3), from_ st l = some s → go i st (l ++ r) = go (i + l.length) s r
  | [], i, st, s, h => by
    have : st = s := Option.some.inj h
    rw [this]
    rfl
  | c :: l, i, st, s, h => by
    show (if ok st c = true then go (i + 1) (step st c) (l ++ r) else _) = _
    by_cases o : ok st c = true
    · rw [if_pos o, go_pre r l (i + 1) (step st c) s ?_]
      · rw [List.length_cons]
        congr 1
        omega
      · have : from_ st (c :: l) = from_ (step st c) l := by
          show l.foldl nx (nx (some st) c) = _
          show l.foldl nx (if ok st c = true then some (step st c) else none) = _
          rw [if_pos o]
          rfl
        rw [← this]
        exact h
    · have : from_ st (c :: l) = none := by
        show l.foldl nx (if ok st c = true then some (step st c) else none) = _
        rw [if_neg o]
        exact none_nx l
      rw [this] at h
      cases h
def good (st : S3) : Bool := decide (st.1 ≠ 0) && (decide (st.2.1 = 0) && st.2.2)
/-- the place at which no identity can go on; none for an identity -/
def verdict (cs : List Nat) : Option Nat := match go 0 ini cs with
  | .inl i => some i
  | .inr st => if good st = true then none else some cs.length
theorem verdict_bad {cs : List Nat} {i c : Nat} {st : S3} (h : from_ ini (cs.take i) = some st) (hc : cs[i]? = some c) (o : ok st c = false) : verdict cs = some i := by
  have hi := (List.getElem?_eq_some_iff.mp hc).1
  have he := (List.getElem?_eq_some_iff.mp hc).2
  have e : cs = cs.take i ++ c :: cs.drop (i + 1) := by
    rw [← he, ← List.drop_eq_getElem_cons hi, List.take_append_drop]
  have g := go_pre (c :: cs.drop (i + 1)) (cs.take i) 0 ini st h
  rw [← e] at g
  have g2 : go (0 + (cs.take i).length) st (c :: cs.drop (i + 1)) = .inl i := by
    show (if ok st c = true then _ else Sum.inl (0 + (cs.take i).length)) = _
    rw [if_neg (by rw [o]; decide), List.length_take, Nat.min_eq_left (by omega), Nat.zero_add]
  unfold verdict
  rw [g, g2]
theorem verdict_end {cs : List Nat} {st : S3} (h : from_ ini cs = some st) : verdict cs = if good st = true then none else some cs.length := by
  have g := go_pre [] cs 0 ini st h
  rw [List.append_nil] at g
  unfold verdict
  rw [g]
  rfl
/-! ### what terms are made of -/
/-- a term: from where nothing of one stands ahead to behind it -/
def Tm (t : List Nat) : Prop := ∀ d s, ∃ m, (m = 1 ∨ m = 2) ∧ from_ (0, d, s) t = some (m, d, s)
/-- a factor, perhaps with signs -/
def Fc (u : List Nat) : Prop := ∀ m d s, m = 0 ∨ m = 2 → from_ (m, d, s) u = some (2, d, s)
def Sg (v : List Nat) : Prop := ∀ d s, from_ (2, d, s) v = some (2, d, s)
/-- factors so far: none yet, or some -/
def Fs (f : List Nat) : Prop := ∀ d s, from_ (0, d, s) f = some (0, d, s) ∧ f = [] ∨ from_ (0, d, s) f = some (2, d, s)
theorem tm_one : Tm [49] := fun d s => ⟨1, .inl rfl, by
  unfold from_
  show nx (some (0, d, s)) 49 = _
  unfold nx ok step
  simp⟩
theorem fc_var {c : Nat} (h : c ∈ [119, 120, 121, 122]) : Fc [c] := fun m d s hm => by
  unfold from_
  show nx (some (m, d, s)) c = _
  simp only [List.mem_cons, List.not_mem_nil, or_false] at h
  unfold nx ok step
  rcases h with rfl | rfl | rfl | rfl <;> rcases hm with rfl | rfl <;> simp
theorem fc_par {t : List Nat} (h : Tm t) : Fc ([40] ++ t ++ [41]) := fun m d s hm => by
  obtain ⟨m', hm', e⟩ := h (d + 1) s
  have e1 : from_ (m, d, s) [40] = some (0, d + 1, s) := by
    unfold from_
    show nx (some (m, d, s)) 40 = _
    unfold nx ok step
    rcases hm with rfl | rfl <;> simp
  have e2 : from_ (m', d + 1, s) [41] = some (2, d, s) := by
    unfold from_
    show nx (some (m', d + 1, s)) 41 = _
    unfold nx ok step
    rcases hm' with rfl | rfl <;> simp
  rw [from_app, from_app, e1]
  show (from_ (0, d + 1, s) t).bind _ = _
  rw [e]
  exact e2
theorem sg_of {v : List Nat} (h : ∀ c ∈ v, c = 94 ∨ c = 126) : Sg v := by
  intro d s
  induction v with
  | nil => rfl
  | cons c r ih =>
    have : from_ (2, d, s) (c :: r) = from_ (2, d, s) r := by
      show r.foldl nx (nx (some (2, d, s)) c) = _
      have : nx (some (2, d, s)) c = some (2, d, s) := by
        unfold nx ok step
        rcases h c List.mem_cons_self with rfl | rfl <;> simp
      rw [this]
      rfl
    rw [this]
    exact ih fun c hc => h c (List.mem_cons_of_mem _ hc)
theorem fs_nil : Fs [] := fun d s => .inl ⟨rfl, rfl⟩
theorem fs_more {f u v : List Nat} (hf : Fs f) (hu : Fc u) (hv : Sg v) : ∀ d s, from_ (0, d, s) (f ++ u ++ v) = some (2, d, s) := fun d s => by
  have e : from_ (0, d, s) (f ++ u) = some (2, d, s) := by
    rw [from_app]
    rcases hf d s with ⟨e, _⟩ | e
    · rw [e]
      exact hu 0 d s (.inl rfl)
    · rw [e]
      exact hu 2 d s (.inr rfl)
  rw [from_app, e]
  exact hv d s
theorem fs_step {f u v : List Nat} (hf : Fs f) (hu : Fc u) (hv : Sg v) : Fs (f ++ u ++ v) := fun d s => .inr (fs_more hf hu hv d s)
theorem tm_fs {f : List Nat} (h : ∀ d s, from_ (0, d, s) f = some (2, d, s)) : Tm f := fun d s => ⟨2, .inr rfl, h d s⟩
/-- two terms with = between them -/
theorem whole {t u : List Nat} (ht : Tm t) (hu : Tm u) : verdict (t ++ [61] ++ u) = none := by
  obtain ⟨m, hm, e⟩ := ht 0 false
  obtain ⟨m', hm', e'⟩ := hu 0 true
  have e1 : from_ (m, 0, false) [61] = some (0, 0, true) := by
    unfold from_
    show nx (some (m, 0, false)) 61 = _
    unfold nx ok step
    rcases hm with rfl | rfl <;> simp
  have g : from_ ini (t ++ [61] ++ u) = some (m', 0, true) := by
    rw [from_app, from_app]
    show ((from_ (0, 0, false) t).bind _).bind _ = _
    rw [e]
    show (from_ (m, 0, false) [61]).bind _ = _
    rw [e1]
    exact e'
  rw [verdict_end g]
  have : good (m', 0, true) = true := by
    unfold good
    rcases hm' with rfl | rfl <;> rfl
  rw [if_pos this]
def vars (cs : List Nat) : List Nat := [119, 120, 121, 122].filter fun c => decide (c ∈ cs)
/-- how long terms are, and of how many draws -/
def lenB : Nat → Nat
  | 0 => 12
  | n + 1 => 15 + 3 * lenB n
def drB : Nat → Nat
  | 0 => 8
  | n + 1 => 11 + 3 * drB n
theorem lenB_one : ∀ n, 1 ≤ lenB n
  | 0 => by decide
  | n + 1 => by show 1 ≤ 15 + 3 * lenB n; omega
end Idn
namespace Idn
def perD : Nat → Nat
  | 0 => 2
  | n + 1 => 3 + drB n
def perL : Nat → Nat
  | 0 => 4
  | n + 1 => 5 + lenB n
theorem drB_eq : ∀ d, drB d = 2 + 3 * perD d
  | 0 => rfl
  | n + 1 => by show 11 + 3 * drB n = 2 + 3 * (3 + drB n); omega
theorem lenB_eq : ∀ d, lenB d = 3 * perL d
  | 0 => rfl
  | n + 1 => by show 15 + 3 * lenB n = 3 * (5 + lenB n); omega
theorem lenB_le : ∀ d, d ≤ 6 → lenB d ≤ 14208 := by decide
theorem perL_le : ∀ d, d ≤ 6 → perL d ≤ 4736 := by decide
end Idn

set_option Elab.async false
set_option linter.all false
set_option maxRecDepth 100000
set_option maxHeartbeats 8000000
/-! A binary operator by an own method, the other operand of any type; != by an own __eq__. -/
namespace Lf
open PySem PySem.Spec PyProof.Rows L2
section
open PySem.W
variable {prog : Program} {w : World} {A : Around} {E : Value → Shared → Prop} {s : Shared} {K : Frag} {x C L f : Addr} {h₀ : Heap} {m : Str → Option Value} {ox : Obj} {od : Option Obj}
/-- what is to be known of the other operand's type -/
structure Side (K : Frag) (C : Addr) (nm : String) (tb : Value) (right py : Bool) : Prop where
  ne : (Value.ref C == tb) = false
  fills : ∀ (M : Model) (h : Heap), K.In h → Looks M h (fillsNumberSlot tb nm) right
  sub : subIn K tb (.ref C) = some false
  inPy : right = true → ∀ (M : Model) (h : Heap), K.In h → Looks M h (numberSlotInPython tb nm) py
  refl : right = true → py = false → ∃ ro, findIn K tb (dunderR nm) = some ro
theorem bin_other {op : Operator} {b tb : Value} {rc : Option Value} {right py : Bool} {Q : Value → Shared → Prop} (F : Fr h₀ L s.heap m) (X₀ : K.In h₀) (I : InstAt s.heap x ox C od) (hc : selfFirst K C = true)
    (hs : findIn K (.ref C) (PySem.dunder op.info.2) = some (some (.ref f))) (hf : isFn K (.ref f) = true) (hr : findIn K (.ref C) (dunderR op.info.2) = some rc) (hp : rc = none ∨ ∃ g : Addr, rc = some (.ref g))
    (Lb : Looks (model prog w) s.heap (typeOf b) tb) (S : Side K C op.info.2 tb right py)
    (h : wpAny (model prog w) A (call (.ref f) [.ref x, b]) (PySem.W.CmpBack Q) E s) : wpAny (model prog w) A (binaryOp op (.ref x) b) Q E s := by
  have X := X₀.keeps F.keep
  obtain ⟨cd, rest, hcd, hm⟩ := ksp_first hc
  rcases hi : op.info with ⟨sym, nm'⟩
  rw [hi] at hs hr S
  dsimp only at hs hr S
  have one := ksp_try X I hs hf h
  obtain ⟨hh, g, d, tt, os⟩ := s
  have L1 : Looks (model prog w) hh (typeOf (.ref x)) (.ref C) := I.type
  have L3 : Looks (model prog w) hh (fillsNumberSlot (.ref C) nm') true := fills_K X hcd hm hs
  have L4 := S.fills (model prog w) hh X
  have L5 : Looks (model prog w) hh (isSubtype tb (.ref C)) false := looks_subIn X S.sub
  have L6 : Looks (model prog w) hh (numberSlotInPython (.ref C) nm') true := ksp_inPy X hs hr hp
  have hne := S.ne
  simp only [binaryOp, hi]
  refine wpAny_holding (wpAny_bind ?_)
  unfold binaryOp1
  refine wpAny_bind (L1.at (wpAny_bind (Lb.at (wpAny_bind (L3.at ?_)))))
  simp only [hne, Bool.false_eq_true, if_false]
  cases right with
  | false =>
    ksp_lk
    refine wpAny_mono one (fun r s' hr' => ?_) fun _ _ e => e
    obtain ⟨v, rfl, hq⟩ := hr'
    ksp_lk
    exact hq
  | true =>
    have L7 := S.inPy rfl (model prog w) hh X
    cases py with
    | true =>
      ksp_lk
      refine wpAny_mono one (fun r s' hr' => ?_) fun _ _ e => e
      obtain ⟨v, rfl, hq⟩ := hr'
      ksp_lk
      exact hq
    | false =>
      obtain ⟨ro, hro⟩ := S.refl rfl rfl
      have L8 : Looks (model prog w) hh (typeLookup tb (dunderR nm')) ro := looks_findIn X hro
      ksp_lk
      refine wpAny_mono one (fun r s' hr' => ?_) fun _ _ e => e
      obtain ⟨v, rfl, hq⟩ := hr'
      ksp_lk
      exact hq
end

/-- what is known of a class C with a method of its own for op -/
structure OwnOp (K : PySem.W.Frag) (C : Addr) (nm : String) (f : Addr) : Prop where
  first : PySem.W.selfFirst K C = true
  find : PySem.W.findIn K (.ref C) (PySem.dunder nm) = some (some (.ref f))
  fn : PySem.W.isFn K (.ref f) = true
  refl : PySem.W.findIn K (.ref C) (dunderR nm) = some none
def RightOf (K : PySem.W.Frag) (C : Addr) (nm : String) (t : Value) : Prop := t = .ref C ∨ ∃ right py, Side K C nm t right py
def rBin (K : PySem.W.Frag) (C : Addr) (nm : String) (sp : Sp) (E : XK) : R2 := fun x y H Q => ∃ a dx fs t, x = .ref a ∧ H a = some (.ins C dx fs) ∧ TyX K H y t ∧ RightOf K C nm t ∧ sp [.ref a, y] H Q E
theorem cmpBack {X : Cx} {pins : List (Addr × Obj)} {σ : L2.St} {Q : VK} {v : Value} {s : Shared} (h : EP X pins σ Q v s) : PySem.W.CmpBack (EP X pins σ Q) v s := by
  cases v with
  | notImplemented =>
    obtain ⟨z, H, I, r, q⟩ := h
    cases z <;> first | (obtain ⟨_, e⟩ := r; cases e; done) | (cases r; done)
  | _ => exact h
theorem op_own {X : Cx} {CX : CXT} {k : Nat} {f C : Addr} {fd : FuncData} {ps : List Str} {sp : Sp} {E : XK} {op : Operator} (O : OwnOp X.K C op.info.2 f) (F : FnOk X.prog X.w X.K X.mg X.base CX k f fd ps sp) (hr : Room k X.A)
    (hb : L2.Binds X.K fd ps []) (hx : Passes CX X E) : OpR X (binaryOp op) (rBin X.K C op.info.2 sp E) := by
  intro pins s σ H x y v u Q I rx ry hq
  obtain ⟨a, dx, fs, t, rfl, ha, ty, rt, h⟩ := hq
  cases rx
  obtain ⟨mA, J, _⟩ := ins_get I.hok ha
  obtain ⟨od, J, _⟩ := J.look
  obtain ⟨m, hF⟩ := I.fr
  obtain ⟨P, Z, hP, _⟩ := kit_of I ry ty
  have Lb := Z.ty (model X.prog X.w) s.heap I.kIn hP
  have run : wpAny (model X.prog X.w) X.A (call (.ref f) [.ref a, u]) (PySem.W.CmpBack (EP X pins σ Q)) X.xe s :=
    wpAny_mono (run_fn (us := [.ref a, u]) (vs := [.ref a, y]) F hr hb .nil hx I (.cons rfl (.cons ry .nil)) h) (fun _ _ q => cmpBack q) fun _ _ e => e
  rcases rt with rfl | ⟨right, py, S⟩
  · exact PySem.W.binop_K hF I.ok.mod.kin J Lb O.first O.find O.fn run
  · exact bin_other hF I.ok.mod.kin J O.first O.find O.fn O.refl (.inl rfl) Lb S run

section
open PySem.W
variable {prog : Program} {w : World} {A : Around} {E : Value → Shared → Prop} {s : Shared} {K : Frag} {x C L f : Addr} {h₀ : Heap} {m : Str → Option Value} {ox : Obj} {od : Option Obj}
theorem slotNe : PySem.Slot "object" "__ne__" "object.__ne__" := PySem.F.slot_object_ne
theorem ifBound_ne {b : Value} {Q : Option Value → Shared → Prop} (X : K.In s.heap) (I : InstAt s.heap x ox C od) (hf : findIn K (.ref C) "__ne__" = some (some (.builtin "object.__ne__")))
    (h : wpAny (model prog w) A (call (.builtin "object.__ne__") [.ref x, b]) (fun v => Q (some v)) E s) : wpAny (model prog w) A (callSpecialIfBound? (.ref x) "__ne__" [b]) Q E s := by
  simp only [callSpecialIfBound?, bindSpecialIfBound?]
  refine wpAny_holding (wpAny_bind (wpAny_bind (wpAny_bind (I.type.here ((looks_findIn X hf).here ?_)))))
  refine wpAny_bind (wpAny_askSetting (wpAny_ite ?_))
  have fin : wpAny (model prog w) A (call (.builtin "object.__ne__") ([.ref x] ++ [b]) >>= fun v => pure (some v)) Q E s := wpAny_bind (wpAny_mono h (fun v s' h' => wpAny_pure h') fun _ _ h' => h')
  rw [slotNe.bind]
  split
  · exact wpAny_bind (wpAny_pure (wpAny_pure (by exact fin)))
  · exact wpAny_tryCatch (wpAny_bind (wpAny_pure (wpAny_pure (by exact fin))))
theorem ne_body {b : Value} {Q : Fin → Shared → Prop} (hu : A.units < cLine) (X : K.In s.heap) (I : InstAt s.heap x ox C od) (hs : findIn K (.ref C) "__eq__" = some (some (.ref f))) (hf : isFn K (.ref f) = true)
    (h : wpAny (model prog w) A (call (.ref f) [.ref x, b]) (fun v s' => ∃ r, v = .bool r ∧ Q (.done (.ret (.bool (!r)))) s') E s) : wpAny (model prog w) A (Builtin.«object.__ne__» ⟨[.ref x, b], []⟩) Q E s := by
  unfold Builtin.«object.__ne__»
  refine wpAny_bind (wpAny_pure ?_)
  refine wpAny_bind (wpAny_cRoomFor hu ?_)
  refine wpAny_bind (ifBound_K X I hs hf (wpAny_mono h (fun v s' hv => ?_) fun _ _ e => e))
  obtain ⟨r, rfl, q⟩ := hv
  exact wpAny_bind (wpAny_truthy_bool (wpAny_pure q))

theorem call_ne {b : Value} {Q : Value → Shared → Prop} (hu : A.in1.units < cLine) (X : K.In s.heap) (I : InstAt s.heap x ox C od) (ho : subIn K (.ref C) (.type "object") = some true) (hs : findIn K (.ref C) "__eq__" = some (some (.ref f))) (hf : isFn K (.ref f) = true)
    (h : wpAny (model prog w) A.in1 (call (.ref f) [.ref x, b]) (fun v s' => ∃ r, v = .bool r ∧ Q (.bool (!r)) s') E s) : wpAny (model prog w) A (call (.builtin "object.__ne__") [.ref x, b]) Q E s := by
  refine wpAny_call (codeAny_call_builtin slotNe.plain PySem.F.cmpEntry_ne ?_)
  refine PySem.W.check_slot PySem.F.cmpKind_ne PySem.F.cmpSplit_ne (I.type.andThen (looks_subIn X ho)) (PySem.F.cmpArgs_ne _ _) ?_
  refine ne_body hu X I hs hf (wpAny_mono h (fun v s' hv => ?_) fun _ _ e => e)
  obtain ⟨r, rfl, q⟩ := hv
  exact ⟨r, rfl, q⟩
theorem rc_ne {b tb : Value} {Q : Value → Shared → Prop} (hu : A.units + 1 < cLine) (F : Fr h₀ L s.heap m) (X₀ : K.In h₀) (I : InstAt s.heap x ox C od) (hb : Looks (model prog w) s.heap (typeOf b) tb) (hn : notFirst K C tb = true) (ho : subIn K (.ref C) (.type "object") = some true)
    (hne : findIn K (.ref C) "__ne__" = some (some (.builtin "object.__ne__"))) (hs : findIn K (.ref C) "__eq__" = some (some (.ref f))) (hf : isFn K (.ref f) = true)
    (h : wpAny (model prog w) A.in1 (call (.ref f) [.ref x, b]) (fun v s' => ∃ r, v = .bool r ∧ Q (.bool (!r)) s') E s) : wpAny (model prog w) A (richCompare .NotEq (.ref x) b) Q E s := by
  have X := X₀.keeps F.keep
  have one : wpAny (model prog w) A (tryCompare (.ref x) "__ne__" b) (fun r s' => ∃ v, r = some v ∧ Q v s') E s := by
    unfold tryCompare
    refine wpAny_bind (ifBound_ne X I hne (call_ne hu X I ho hs hf (wpAny_mono h (fun v s' hv => ?_) fun _ _ e => e)))
    obtain ⟨r, rfl, q⟩ := hv
    exact ⟨r, rfl, wpAny_pure ⟨_, rfl, q⟩⟩
  unfold richCompare
  simp only [oneThing_ref]
  refine wpAny_holding (wpAny_bind (wpAny_cRoomFor (Nat.lt_of_succ_lt hu) ?_))
  refine wpAny_bind (I.type.here (wpAny_bind (hb.here ?_)))
  split
  · rename_i q
    have e : subIn K tb (.ref C) = some false := by
      rcases Bool.or_eq_true_iff.mp hn with e | e
      · rw [beq_iff_eq.mp e] at q; simp at q
      · exact beq_iff_eq.mp e
    refine wpAny_bind ((looks_subIn X e).here ?_)
    simp only [Bool.false_eq_true, if_false]
    refine wpAny_bind (wpAny_mono one (fun r s' z => ?_) fun _ _ e => e)
    obtain ⟨v, rfl, hq⟩ := z
    exact wpAny_pure hq
  · refine wpAny_bind (wpAny_pure ?_)
    simp only [Bool.false_eq_true, if_false]
    refine wpAny_bind (wpAny_mono one (fun r s' z => ?_) fun _ _ e => e)
    obtain ⟨v, rfl, hq⟩ := z
    exact wpAny_pure hq
end
/-- a function's promise kept below the running body -/
theorem run_sub {X : Cx} {CX : CXT} {k : Nat} {f : Addr} {fd : FuncData} {ps : List Str} {sp : Sp} {E : XK} {A : Around} (F : FnOk X.prog X.w X.K X.mg X.base CX k f fd ps sp) (sb : Sub X k A) (hb : L2.Binds X.K fd ps []) (hx : Passes CX X E)
    {pins : List (Addr × Obj)} {σ : L2.St} {H : Hp} {s : Shared} {Q : VK} {us : List Value} {vs : List V} (I : L2.Inv X pins σ H s) (r : Vals vs us) (h : sp vs H Q E) : wpAny (model X.prog X.w) A (call (.ref f) us) (EP X pins σ Q) X.xe s := by
  have hl := F.len _ _ _ _ h
  have e0 : Env0 X.prog X.w X.K X.mg X.base A X.stack s H := by
    have e := I.env0
    exact ⟨by rw [sb.fr]; exact e.frames, e.mod, e.bs, e.bsz, e.funs, e.frf, e.hok, e.bare⟩
  have hl2 : us.length = ps.length := by rw [← r.length]; exact hl
  refine wpAny_call (codeAny_mono (F.run A X.stack s H ⟨us, []⟩ us vs Q E sb.room e0 (by
    have := hb s us I.kIn (by simpa using hl2)
    simpa using this) r h) fun r s' hq => ?_)
  cases r with
  | error e => exact hx pins σ H s e s' I hq
  | ok fl =>
    cases fl with
    | ret u => exact I.after hq
    | next => exact False.elim hq
    | brk => exact False.elim hq
    | cont => exact False.elim hq
/-- what is known of a class with an own == and no own != -/
structure OwnEq (K : PySem.W.Frag) (C f : Addr) : Prop where
  eq : PySem.W.findIn K (.ref C) "__eq__" = some (some (.ref f))
  fn : PySem.W.isFn K (.ref f) = true
  ne : PySem.W.findIn K (.ref C) "__ne__" = some (some (.builtin "object.__ne__"))
  obj : PySem.W.subIn K (.ref C) (.type "object") = some true
/-- x == y of an instance x of C and any y whose class doesn't descend from C -/
def rOwnEq (K : PySem.W.Frag) (C : Addr) (sp : Sp) (E : XK) : R2 := fun x y H Q => ∃ a dx fs t, x = .ref a ∧ H a = some (.ins C dx fs) ∧ TyX K H y t ∧ PySem.W.notFirst K C t = true ∧ sp [.ref a, y] H Q E
def rOwnNe (K : PySem.W.Frag) (C : Addr) (sp : Sp) (E : XK) : R2 := fun x y H Q => ∃ a dx fs t, x = .ref a ∧ H a = some (.ins C dx fs) ∧ TyX K H y t ∧ PySem.W.notFirst K C t = true ∧ sp [.ref a, y] H (fun v H' => ∃ b, v = .bl b ∧ Q (.bl (!b)) H') E
section
variable {X : Cx} {CX : CXT} {k : Nat} {f C : Addr} {fd : FuncData} {ps : List Str} {sp : Sp} {E : XK}
theorem op_ownEq (O : OwnEq X.K C f) (F : FnOk X.prog X.w X.K X.mg X.base CX k f fd ps sp) (hr : Room k X.A) (hb : L2.Binds X.K fd ps []) (hx : Passes CX X E) : OpR X (compareOp .Eq) (rOwnEq X.K C sp E) := by
  intro pins s σ H x y v u Q I rx ry hq
  obtain ⟨a, dx, fs, t, rfl, ha, ty, nf, h⟩ := hq
  cases rx
  obtain ⟨mA, J, _⟩ := ins_get I.hok ha
  obtain ⟨od, J, _⟩ := J.look
  obtain ⟨m, hF⟩ := I.fr
  obtain ⟨P, Z, hP, _⟩ := kit_of I ry ty
  have run : wpAny (model X.prog X.w) X.A (call (.ref f) [.ref a, u]) (PySem.W.CmpBack (EP X pins σ Q)) X.xe s :=
    wpAny_mono (run_fn (us := [.ref a, u]) (vs := [.ref a, y]) F hr hb .nil hx I (.cons rfl (.cons ry .nil)) h) (fun _ _ q => cmpBack q) fun _ _ e => e
  show wpAny (model X.prog X.w) X.A (richCompare .Eq (.ref a) u) (EP X pins σ Q) X.xe s
  exact PySem.W.cmp_K (op := .Eq) hr.units0 hF I.ok.mod.kin J (Z.ty _ s.heap I.kIn hP) nf O.eq O.fn run
theorem op_ownNe (O : OwnEq X.K C f) (F : FnOk X.prog X.w X.K X.mg X.base CX k f fd ps sp) (hr : Room (k + 1) X.A) (hb : L2.Binds X.K fd ps []) (hx : Passes CX X E) : OpR X (compareOp .NotEq) (rOwnNe X.K C sp E) := by
  intro pins s σ H x y v u Q I rx ry hq
  obtain ⟨a, dx, fs, t, rfl, ha, ty, nf, h⟩ := hq
  cases rx
  obtain ⟨mA, J, _⟩ := ins_get I.hok ha
  obtain ⟨od, J, _⟩ := J.look
  obtain ⟨m, hF⟩ := I.fr
  obtain ⟨P, Z, hP, _⟩ := kit_of I ry ty
  have sb : Sub X k X.A.in1 := ⟨hr.in1, rfl⟩
  have run : wpAny (model X.prog X.w) X.A.in1 (call (.ref f) [.ref a, u]) (fun v s' => ∃ r, v = .bool r ∧ EP X pins σ Q (.bool (!r)) s') X.xe s :=
    wpAny_mono (run_sub (us := [.ref a, u]) (vs := [.ref a, y]) F sb hb hx I (.cons rfl (.cons ry .nil)) h) (fun v s' q => by
      obtain ⟨z, H', I', r, b, rfl, q⟩ := q
      cases r
      exact ⟨b, rfl, .bl (!b), H', I', rfl, q⟩) fun _ _ e => e
  show wpAny (model X.prog X.w) X.A (richCompare .NotEq (.ref a) u) (EP X pins σ Q) X.xe s
  exact rc_ne hr.in1.units0 hF I.ok.mod.kin J (Z.ty _ s.heap I.kIn hP) nf O.obj O.ne O.eq O.fn run
end

theorem dunder_mul : PySem.dunder "mul" = ("__mul__" : Str) := by decide +kernel
/-- what a head says of an own class with *, == and no reflected *, no != -/
def opsB (K : PySem.W.Frag) (owns : List Addr) (C : Addr) : Bool :=
  PySem.W.selfFirst K C && (decide (PySem.W.findIn K (.ref C) (dunderR "mul") = some none) && (decide (PySem.W.findIn K (.ref C) "__ne__" = some (some (.builtin "object.__ne__"))) && (decide (PySem.W.subIn K (.ref C) (.type "object") = some true) &&
  ((["NoneType", "int", "bool", "str", "list", "tuple"].all fun b => decide (PySem.W.subIn K (.type b) (.ref C) = some false)) && (owns.all fun D => decide (PySem.W.subIn K (.ref D) (.ref C) = some (decide (D = C))))))))
structure Ops (K : PySem.W.Frag) (owns : List Addr) (C : Addr) : Prop where
  first : PySem.W.selfFirst K C = true
  rmul : PySem.W.findIn K (.ref C) (dunderR "mul") = some none
  ne : PySem.W.findIn K (.ref C) "__ne__" = some (some (.builtin "object.__ne__"))
  obj : PySem.W.subIn K (.ref C) (.type "object") = some true
  tys : ∀ b ∈ ["NoneType", "int", "bool", "str", "list", "tuple"], PySem.W.subIn K (.type b) (.ref C) = some false
  own : ∀ D ∈ owns, PySem.W.subIn K (.ref D) (.ref C) = some (decide (D = C))
theorem ops_ok {K : PySem.W.Frag} {owns : List Addr} {C : Addr} (h : opsB K owns C = true) : Ops K owns C := by
  unfold opsB at h
  simp only [Bool.and_eq_true, decide_eq_true_eq, List.all_eq_true] at h
  obtain ⟨a, b, c, d, e, f⟩ := h
  exact ⟨a, b, c, d, e, f⟩
section
variable {K : PySem.W.Frag} {owns : List Addr} {C D f g : Addr}
theorem Ops.mul (o : Ops K owns C) (m : Meth K C "__mul__" f) : OwnOp K C "mul" f := ⟨o.first, by rw [dunder_mul]; exact m.at_, m.fn, o.rmul⟩
theorem Ops.eq (o : Ops K owns C) (m : Meth K C "__eq__" f) : OwnEq K C f := ⟨m.at_, m.fn, o.ne, o.obj⟩
theorem right_same : RightOf K C "mul" (.ref C) := .inl rfl
theorem Ops.right (o : Ops K owns C) (o2 : Ops K owns D) (m2 : Meth K D "__mul__" g) (hD : D ∈ owns) (ne : D ≠ C) : RightOf K C "mul" (.ref D) :=
  .inr ⟨true, true, ⟨Bool.eq_false_iff.mpr fun q => ne (by have := beq_iff_eq.mp q; injection this with this; exact this.symm), fun M h X => by
    obtain ⟨cd, rest, hcd, hm⟩ := PySem.W.ksp_first o2.first
    exact PySem.W.fills_K X hcd hm (o2.mul m2).find, by rw [o.own D hD, decide_eq_false ne], fun _ M h X => PySem.W.ksp_inPy X (o2.mul m2).find o2.rmul (.inl rfl), fun _ z => nomatch z⟩⟩
theorem Ops.rightT (o : Ops K owns C) {T : String} {fo ro : Option Value} (hT : T ∈ ["NoneType", "int", "bool", "str", "list", "tuple"]) (h1 : fastLookup T (PySem.dunder "mul") = some fo) (h2 : fastLookup T (dunderR "mul") = some ro) : RightOf K C "mul" (.type T) :=
  .inr ⟨_, false, ⟨Bool.eq_false_iff.mpr fun q => (nomatch beq_iff_eq.mp q), fun M h X => PySem.W.ksp_fillsT X h1 h2, o.tys T hT, fun _ M h X => PySem.W.Looks.of_pure rfl, fun _ _ => ⟨ro, h2⟩⟩⟩
theorem Ops.right_int (o : Ops K owns C) : RightOf K C "mul" (.type "int") := o.rightT (fo := some (.builtin "int.__mul__")) (ro := some (.builtin "int.__rmul__")) (by decide) (by kernel_rfl) (by kernel_rfl)
theorem Ops.right_none (o : Ops K owns C) : RightOf K C "mul" (.type "NoneType") := o.rightT (fo := none) (ro := none) (by decide) (by kernel_rfl) (by kernel_rfl)
theorem Ops.right_tuple (o : Ops K owns C) : RightOf K C "mul" (.type "tuple") := o.rightT (fo := some (.builtin "tuple.__mul__")) (ro := some (.builtin "tuple.__rmul__")) (by decide) (by kernel_rfl) (by kernel_rfl)
theorem Ops.right_list (o : Ops K owns C) : RightOf K C "mul" (.type "list") := o.rightT (fo := some (.builtin "list.__mul__")) (ro := some (.builtin "list.__rmul__")) (by decide) (by kernel_rfl) (by kernel_rfl)
theorem Ops.right_str (o : Ops K owns C) : RightOf K C "mul" (.type "str") := o.rightT (fo := some (.builtin "str.__mul__")) (ro := some (.builtin "str.__rmul__")) (by decide) (by kernel_rfl) (by kernel_rfl)
theorem Ops.notFirst (o : Ops K owns C) (hD : D ∈ owns) : PySem.W.notFirst K C (.ref D) = true := by
  unfold PySem.W.notFirst
  by_cases e : D = C
  · subst e
    simp
  · rw [o.own D hD, decide_eq_false e]
    simp
theorem Ops.notFirstT (o : Ops K owns C) {T : String} (hT : T ∈ ["NoneType", "int", "bool", "str", "list", "tuple"]) : PySem.W.notFirst K C (.type T) = true := by
  unfold PySem.W.notFirst
  rw [o.tys T hT]
  simp
end
end Lf

set_option Elab.async false
set_option linter.all false
set_option maxRecDepth 100000
set_option maxHeartbeats 0
namespace K81
open PySem PySem.Spec PyProof.Rows L2
def top (i : Nat) : Stmt := PySem.Challenge.pw_letterfolds_k81_identities_that_are_read.main.body.getD i (.Pass ⟨0, 0, 0, 0⟩)
abbrev s_FoldError_told : Stmt := inClass (top 1) 0
def d_FoldError_told : He.DefD := ⟨("FoldError", some "told"), "told", "FoldError.told", defArgs s_FoldError_told, defBody s_FoldError_told, defScope s_FoldError_told, [], []⟩
abbrev s_NoTerm_init : Stmt := inClass (top 2) 0
def d_NoTerm_init : He.DefD := ⟨("NoTerm", some "__init__"), "__init__", "NoTerm.__init__", defArgs s_NoTerm_init, defBody s_NoTerm_init, defScope s_NoTerm_init, [], []⟩
abbrev s_NoTerm_told : Stmt := inClass (top 2) 1
def d_NoTerm_told : He.DefD := ⟨("NoTerm", some "told"), "told", "NoTerm.told", defArgs s_NoTerm_told, defBody s_NoTerm_told, defScope s_NoTerm_told, [], []⟩
abbrev s_read_identity : Stmt := top 10
def d_read_identity : He.DefD := ⟨("read_identity", none), "read_identity", "read_identity", defArgs s_read_identity, defBody s_read_identity, defScope s_read_identity, [], []⟩
abbrev s_L_source : Stmt := top 12
def d_L_source : He.DefD := ⟨("_law_source", none), "_law_source", "_law_source", defArgs s_L_source, defBody s_L_source, defScope s_L_source, [], []⟩
abbrev s_L_draw : Stmt := top 13
def d_L_draw : He.DefD := ⟨("_law_draw", none), "_law_draw", "_law_draw", defArgs s_L_draw, defBody s_L_draw, defScope s_L_draw, [], []⟩
abbrev s_L_pick : Stmt := top 14
def d_L_pick : He.DefD := ⟨("_law_pick", none), "_law_pick", "_law_pick", defArgs s_L_pick, defBody s_L_pick, defScope s_L_pick, [], []⟩
abbrev s_L_term : Stmt := top 15
def d_L_term : He.DefD := ⟨("_law_term", none), "_law_term", "_law_term", defArgs s_L_term, defBody s_L_term, defScope s_L_term, [], []⟩
abbrev s_L_is_open : Stmt := top 16
def d_L_is_open : He.DefD := ⟨("_law_is_open", none), "_law_is_open", "_law_is_open", defArgs s_L_is_open, defBody s_L_is_open, defScope s_L_is_open, [], []⟩
abbrev s_L_fault : Stmt := top 17
def d_L_fault : He.DefD := ⟨("_law_fault", none), "_law_fault", "_law_fault", defArgs s_L_fault, defBody s_L_fault, defScope s_L_fault, [], []⟩
abbrev s_L_said : Stmt := top 18
def d_L_said : He.DefD := ⟨("_law_said", none), "_law_said", "_law_said", defArgs s_L_said, defBody s_L_said, defScope s_L_said, [], []⟩
abbrev s_L_due : Stmt := top 19
def d_L_due : He.DefD := ⟨("_law_due", none), "_law_due", "_law_due", defArgs s_L_due, defBody s_L_due, defScope s_L_due, [], []⟩
abbrev s_L_right : Stmt := top 20
def d_L_right : He.DefD := ⟨("_law_right", none), "_law_right", "_law_right", defArgs s_L_right, defBody s_L_right, defScope s_L_right, [], []⟩
abbrev s_L_long_right : Stmt := top 21
def d_L_long_right : He.DefD := ⟨("_law_long_right", none), "_law_long_right", "_law_long_right", defArgs s_L_long_right, defBody s_L_long_right, defScope s_L_long_right, [], []⟩
abbrev s_law : Stmt := top 22
def d_law : He.DefD := ⟨("law", none), "law", "law", defArgs s_law, defBody s_law, defScope s_law, [], []⟩
def fn : List He.DefD := [d_FoldError_told, d_NoTerm_init, d_NoTerm_told, d_read_identity, d_L_source, d_L_draw, d_L_pick, d_L_term, d_L_is_open, d_L_fault, d_L_said, d_L_due, d_L_right, d_L_long_right, d_law]
def fa : List He.Fa := [.glo "FoldError", .glo "NoTerm", .glo "read_identity", .glo "_law_source", .glo "_law_draw", .glo "_law_pick", .glo "_law_term", .glo "_law_is_open", .glo "_law_fault", .glo "_law_said", .glo "_law_due", .glo "_law_right", .glo "_law_long_right", .glo "law", .int "MOST_SIGNS" 200, .int "NOTHING" 0, .int "ONE" 1, .int "FACTOR" 2, .str "VARIABLES" "wxyz", .free "ValueError", .free "abs", .free "enumerate", .free "int", .free "isinstance", .free "len", .free "range", .free "str", .free "tuple", .meth "NoTerm" "told", .exm "NoTerm" "FoldError" true, .exm "NoTerm" "NoTerm" true, .glo "ONWARD"]
def inis : List (Str × List Str) := [("NoTerm", ["place"])]
def bares : List Str := []
def owns : List Str := []
def opsl : List Str := []
def tups : List (Str × List He.Dv) := [("ONWARD", [.str "1(wxyz", .str "", .str "(wxyz^~"])]
def iniB (K : PySem.W.Frag) (p : Str × List Str) : Bool := Lf.errB K (He.ga K p.1) && (decide (PySem.W.findIn K (.ref (He.ga K p.1)) "__init__" = some (some (.ref (He.ma K (He.ga K p.1) "__init__")))) &&
  (decide (PySem.W.typeIn K (.ref (He.ma K (He.ga K p.1) "__init__")) = some (.type "function")) && (p.2.all fun f => decide (PySem.W.findIn K (.ref (He.ga K p.1)) f = some none))))
def isB (K : PySem.W.Frag) (x : Str) : Bool := decide (PySem.W.kitOne K (.ref (He.ga K x)) (.ref (He.ga K "FoldError")) = some true)
/-- an own class among all: what isinstance says of its instances, and of others -/
def ownB (K : PySem.W.Frag) (x : Str) : Bool := decide (PySem.W.findIn K (.ref (He.ga K x)) "__class__" = some (some (.builtin "object.__class__"))) && (decide (PySem.W.specialIn K (.builtin "object.__class__") "__get__" = some (some (.builtin "getset_descriptor.__get__"))) &&
  (decide (PySem.W.takesIn K (.builtin "object.__class__") = some true) && (decide (PySem.W.mroIn K (He.ga K x) (.type "object") = some true) &&
  ((["int", "bool", "str", "list", "tuple"].all fun b => decide (PySem.W.kitOne K (.ref (He.ga K x)) (.type b) = some false)) && ((["NoneType", "int", "bool", "str", "list", "tuple", "dict"].all fun b => decide (PySem.W.kitOne K (.type b) (.ref (He.ga K x)) = some false)) &&
  owns.all fun y => decide (PySem.W.kitOne K (.ref (He.ga K x)) (.ref (He.ga K y)) = some (decide (x = y))))))))
def ex (K : PySem.W.Frag) : Bool := (inis.all fun p => iniB K p && isB K p.1) && ((bares.all fun x => Lf.errB K (He.ga K x) && isB K x) && ((owns.all fun x => ownB K x) && ((opsl.all fun x => Lf.opsB K (owns.map fun y => He.ga K y) (He.ga K x)) && tups.all fun p => He.tupB K p.1 p.2)))
def loose : List Str := (["FoldError", "NoTerm", "read_identity", "_law_source", "_law_draw", "_law_pick", "_law_term", "_law_is_open", "_law_fault", "_law_said", "_law_due", "_law_right", "_law_long_right", "VARIABLES", "MOST_SIGNS", "NOTHING", "ONE", "FACTOR", "ONWARD"] : List Str)
def tf : List He.Defn := []
end K81

set_option Elab.async false
set_option linter.all false
set_option maxRecDepth 100000
set_option maxHeartbeats 8000000
namespace K81
open PySem PySem.Spec PyProof.Rows L2 Lf
/-- what the text's top left -/
structure Txt (P : Program) (w : World) (K : PySem.W.Frag) (mg : Str → Option Value) (base : Heap) : Prop where
  d : He.SaysD fa fn K
  m : ex K = true
  gl : ∀ (i : Nat) (x : Str), fa[i]? = some (.glo x) → mg x = some (.ref (He.ga K x))
  fr : ∀ (i : Nat) (x : Str), fa[i]? = some (.free x) → mg x = none
  it : ∀ (i : Nat) (x : Str) (v : Int), fa[i]? = some (.int x v) → ∃ t, mg x = some (.int v t)
  st : ∀ (i : Nat) (x v : Str), fa[i]? = some (.str x v) → ∃ t, mg x = some (.str v t)
theorem Txt.tup {P : Program} {w : World} {K : PySem.W.Frag} {mg : Str → Option Value} {base : Heap} (T : Txt P w K mg base) (i : Nat) {p : Str × List He.Dv} (h : tups[i]? = some p) (H : Hp) : SqT K H (He.ga K p.1) (p.2.map (He.Dv.v K)) := by
  have z := (He.ba (He.ba (He.ba (He.ba T.m).2).2).2).2
  exact He.tupB_ok (List.all_eq_true.mp z p (List.mem_of_getElem? h)) H
abbrev NRd : List Str := ["text", "ahead", "depth", "is_second", "place", "sign", "allowed"]
abbrev nv (i : Nat) : V := .int (i : Nat)
abbrev cv (c : Nat) : V := .str (tx [c])
/-- the place that is told, if it is none -/
def rd : Option Str → Option Int
  | none => some (-1)
  | some z => if 200 < z.length then some (-1) else (Idn.verdict z.cps.toList).map fun i => ((i : Nat) : Int)
def spRead (K : PySem.W.Frag) : Sp := fun vs H Q E => ∃ x o, vs = [x] ∧ TxtK K H x o ∧ (∀ z, o = some z → z.length ≤ 100000) ∧
  ((∃ cs : List Nat, o = some (tx cs) ∧ rd o = none ∧ ∀ t H', H t = none → Same H H' → H' t = some (.tup ((Idn.vars cs).map cv)) → Q (.ref t) H') ∨
   (∃ i, rd o = some i ∧ ∀ d H', H d = none → Same H H' → H' d = some (.xd [("place", .int i)]) → E (.ref (He.ga K "NoTerm")) (some d) H'))
def onw : List Str := [("1(wxyz" : Str), "", "(wxyz^~"]
theorem onw_1 : ("1(wxyz" : Str) = tx [49, 40, 119, 120, 121, 122] := by decide +kernel
theorem onw_2 : ("(wxyz^~" : Str) = tx [40, 119, 120, 121, 122, 94, 126] := by decide +kernel
/-- the signs by which the program goes on -/
def goes (st : Idn.S3) : List Nat := (match st.1 with | 0 => [49, 40, 119, 120, 121, 122] | 1 => [] | _ => [40, 119, 120, 121, 122, 94, 126]) ++ (if st.1 ≠ 0 ∧ 0 < st.2.1 then [41] else if st.1 ≠ 0 ∧ st.2.2 = false then [61] else [])
theorem rot5 : ∀ a b c d e r : Bool, (a || (b || (c || (d || (e || r))))) = (b || (c || (d || (e || (a || r))))) := by decide
theorem goes_ok {st : Idn.S3} (h : st.1 ≤ 2) (c : Nat) : decide (c ∈ goes st) = Idn.ok st c := by
  obtain ⟨m, d, s⟩ := st
  have h' : m ≤ 2 := h
  have hm : m = 0 ∨ m = 1 ∨ m = 2 := by omega
  unfold goes Idn.ok
  dsimp only
  rcases hm with rfl | rfl | rfl
  · simp
  · by_cases hd : 0 < d
    · by_cases h1 : c = 41
      · simp [h1, hd]
      · by_cases h2 : c = 61
        · have : ¬ d = 0 := by omega
          simp [h1, h2, hd, this]
        · simp [h1, h2, hd]
    · have d0 : d = 0 := by omega
      subst d0
      by_cases h1 : c = 41
      · cases s <;> simp [h1]
      · by_cases h2 : c = 61
        · cases s <;> simp [h1, h2]
        · cases s <;> simp [h1, h2]
  · by_cases hd : 0 < d
    · by_cases h1 : c = 41
      · simp [h1, hd]
      · by_cases h2 : c = 61
        · have : ¬ d = 0 := by omega
          simp [h1, h2, hd, this]
        · simp [h1, h2, hd]
          exact rot5 _ _ _ _ _ _
    · have d0 : d = 0 := by omega
      subst d0
      by_cases h1 : c = 41
      · cases s <;> simp [h1]
      · by_cases h2 : c = 61
        · cases s <;> simp [h1, h2]
        · cases s <;> simp [h1, h2] <;> exact rot5 _ _ _ _ _ _
theorem from_le {st s : Idn.S3} (h : st.1 ≤ 2) : ∀ {l : List Nat}, Idn.from_ st l = some s → s.1 ≤ 2 := by
  intro l
  induction l generalizing st with
  | nil => intro e; rw [← Option.some.inj e]; exact h
  | cons c r ih =>
    intro e
    have e' : r.foldl Idn.nx (if Idn.ok st c = true then some (Idn.step st c) else none) = some s := e
    by_cases o : Idn.ok st c = true
    · rw [if_pos o] at e'
      refine ih ?_ e'
      unfold Idn.step
      dsimp only
      split
      · decide
      · split <;> decide
    · rw [if_neg o, Idn.none_nx] at e'
      cases e'
end K81

set_option Elab.async false
set_option linter.all false
set_option maxRecDepth 100000
set_option maxHeartbeats 8000000
namespace K81
open PySem PySem.Spec PyProof.Rows L2 Lf
/-- a source of draws of which at most n were mixed -/
def Src (H : Hp) (l : Addr) (n : Nat) : Prop := ∃ a b c : Int, H l = some (.lst [.int a, .int b, .int c]) ∧ 0 ≤ a ∧ (0 ≤ b ∧ b < 2147483587) ∧ 0 ≤ c ∧ c ≤ n
theorem yesT {σ : L2.St} {H : Hp} {A B : Hp → Prop} (h : A H) : tYes σ H fun b H3 => if b = true then A H3 else B H3 := by
  show if true = true then A H else B H
  rw [if_pos rfl]
  exact h
theorem Src.up {H : Hp} {l : Addr} {n m : Nat} (h : Src H l n) (e : n ≤ m) : Src H l m := by
  obtain ⟨a, b, c, h1, h2, h3, h4, h5⟩ := h
  exact ⟨a, b, c, h1, h2, h3, h4, by omega⟩
theorem Src.same {H H' : Hp} {l : Addr} {n : Nat} (h : Src H l n) (e : Same H H') : Src H' l n := by
  obtain ⟨a, b, c, h1, h2⟩ := h
  exact ⟨a, b, c, e _ _ h1, h2⟩
def spSource : Sp := fun vs H Q _ => ∃ n : Int, vs = [.int n] ∧ ∀ l H', H l = none → Same H H' → Src H' l 0 → Q (.ref l) H'
def spDraw : Sp := fun vs H Q _ => ∃ (l : Addr) (n : Nat) (m : Int), vs = [.ref l, .int m] ∧ Src H l n ∧ n ≤ 1000000 ∧ 0 < m ∧ m ≤ 1000 ∧ ∀ (k : Int) H', 0 ≤ k → k < m → But l H H' → Src H' l (n + 1) → Q (.int k) H'
section
variable {P : Program} {w : World} {K : PySem.W.Frag} {mg : Str → Option Value} {base : Heap}
theorem scSource : FnScope ["_law_cell"] ["_law_cell"] (defScope s_L_source) := ⟨rfl, rfl, rfl, by decide +kernel, rfl, by decide +kernel, by decide +kernel⟩
theorem ok_source {f : Addr} {fd : FuncData} {q : Str} (F : FunD K "_law_source" q (defArgs s_L_source) (defBody s_L_source) (defScope s_L_source) [] [] f fd) (zA : mg "abs" = none) (zI : mg "int" = none) :
    FnOk P w K mg base CX0 1 f fd ["_law_cell"] spSource := by
  refine F.ok scSource (fun vs H Q E h => ?_) (fun cdv A outer s H vs Q E hr h => ?_)
  · obtain ⟨n, rfl, _⟩ := h
    rfl
  · obtain ⟨n, rfl, k⟩ := h
    refine ⟨_, PSs.nox (pss_cons (ps_set (i := 0) scSource.nd rfl (.inl rfl) (pe_callB call_abs rfl zA boot_abs (pa_cons (pv 0) pa_nil)))
      (pss_one (ps_ret (pe_lst (pa_cons (pe_op op_mul (pv 0) (pe_callTy call_int1 rfl zI boot_int (pa_cons (pe_cmpR op_ge (pv 0) (pe_op op_pow pe_int pe_int) (nomark _)) pa_nil)))
        (pa_cons (pe_op op_mod (pe_callTy call_int1 rfl zI boot_int (pa_cons (pv 0) pa_nil)) pe_int)
        (pa_cons pe_int pa_nil))))))), ?_⟩
    refine ⟨_, rfl, n, rfl, ?_⟩
    have nn : 0 ≤ (if n < 0 then -n else n) := by split <;> omega
    generalize (if n < 0 then -n else n) = a at nn ⊢
    refine ⟨_, rfl, _, rfl, 10, 18, rfl, rfl, ⟨by decide, by decide, by decide⟩, a, _, rfl, rfl, .inr ⟨_, rfl, a, _, rfl, rfl, .inr ?_, ?_⟩⟩
    · split <;> decide
    refine ⟨_, rfl, .inl ⟨a, rfl, a, 2147483587, rfl, rfl, (show (0 : Int) < 2147483587 by decide), ?_⟩⟩
    refine ⟨(by show 3 ≤ sizeLine; decide), fun l hl => k l _ hl (same_upd hl) ⟨_, _, _, upd_same, ?_, ?_, by decide, by decide⟩⟩
    · split
      · omega
      · simp
    · constructor <;> omega
theorem scDraw : FnScope ["_law_source_here", "_law_many", "_law_digit", "_law_mixed"] ["_law_source_here", "_law_many"] (defScope s_L_draw) := ⟨rfl, rfl, rfl, by decide +kernel, rfl, by decide +kernel, by decide +kernel⟩
theorem ok_draw {f : Addr} {fd : FuncData} {q : Str} (F : FunD K "_law_draw" q (defArgs s_L_draw) (defBody s_L_draw) (defScope s_L_draw) [] [] f fd) (zI : mg "int" = none) :
    FnOk P w K mg base CX0 1 f fd ["_law_source_here", "_law_many"] spDraw := by
  refine F.ok scDraw (fun vs H Q E h => ?_) (fun cdv A outer s H vs Q E hr h => ?_)
  · obtain ⟨l, n, m, rfl, _⟩ := h
    rfl
  · obtain ⟨l, n, m, rfl, ⟨a, b, c, hl, ha, ⟨hb1, hb2⟩, hc1, hc2⟩, n1, m0, m1, k⟩ := h
    have gI (i : Int) := i
    refine ⟨_, PSs.nox (pss_cons (ps_if (pt_cmpR op_gt (pe_ix ix_list (pv 0) pe_int (fun _ _ => rfl)) pe_int (nomark _))
        (pss_cons (ps_set (i := 2) scDraw.nd rfl (.inl rfl) (pe_op op_mod (pe_callTy call_int1 rfl zI boot_int (pa_cons (pe_ix ix_list (pv 0) pe_int (fun _ _ => rfl)) pa_nil)) (pv 1)))
        (pss_cons (ps_asg (pe_op op_fdiv (pe_ix ix_list (pv 0) pe_int (fun _ _ => rfl)) (pv 1)) (pg_sub (pv 0) pe_int set_list))
        (pss_one (ps_ret (pv 2))))) pss_nil)
      (pss_cons (ps_asg (pe_op op_add (pe_ix ix_list (pv 0) pe_int (fun _ _ => rfl)) pe_int) (pg_sub (pv 0) pe_int set_list))
      (pss_cons (ps_set (i := 3) scDraw.nd rfl (.inl rfl) (pe_op op_mod (pe_callTy call_int1 rfl zI boot_int (pa_cons (pe_op op_mul (pe_op op_add (pe_op op_add (pe_ix ix_list (pv 0) pe_int (fun _ _ => rfl)) (pe_op op_mul pe_int (pe_ix ix_list (pv 0) pe_int (fun _ _ => rfl)))) pe_int) pe_int) pa_nil)) pe_int))
      (pss_cons (ps_set (i := 3) scDraw.nd rfl (.inl rfl) (pe_op op_mod (pe_callTy call_int1 rfl zI boot_int (pa_cons (pe_op op_mul (pv 3) (pe_op op_add (pe_op op_fdiv (pv 3) pe_int) pe_int)) pa_nil)) pe_int))
      (pss_one (ps_ret (pe_op op_mod (pe_callTy call_int1 rfl zI boot_int (pa_cons (pe_op op_fdiv (pe_op op_mod (pe_callTy call_int1 rfl zI boot_int (pa_cons (pe_op op_mul (pv 3) (pe_op op_add (pe_op op_fdiv (pv 3) pe_int) pe_int)) pa_nil)) pe_int) pe_int) pa_nil)) (pv 1)))))))), ?_⟩
    have at0 : atI [V.int a, V.int b, V.int c] 0 = some (.int a) := rfl
    refine ⟨_, rfl, l, _, 0, _, rfl, rfl, SqL.of hl, at0, a, 0, rfl, rfl, _, rfl, ?_⟩
    refine ite2 (fun h0 => ?_) (fun h0 => ?_)
    · refine ⟨_, rfl, l, _, 0, _, rfl, rfl, SqL.of hl, at0, .inl ⟨a, rfl, _, rfl, a, m, rfl, rfl, m0, ?_⟩⟩
      refine ⟨_, rfl, l, _, 0, _, rfl, rfl, SqL.of hl, at0, _, rfl, a, m, rfl, rfl, ⟨m0, by omega⟩, ?_⟩
      refine ⟨_, rfl, l, _, 0, 0, rfl, rfl, hl, rfl, ?_⟩
      exact ⟨_, rfl, k _ _ (Int.emod_nonneg _ (by omega)) (Int.emod_lt_of_pos _ m0) But.upd ⟨_, b, c, upd_same, Int.ediv_nonneg ha (by omega), ⟨hb1, hb2⟩, hc1, by omega⟩⟩
    · have at2 : atI [V.int a, V.int b, V.int c] 2 = some (.int c) := rfl
      have at1' : atI [V.int a, V.int b, V.int (c + 1)] 1 = some (.int b) := rfl
      have at2' : atI [V.int a, V.int b, V.int (c + 1)] 2 = some (.int (c + 1)) := rfl
      refine ⟨_, rfl, l, _, 2, _, rfl, rfl, SqL.of hl, at2, c, 1, rfl, rfl, _, rfl, l, _, 2, 2, rfl, rfl, hl, rfl, ?_⟩
      have hl' : L2.upd H l (.lst [V.int a, V.int b, V.int (c + 1)]) l = some (.lst [V.int a, V.int b, V.int (c + 1)]) := upd_same
      have bt : But l H (L2.upd H l (.lst [V.int a, V.int b, V.int (c + 1)])) := But.upd
      refine ⟨_, rfl, l, _, 1, _, rfl, rfl, SqL.of hl', at1', _, rfl, l, _, 2, _, rfl, rfl, SqL.of hl', at2', 7919, (c + 1), rfl, rfl, .inl ⟨by omega, by omega⟩, b, _, rfl, rfl, _, 13, rfl, rfl, _, 48271, rfl, rfl, .inl ⟨by omega, by omega⟩, .inl ⟨_, rfl, _, 2147483629, rfl, rfl, (show (0 : Int) < 2147483629 by decide), ?_⟩⟩
      generalize hz : (b + 7919 * (c + 1) + 13) * 48271 = z
      have z1 : 0 ≤ z % 2147483629 := Int.emod_nonneg _ (by decide)
      have z2 : z % 2147483629 < 2147483629 := Int.emod_lt_of_pos _ (by decide)
      obtain ⟨u, hu⟩ : ∃ u, z % 2147483629 = u := ⟨_, rfl⟩
      rw [hu] at z1 z2
      refine ⟨_, rfl, _, rfl, u, 1019, congrArg V.int hu, rfl, ⟨by decide, by decide⟩, _, 69621, rfl, rfl, u, _, congrArg V.int hu, rfl, .inl ⟨by omega, by omega⟩, .inl ⟨_, rfl, _, 2147483579, rfl, rfl, (show (0 : Int) < 2147483579 by decide), ?_⟩⟩
      generalize hy : u * (u / 1019 + 69621) = y
      have y1 : 0 ≤ y % 2147483579 := Int.emod_nonneg _ (by decide)
      have y2 : y % 2147483579 < 2147483579 := Int.emod_lt_of_pos _ (by decide)
      obtain ⟨v, hv⟩ : ∃ v, y % 2147483579 = v := ⟨_, rfl⟩
      rw [hv] at y1 y2
      refine ⟨_, rfl, _, rfl, v, 2003, congrArg V.int hv, rfl, ⟨by decide, by decide⟩, _, 40692, rfl, rfl, v, _, congrArg V.int hv, rfl, .inl ⟨by omega, by omega⟩, .inl ⟨_, rfl, _, 2147483549, rfl, rfl, (show (0 : Int) < 2147483549 by decide), ?_⟩⟩
      refine ⟨_, 3, rfl, rfl, ⟨by decide, by decide⟩, .inl ⟨_, rfl, _, rfl, _, m, rfl, rfl, m0, ?_⟩⟩
      exact k _ _ (Int.emod_nonneg _ (by omega)) (Int.emod_lt_of_pos _ m0) But.upd ⟨a, b, c + 1, upd_same, ha, ⟨hb1, hb2⟩, by omega, by omega⟩
end
end K81

set_option Elab.async false
set_option linter.all false
set_option maxRecDepth 100000
set_option maxHeartbeats 0
namespace K81
open PySem PySem.Spec PyProof.Rows L2
section
variable {P : Program} {w : World} {K : PySem.W.Frag} {mg : Str → Option Value} {base : Heap}
theorem Txt.ini (T : Txt P w K mg base) (i : Nat) {p : Str × List Str} (h : inis[i]? = some p := by rfl) : iniB K p = true ∧ isB K p.1 = true := by
  have z := (He.ba T.m).1
  exact He.ba (List.all_eq_true.mp z p (List.mem_of_getElem? h))
structure IniK (K : PySem.W.Frag) (p : Str × List Str) : Prop where
  c : Lf.ErrC K (He.ga K p.1)
  i : PySem.W.findIn K (.ref (He.ga K p.1)) "__init__" = some (some (.ref (He.ma K (He.ga K p.1) "__init__")))
  t : PySem.W.typeIn K (.ref (He.ma K (He.ga K p.1) "__init__")) = some (.type "function")
  f : ∀ f ∈ p.2, PySem.W.findIn K (.ref (He.ga K p.1)) f = some none
theorem iniB_ok {p : Str × List Str} (h : iniB K p = true) : IniK K p := by
  obtain ⟨h1, h⟩ := He.ba h
  obtain ⟨h2, h⟩ := He.ba h
  obtain ⟨h3, h4⟩ := He.ba h
  exact ⟨Lf.errB_ok h1, of_decide_eq_true h2, of_decide_eq_true h3, fun f hf => of_decide_eq_true (List.all_eq_true.mp h4 f hf)⟩
theorem tl_NoTerm (T : Txt P w K mg base) : Lf.Tells P w K mg base (He.ga K "NoTerm") "refused noterm" := by
  obtain ⟨fd, F⟩ := T.d.def_ 2 (d := d_NoTerm_told) rfl
  have m : Meth K (He.ga K "NoTerm") "told" (He.ma K (He.ga K "NoTerm") "told") := He.meth_ok (T.d.fact 28 (f := .meth "NoTerm" "told") rfl)
  have sc : FnScope ["self"] ["self"] d_NoTerm_told.scope := ⟨rfl, rfl, rfl, by decide +kernel, rfl, by decide +kernel, by decide +kernel⟩
  have o : FnOk P w K mg base CX0 1 (He.fAd K d_NoTerm_told.at_) fd ["self"] (Lf.spTold "refused noterm") := Lf.told_ok F sc
  have b : L2.Binds K fd ["self"] [] := F.bindsN fun _ _ _ _ _ _ us hl => match us, hl with | [_], _ => rfl
  exact ⟨_, fd, m, o, b⟩
theorem er_NoTerm (T : Txt P w K mg base) : Lf.Err1 P w K mg base "NoTerm" "place" "refused noterm" := by
  have k : IniK K ("NoTerm", ["place"]) := iniB_ok (T.ini 0).1
  obtain ⟨fd, F⟩ := T.d.def_ 1 (d := d_NoTerm_init) rfl
  have sc : FnScope ["self", "place"] ["self", "place"] d_NoTerm_init.scope := ⟨rfl, rfl, rfl, by decide +kernel, rfl, by decide +kernel, by decide +kernel⟩
  have n0 : PySem.W.findIn K (.ref (He.ga K "NoTerm")) "place" = some none := k.f _ (by simp)
  have o : FnOk P w K mg base CX0 1 (He.fAd K d_NoTerm_init.at_) fd ["self", "place"] (Lf.spIni1 (He.ga K "NoTerm") "place") := Lf.ini1_ok k.c.o n0 F sc
  have b : L2.Binds K fd ["self", "place"] [] := F.bindsN fun _ _ _ _ _ _ us hl => match us, hl with | [_, _], _ => rfl
  have g : mg "NoTerm" = some (.ref (He.ga K "NoTerm")) := T.gl 1 "NoTerm" rfl
  exact ⟨g, k.c, n0, tl_NoTerm T, _, fd, k.i, k.t, o, b⟩
end
end K81

set_option Elab.async false
set_option linter.all false
set_option maxRecDepth 100000
set_option maxHeartbeats 8000000
namespace K81
open PySem PySem.Spec PyProof.Rows L2 Lf
abbrev ttV : TT := tTest (tOp (fun x y H Q => ∃ (c : Nat) (z : Str), x = .str ⟨#[c]⟩ ∧ y = .str z ∧ Q (.bl (decide (c ∈ z.cps.toList))) H) (tVar 5) (tVar 0))
abbrev rTup (K : PySem.W.Frag) : List V → Hp → VK → Prop := fun xs H Q => ∃ p ys, xs = [V.ref p] ∧ ((SqL K H p ys ∧ ∀ (l : Addr), H l = none → Q (V.ref l) (L2.upd H l (HO.tup ys))) ∨ SqT K H p ys ∧ Q (V.ref p) H)
theorem if_tC {c : Bool} {a b : V} {σ : L2.St} {H : Hp} {Q : VK} (h : Q (if c = true then a else b) H) : if c = true then tC a σ H Q else tC b σ H Q := by
  cases c <;> exact h
theorem if_te {c : Bool} {a b : V} {te : TE} {σ : L2.St} {H : Hp} {Q : VK} (ht : ∀ Q' : VK, Q' b H → te σ H Q') (h : Q (if c = true then a else b) H) : if c = true then tC a σ H Q else te σ H Q := by
  cases c
  · exact ht _ h
  · exact h
theorem or_te {c b : Bool} {te : TE} {σ : L2.St} {H : Hp} {Q : VK} (ht : ∀ Q' : VK, Q' (.bl b) H → te σ H Q') (h : Q (.bl (c || b)) H) : if c = true then Q (.bl true) H else te σ H Q := by
  cases c
  · exact ht _ h
  · exact h
/-- one sign -/
theorem sgn {c k : Nat} {z : Str} (e : z = tx [k]) : decide (V.str ⟨#[c]⟩ = V.str z) = decide (c = k) := by
  rw [e]
  apply decide_eq_decide.mpr
  constructor
  · intro h
    have := tx_inj (a := [c]) (b := [k]) (V.str.inj h)
    simpa using this
  · intro h
    rw [h]
    rfl
def on : Nat → List Nat
  | 0 => [49, 40, 119, 120, 121, 122]
  | 1 => []
  | _ => [40, 119, 120, 121, 122, 94, 126]
theorem on_at {m : Nat} (h : m ≤ 2) : ([V.str ("1(wxyz" : Str), .str ("" : Str), .str ("(wxyz^~" : Str)])[m]? = some (.str (tx (on m))) := by
  have : m = 0 ∨ m = 1 ∨ m = 2 := by omega
  rcases this with rfl | rfl | rfl
  · exact congrArg (fun z => some (V.str z)) onw_1
  · rfl
  · exact congrArg (fun z => some (V.str z)) onw_2
theorem goes_on (m d : Nat) (s : Bool) : goes (m, d, s) = on m ++ (if m ≠ 0 ∧ 0 < d then [41] else if m ≠ 0 ∧ s = false then [61] else []) := by
  unfold goes on
  rfl
theorem on_len : ∀ m, (on m).length ≤ 7
  | 0 => by decide
  | 1 => by decide
  | _ + 2 => by show 7 ≤ 7; decide
section
variable {P : Program} {w : World} {K : PySem.W.Frag} {mg : Str → Option Value} {base : Heap}
theorem scRead : FnScope NRd ["text"] (defScope s_read_identity) := ⟨rfl, rfl, rfl, by decide +kernel, rfl, by decide +kernel, by decide +kernel⟩
theorem ok_read {f : Addr} {fd : FuncData} {q : Str} (F : FunD K "read_identity" q (defArgs s_read_identity) (defBody s_read_identity) (defScope s_read_identity) [] [] f fd) (T : Txt P w K mg base) : FnOk P w K mg base (L2.CX P w) 3 f fd ["text"] (spRead K) := by
  have ET := er_NoTerm T
  obtain ⟨t1, g1⟩ := T.it 14 "MOST_SIGNS" 200 rfl
  obtain ⟨t2, g2⟩ := T.it 15 "NOTHING" 0 rfl
  obtain ⟨t3, g3⟩ := T.it 16 "ONE" 1 rfl
  obtain ⟨t4, g4⟩ := T.it 17 "FACTOR" 2 rfl
  obtain ⟨t5, g5⟩ := T.st 18 "VARIABLES" "wxyz" rfl
  have gO : mg "ONWARD" = some (.ref (He.ga K "ONWARD")) := T.gl 31 "ONWARD" rfl
  have zI : mg "isinstance" = none := T.fr 23 "isinstance" rfl
  have zs : mg "str" = none := T.fr 26 "str" rfl
  have zn : mg "len" = none := T.fr 24 "len" rfl
  have ze : mg "enumerate" = none := T.fr 21 "enumerate" rfl
  have zt : mg "tuple" = none := T.fr 27 "tuple" rfl
  refine F.ok scRead (fun vs H Q E h => ?_) (fun cdv A outer s H vs Q E hr h => ?_)
  · obtain ⟨x, o, rfl, _⟩ := h
    rfl
  · obtain ⟨x, o, rfl, tk, lz, h⟩ := h
    refine ⟨_, pss_cons (ps_if (PW.pt (pw_or (pt_not (pt_val (pe_callB call_isi rfl zI PyProof.Rows.boot_isinstance (pa_cons (pv 0) (pa_cons (pe_bltn (v := .ty "str") rfl zs PyProof.Rows.boot_str rfl) pa_nil))))) (pw_or1 (pt_cmpR op_gt (pe_callB call_len_str rfl zn boot_len (pa_cons (pv 0) pa_nil)) (pe_gint rfl g1) (nomark _))))) (pss_one (ps_raise rfl (takes_of rfl rfl rfl rfl) (pmk_err1 ET hr rfl (pe_un un_neg pe_int)))) pss_nil)
      (pss_cons (ps_set (i := 1) scRead.nd rfl (.inl rfl) (pe_gint rfl g2))
      (pss_cons (ps_set (i := 2) scRead.nd rfl (.inl rfl) pe_int)
      (pss_cons (ps_set (i := 3) scRead.nd rfl (.inl rfl) pe_bl)
      (pss_cons (ps_for (passes_of rfl) rfl (pi_enumS rfl ze (pv 0)) (pg_tup rfl (pgs_cons (pg_name (i := 4) scRead.nd rfl (.inl rfl)) (pgs_cons (pg_name (i := 5) scRead.nd rfl (.inl rfl)) pgs_nil)))
        (pss_cons (ps_set (i := 6) scRead.nd rfl (.inl rfl) (pe_ix ix_tup (pe_cl rfl gO) (pv 1) (fun _ _ => rfl)))
        (pss_cons (ps_if (PW.pt (pw_and (pt_cmpR op_ne (pv 1) (pe_gint rfl g2) (nomark _)) (pw_and1 (pt_cmpR op_gt (pv 2) pe_int (nomark _))))) (pss_one (ps_set (i := 6) scRead.nd rfl (.inl rfl) (pe_op op_add_str (pv 6) pe_str)))
          (pss_one (ps_if (PW.pt (pw_and (pt_cmpR op_ne (pv 1) (pe_gint rfl g2) (nomark _)) (pw_and1 (pt_not (pt_val (pv 3)))))) (pss_one (ps_set (i := 6) scRead.nd rfl (.inl rfl) (pe_op op_add_str (pv 6) pe_str))) pss_nil)))
        (pss_cons (ps_if (pt_cmpR op_notIn_sign (pv 5) (pv 6) (by rfl)) (pss_one (ps_raise rfl (takes_of rfl rfl rfl rfl) (pmk_err1 ET hr rfl (pv 4)))) pss_nil)
        (pss_cons (ps_aug (i := 2) scRead.nd rfl (.inl rfl) (pe_op op_sub (pe_ifExp (pt_cmpR op_eq (pv 5) pe_str (nomark _)) pe_int pe_int) (pe_ifExp (pt_cmpR op_eq (pv 5) pe_str (nomark _)) pe_int pe_int)) ip_add)
        (pss_cons (ps_set (i := 3) scRead.nd rfl (.inl rfl) (pe_or (pv 3) (pe_one (pe_cmpR op_eq (pv 5) pe_str (nomark _)))))
        (pss_one (ps_set (i := 1) scRead.nd rfl (.inl rfl) (pe_ifExp (pt_cmpR op_in_sign (pv 5) pe_str (by rfl)) (pe_gint rfl g2) (pe_ifExp (pt_cmpR op_eq (pv 5) pe_str (nomark _)) (pe_gint rfl g3) (pe_gint rfl g4)))))))))))
      (pss_cons (ps_if (PW.pt (pw_or (pt_cmpR op_eq (pv 1) (pe_gint rfl g2) (nomark _)) (pw_or (pt_cmpR op_gt (pv 2) pe_int (nomark _)) (pw_or1 (pt_not (pt_val (pv 3))))))) (pss_one (ps_raise rfl (takes_of rfl rfl rfl rfl) (pmk_err1 ET hr rfl (pe_callB call_len_str rfl zn boot_len (pa_cons (pv 0) pa_nil))))) pss_nil)
      (PSs.nox (pss_one (ps_ret (pe_callTy call_tuple_of rfl zt PyProof.Rows.boot_tuple (pa_cons (pe_lc (own := [("sign", 5)]) (g := gName 5) (tt := ttV) (te := tVar 5) (by rfl) scRead.nd (pi_str (pe_gstr rfl g5)) (blkOk_by (own := [("sign", 5)]) (N := NRd) (sc := defScope s_read_identity) (by decide +kernel)) (fun _ _ _ _ _ => pg_name (i := 5) scRead.nd rfl (Or.inl rfl)) (fun _ _ _ _ _ => by exact pts_one (pt_cmpR op_in_sign (pv 5) (pv 0) (by rfl))) (fun _ _ _ _ _ => pv 5)) pa_nil)))))))))), ?_⟩
    obtain ⟨n, ty, kt⟩ := tk.ty
    refine ⟨_, rfl, x, .ty "str", _, _, _, rfl, .ty _, ty, kt, _, rfl, ?_⟩
    cases tk with
    | oth _ _ =>
      rcases h with ⟨cs, e, _⟩ | ⟨i, e, fin⟩
      · cases e
      · cases e
        exact ifT rfl ⟨1, rfl, fun d H' nd sd hd => fin d H' nd sd hd⟩
    | str z =>
      obtain ⟨cs, rfl⟩ : ∃ cs, z = tx cs := ⟨_, tx_of z⟩
      have l2 := lz _ rfl
      rw [tx_len] at l2
      refine ifF rfl ⟨_, rfl, tx cs, rfl, by rw [tx_len]; show cs.length ≤ 16777216; omega, _, _, rfl, rfl, _, rfl, ?_⟩
      rw [tx_len]
      by_cases h2 : 200 < cs.length
      · have er : rd (some (tx cs)) = some (-1) := by
          unfold rd
          dsimp only
          rw [tx_len, if_pos h2]
        rw [decide_eq_true (show (200 : Int) < ((cs.length : Nat) : Int) by omega)]
        rcases h with ⟨cs', e, e2, _⟩ | ⟨i, e, fin⟩
        · rw [er] at e2
          cases e2
        · rw [er] at e
          cases e
          exact ifT rfl ⟨1, rfl, fun d H' nd sd hd => fin d H' nd sd hd⟩
      have er : rd (some (tx cs)) = (Idn.verdict cs).map fun i => ((i : Nat) : Int) := by
        unfold rd
        dsimp only
        rw [tx_len, if_neg h2]
        rfl
      rw [er] at h
      rw [decide_eq_false (show ¬ (200 : Int) < ((cs.length : Nat) : Int) by omega)]
      refine ifF rfl ?_
      refine ⟨_, rfl, tx cs, rfl, ?_⟩
      refine for_it (walk_enumS (x := tx cs)) (fun i σ Hi => ∃ (m d : Nat) (s : Bool) (v4 v5 v6 : Option V), σ = [some (.str (tx cs)), some (.int (m : Nat)), some (.int (d : Nat)), some (.bl s), v4, v5, v6] ∧ Same H Hi ∧ Idn.from_ Idn.ini (cs.take i) = some (m, d, s))
        ⟨0, 0, false, none, none, none, rfl, L2.Same.refl _, rfl⟩ (fun _ _ _ _ _ => True.intro) ?_ ?_
      · rintro i y σ Hi H' hi ⟨m, d, s, v4, v5, v6, rfl, si, fr⟩ ⟨tt, c, rfl, ntt, rfl, hc⟩
        have hc' : cs[i]? = some c := by
          unfold tx at hc
          rwa [List.getElem?_toArray] at hc
        have m2 : m ≤ 2 := from_le (st := Idn.ini) (s := (m, d, s)) (Nat.zero_le _) fr
        have s2 := si.trans (same_upd (o := .tup [.int (i : Nat), .str ⟨#[c]⟩]) ntt)
        refine ⟨tt, _, rfl, SqT.of upd_same, rfl, _, _, rfl, _, _, rfl, rfl, ?_⟩
        generalize L2.upd Hi tt (.tup [.int (i : Nat), .str ⟨#[c]⟩]) = H2 at s2 ⊢
        refine ⟨_, rfl, _, _, _, _, rfl, rfl, T.tup 0 rfl H2, atI_nat (on_at m2), ?_⟩
        have zn0 : decide (V.int (m : Nat) = V.int 0) = decide (m = 0) := by
          apply decide_eq_decide.mpr
          constructor
          · intro h
            have := V.int.inj h
            omega
          · intro h
            rw [h]
            rfl
        refine ⟨_, rfl, rfl, _, rfl, ?_⟩
        rw [zn0]
        have on7 := on_len m
        have fitO : ∀ z : Str, z.length ≤ 1 → (tx (on m)).length + z.length ≤ sizeLine := fun z hz => by rw [tx_len]; show _ ≤ 16777216; omega
        -- what stands behind the look at the sign
        have rest : ∀ {v6 : Option V} {N : L2.St → Hp → Prop}, (∀ m' d' s', Idn.from_ Idn.ini (cs.take (i + 1)) = some (m', d', s') → N [some (.str (tx cs)), some (.int (m' : Nat)), some (.int (d' : Nat)), some (.bl s'), some (.int (i : Nat)), some (.str ⟨#[c]⟩), v6] H2) → Idn.ok (m, d, s) c = true →
            N [some (.str (tx cs)), some (if decide (c ∈ (("(=" : Str)).cps.toList) = true then V.int 0 else if decide (V.str ⟨#[c]⟩ = V.str ("1" : Str)) = true then V.int 1 else V.int 2), some (.int ((d : Nat) + ((if c = 40 then 1 else 0) - (if c = 41 then 1 else 0)))), some (.bl (s || decide (V.str ⟨#[c]⟩ = V.str ("=" : Str)))), some (.int (i : Nat)), some (.str ⟨#[c]⟩), v6] H2 := by
          intro v6 N k o
          have fr' : Idn.from_ Idn.ini (cs.take (i + 1)) = some (Idn.step (m, d, s) c) := by
            rw [take_snoc hc']
            exact Idn.from_snoc fr o
          have k2 := k _ _ _ fr'
          rw [sgn (k := 49) (show ("1" : Str) = tx [49] by decide +kernel), sgn (k := 61) (show ("=" : Str) = tx [61] by decide +kernel), show (("(=" : Str)).cps.toList = [40, 61] by decide +kernel]
          have e1 : (if decide (c ∈ [40, 61]) = true then V.int 0 else if decide (c = 49) = true then V.int 1 else V.int 2) = .int ((if c = 40 ∨ c = 61 then 0 else if c = 49 then 1 else 2 : Nat) : Int) := by
            by_cases h1 : c = 40 ∨ c = 61
            · rw [if_pos h1, if_pos (decide_eq_true (by simpa using h1))]
              rfl
            · rw [if_neg h1, if_neg (by rw [decide_eq_true_eq]; simpa using h1)]
              by_cases h2 : c = 49
              · rw [if_pos h2, if_pos (decide_eq_true h2)]
                rfl
              · rw [if_neg h2, if_neg (by rw [decide_eq_true_eq]; exact h2)]
                rfl
          have e2 : ((d : Nat) : Int) + ((if c = 40 then 1 else 0) - (if c = 41 then 1 else 0)) = ((if c = 40 then d + 1 else if c = 41 then d - 1 else d : Nat) : Int) := by
            by_cases h1 : c = 40
            · rw [if_pos h1, if_pos h1, if_neg (by omega)]
              omega
            · rw [if_neg h1, if_neg h1]
              by_cases h2 : c = 41
              · have dp : 0 < d := by
                  unfold Idn.ok at o
                  dsimp only at o
                  by_cases hm : m = 0
                  · rw [if_pos hm, h2] at o
                    exact absurd o (by decide)
                  · rw [if_neg hm, if_pos h2] at o
                    exact of_decide_eq_true o
                rw [if_pos h2, if_pos h2]
                omega
              · rw [if_neg h2, if_neg h2]
                omega
          rw [e1, e2]
          exact k2
        have b40 : (if decide (V.str ⟨#[c]⟩ = V.str ("(" : Str)) = true then V.int 1 else V.int 0) = V.int (if c = 40 then 1 else 0) := by
          rw [sgn (k := 40) (show ("(" : Str) = tx [40] by decide +kernel)]
          by_cases h1 : c = 40
          · rw [if_pos h1, if_pos (decide_eq_true h1)]
          · rw [if_neg h1, if_neg (by rw [decide_eq_true_eq]; exact h1)]
        have b41 : (if decide (V.str ⟨#[c]⟩ = V.str (")" : Str)) = true then V.int 1 else V.int 0) = V.int (if c = 41 then 1 else 0) := by
          rw [sgn (k := 41) (show (")" : Str) = tx [41] by decide +kernel)]
          by_cases h1 : c = 41
          · rw [if_pos h1, if_pos (decide_eq_true h1)]
          · rw [if_neg h1, if_neg (by rw [decide_eq_true_eq]; exact h1)]
        have split : (m = 0 ∨ (m ≠ 0 ∧ 0 < d)) ∨ ((m ≠ 0 ∧ ¬ 0 < d ∧ s = false) ∨ (m ≠ 0 ∧ ¬ 0 < d ∧ s = true)) := by
          by_cases h0 : m = 0
          · exact .inl (.inl h0)
          · by_cases hd : 0 < d
            · exact .inl (.inr ⟨h0, hd⟩)
            · cases s
              · exact .inr (.inl ⟨h0, hd, rfl⟩)
              · exact .inr (.inr ⟨h0, hd, rfl⟩)
        rcases split with (h0 | ⟨h0, hd⟩) | (⟨h0, hd, hs⟩ | ⟨h0, hd, hs⟩)
        · rw [show (!decide (m = 0)) = false by rw [decide_eq_true h0]; rfl]
          refine ifF rfl (ifF rfl ⟨_, rfl, rfl, _, rfl, ?_⟩)
          rw [zn0, show (!decide (m = 0)) = false by rw [decide_eq_true h0]; rfl]
          refine ifF rfl (ifF rfl ?_)
          have al : tx (on m) = tx (goes (m, d, s)) := by rw [goes_on, if_neg (fun z => z.1 h0), if_neg (fun z => z.1 h0), List.append_nil]
          rw [al]
          refine ⟨_, rfl, _, rfl, c, tx (goes (m, d, s)), rfl, rfl, _, rfl, ?_⟩
          rw [show (tx (goes (m, d, s))).cps.toList = goes (m, d, s) from rfl, goes_ok m2 c]
          cases o : Idn.ok (m, d, s) c with
          | false =>
            refine ifT rfl ⟨_, rfl, fun dd H' nd sd hd' => ?_⟩
            rcases h with ⟨_, _, e, _⟩ | ⟨iv, e, fin⟩
            · rw [Idn.verdict_bad fr hc' o] at e
              cases e
            · rw [Idn.verdict_bad fr hc' o] at e
              cases e
              exact fin dd H' (nil_of s2 nd) (s2.trans sd) hd'
          | true =>
            refine ifF rfl ⟨_, rfl, _, rfl, rfl, _, rfl, if_tC ⟨_, rfl, rfl, _, rfl, if_tC ⟨(if c = 40 then 1 else 0), (if c = 41 then 1 else 0), b40, b41, _, _, rfl, rfl, ?_⟩⟩⟩
            refine ⟨_, rfl, _, rfl, or_te (b := decide (V.str ⟨#[c]⟩ = V.str ("=" : Str))) (fun Q' hq => ⟨_, rfl, rfl, hq⟩) ?_⟩
            refine ⟨_, rfl, c, _, rfl, rfl, _, rfl, if_te (fun Q' hq => ⟨_, rfl, rfl, _, rfl, if_tC hq⟩) ?_⟩
            exact rest (N := fun σ Hn => ∃ (m d : Nat) (s : Bool) (v4 v5 v6 : Option V), σ = [some (.str (tx cs)), some (.int (m : Nat)), some (.int (d : Nat)), some (.bl s), v4, v5, v6] ∧ Same H Hn ∧ Idn.from_ Idn.ini (cs.take (i + 1)) = some (m, d, s)) (fun m' d' s' fr' => ⟨m', d', s', _, _, _, rfl, s2, fr'⟩) o
        · rw [show (!decide (m = 0)) = true by rw [decide_eq_false h0]; rfl]
          refine ifT rfl ⟨_, rfl, _, 0, rfl, rfl, _, rfl, ?_⟩
          rw [decide_eq_true (show (0 : Int) < ((d : Nat) : Int) by omega)]
          refine ifT rfl ⟨_, rfl, tx (on m), tx [41], rfl, congrArg V.str (show (")" : Str) = tx [41] by decide +kernel), fitO _ (by decide), ?_⟩
          have al : tx (on m) ++ tx [41] = tx (goes (m, d, s)) := by rw [tx_app, goes_on, if_pos ⟨h0, hd⟩]
          rw [al]
          refine ⟨_, rfl, _, rfl, c, tx (goes (m, d, s)), rfl, rfl, _, rfl, ?_⟩
          rw [show (tx (goes (m, d, s))).cps.toList = goes (m, d, s) from rfl, goes_ok m2 c]
          cases o : Idn.ok (m, d, s) c with
          | false =>
            refine ifT rfl ⟨_, rfl, fun dd H' nd sd hd' => ?_⟩
            rcases h with ⟨_, _, e, _⟩ | ⟨iv, e, fin⟩
            · rw [Idn.verdict_bad fr hc' o] at e
              cases e
            · rw [Idn.verdict_bad fr hc' o] at e
              cases e
              exact fin dd H' (nil_of s2 nd) (s2.trans sd) hd'
          | true =>
            refine ifF rfl ⟨_, rfl, _, rfl, rfl, _, rfl, if_tC ⟨_, rfl, rfl, _, rfl, if_tC ⟨(if c = 40 then 1 else 0), (if c = 41 then 1 else 0), b40, b41, _, _, rfl, rfl, ?_⟩⟩⟩
            refine ⟨_, rfl, _, rfl, or_te (b := decide (V.str ⟨#[c]⟩ = V.str ("=" : Str))) (fun Q' hq => ⟨_, rfl, rfl, hq⟩) ?_⟩
            refine ⟨_, rfl, c, _, rfl, rfl, _, rfl, if_te (fun Q' hq => ⟨_, rfl, rfl, _, rfl, if_tC hq⟩) ?_⟩
            exact rest (N := fun σ Hn => ∃ (m d : Nat) (s : Bool) (v4 v5 v6 : Option V), σ = [some (.str (tx cs)), some (.int (m : Nat)), some (.int (d : Nat)), some (.bl s), v4, v5, v6] ∧ Same H Hn ∧ Idn.from_ Idn.ini (cs.take (i + 1)) = some (m, d, s)) (fun m' d' s' fr' => ⟨m', d', s', _, _, _, rfl, s2, fr'⟩) o
        · rw [show (!decide (m = 0)) = true by rw [decide_eq_false h0]; rfl]
          refine ifT rfl ⟨_, rfl, _, 0, rfl, rfl, _, rfl, ?_⟩
          rw [decide_eq_false (show ¬ (0 : Int) < ((d : Nat) : Int) by omega)]
          refine ifF rfl ⟨_, rfl, rfl, _, rfl, ?_⟩
          rw [zn0, show (!decide (m = 0)) = true by rw [decide_eq_false h0]; rfl]
          refine ifT rfl ⟨_, rfl, _, rfl, ifT (by rw [hs]; rfl) ⟨_, rfl, tx (on m), tx [61], rfl, congrArg V.str (show ("=" : Str) = tx [61] by decide +kernel), fitO _ (by decide), ?_⟩⟩
          have al : tx (on m) ++ tx [61] = tx (goes (m, d, s)) := by rw [tx_app, goes_on, if_neg (fun z => hd z.2), if_pos ⟨h0, hs⟩]
          rw [al]
          refine ⟨_, rfl, _, rfl, c, tx (goes (m, d, s)), rfl, rfl, _, rfl, ?_⟩
          rw [show (tx (goes (m, d, s))).cps.toList = goes (m, d, s) from rfl, goes_ok m2 c]
          cases o : Idn.ok (m, d, s) c with
          | false =>
            refine ifT rfl ⟨_, rfl, fun dd H' nd sd hd' => ?_⟩
            rcases h with ⟨_, _, e, _⟩ | ⟨iv, e, fin⟩
            · rw [Idn.verdict_bad fr hc' o] at e
              cases e
            · rw [Idn.verdict_bad fr hc' o] at e
              cases e
              exact fin dd H' (nil_of s2 nd) (s2.trans sd) hd'
          | true =>
            refine ifF rfl ⟨_, rfl, _, rfl, rfl, _, rfl, if_tC ⟨_, rfl, rfl, _, rfl, if_tC ⟨(if c = 40 then 1 else 0), (if c = 41 then 1 else 0), b40, b41, _, _, rfl, rfl, ?_⟩⟩⟩
            refine ⟨_, rfl, _, rfl, or_te (b := decide (V.str ⟨#[c]⟩ = V.str ("=" : Str))) (fun Q' hq => ⟨_, rfl, rfl, hq⟩) ?_⟩
            refine ⟨_, rfl, c, _, rfl, rfl, _, rfl, if_te (fun Q' hq => ⟨_, rfl, rfl, _, rfl, if_tC hq⟩) ?_⟩
            exact rest (N := fun σ Hn => ∃ (m d : Nat) (s : Bool) (v4 v5 v6 : Option V), σ = [some (.str (tx cs)), some (.int (m : Nat)), some (.int (d : Nat)), some (.bl s), v4, v5, v6] ∧ Same H Hn ∧ Idn.from_ Idn.ini (cs.take (i + 1)) = some (m, d, s)) (fun m' d' s' fr' => ⟨m', d', s', _, _, _, rfl, s2, fr'⟩) o
        · rw [show (!decide (m = 0)) = true by rw [decide_eq_false h0]; rfl]
          refine ifT rfl ⟨_, rfl, _, 0, rfl, rfl, _, rfl, ?_⟩
          rw [decide_eq_false (show ¬ (0 : Int) < ((d : Nat) : Int) by omega)]
          refine ifF rfl ⟨_, rfl, rfl, _, rfl, ?_⟩
          rw [zn0, show (!decide (m = 0)) = true by rw [decide_eq_false h0]; rfl]
          refine ifT rfl ⟨_, rfl, _, rfl, ifF (by rw [hs]; rfl) ?_⟩
          have al : tx (on m) = tx (goes (m, d, s)) := by rw [goes_on, if_neg (fun z => hd z.2), if_neg (fun z => by rw [hs] at z; exact absurd z.2 (by decide)), List.append_nil]
          rw [al]
          refine ⟨_, rfl, _, rfl, c, tx (goes (m, d, s)), rfl, rfl, _, rfl, ?_⟩
          rw [show (tx (goes (m, d, s))).cps.toList = goes (m, d, s) from rfl, goes_ok m2 c]
          cases o : Idn.ok (m, d, s) c with
          | false =>
            refine ifT rfl ⟨_, rfl, fun dd H' nd sd hd' => ?_⟩
            rcases h with ⟨_, _, e, _⟩ | ⟨iv, e, fin⟩
            · rw [Idn.verdict_bad fr hc' o] at e
              cases e
            · rw [Idn.verdict_bad fr hc' o] at e
              cases e
              exact fin dd H' (nil_of s2 nd) (s2.trans sd) hd'
          | true =>
            refine ifF rfl ⟨_, rfl, _, rfl, rfl, _, rfl, if_tC ⟨_, rfl, rfl, _, rfl, if_tC ⟨(if c = 40 then 1 else 0), (if c = 41 then 1 else 0), b40, b41, _, _, rfl, rfl, ?_⟩⟩⟩
            refine ⟨_, rfl, _, rfl, or_te (b := decide (V.str ⟨#[c]⟩ = V.str ("=" : Str))) (fun Q' hq => ⟨_, rfl, rfl, hq⟩) ?_⟩
            refine ⟨_, rfl, c, _, rfl, rfl, _, rfl, if_te (fun Q' hq => ⟨_, rfl, rfl, _, rfl, if_tC hq⟩) ?_⟩
            exact rest (N := fun σ Hn => ∃ (m d : Nat) (s : Bool) (v4 v5 v6 : Option V), σ = [some (.str (tx cs)), some (.int (m : Nat)), some (.int (d : Nat)), some (.bl s), v4, v5, v6] ∧ Same H Hn ∧ Idn.from_ Idn.ini (cs.take (i + 1)) = some (m, d, s)) (fun m' d' s' fr' => ⟨m', d', s', _, _, _, rfl, s2, fr'⟩) o
      · rintro σ Hi ⟨m, d, s, v4, v5, v6, rfl, si, fr⟩
        have sz : (tx cs).cps.size = cs.length := by simp [tx]
        rw [sz, List.take_length] at fr
        have ve := Idn.verdict_end fr
        have bad : Idn.good (m, d, s) = false → ∀ dd H', Hi dd = none → Same Hi H' → H' dd = some (.xd [("place", .int ((tx cs).length : Nat))]) → E (.ref (He.ga K "NoTerm")) (some dd) H' := by
          intro g dd H' nd sd hd
          rw [g, if_neg (by decide)] at ve
          rcases h with ⟨_, _, e, _⟩ | ⟨iv, e, fin⟩
          · rw [ve] at e
            cases e
          · rw [ve] at e
            cases e
            rw [tx_len] at hd
            exact fin dd H' (nil_of si nd) (si.trans sd) hd
        have fitT : (tx cs).length ≤ sizeLine := by rw [tx_len]; show cs.length ≤ 16777216; omega
        have zn0 : decide (V.int (m : Nat) = V.int 0) = decide (m = 0) := by
          apply decide_eq_decide.mpr
          constructor
          · intro h
            have := V.int.inj h
            omega
          · intro h
            rw [h]
            rfl
        refine ⟨_, rfl, rfl, _, rfl, ?_⟩
        rw [zn0]
        by_cases h0 : m = 0
        · rw [decide_eq_true h0]
          exact ifT rfl (ifT rfl ⟨_, rfl, tx cs, rfl, fitT, fun dd H' nd sd hd => bad (by rw [h0]; rfl) dd H' nd sd hd⟩)
        rw [decide_eq_false h0]
        refine ifF rfl ⟨_, rfl, _, 0, rfl, rfl, _, rfl, ?_⟩
        by_cases hd : 0 < d
        · rw [decide_eq_true (show (0 : Int) < ((d : Nat) : Int) by omega)]
          exact ifT rfl (ifT rfl ⟨_, rfl, tx cs, rfl, fitT, fun dd H' nd sd hd' => bad (by unfold Idn.good; dsimp only; rw [decide_eq_false (show ¬ d = 0 by omega)]; cases (decide (m ≠ 0)) <;> rfl) dd H' nd sd hd'⟩)
        rw [decide_eq_false (show ¬ (0 : Int) < ((d : Nat) : Int) by omega)]
        refine ifF rfl ⟨_, rfl, _, rfl, ?_⟩
        cases hs : s with
        | false =>
          exact ifT rfl ⟨_, rfl, tx cs, rfl, fitT, fun dd H' nd sd hd' => bad (by rw [hs]; unfold Idn.good; dsimp only; cases (decide (m ≠ 0)) <;> cases (decide (d = 0)) <;> rfl) dd H' nd sd hd'⟩
        | true =>
          have gd : Idn.good (m, d, s) = true := by
            unfold Idn.good
            dsimp only
            rw [hs, decide_eq_true h0, decide_eq_true (show d = 0 by omega)]
            rfl
          rw [gd, if_pos rfl] at ve
          rcases h with ⟨cs', e0, e, fin⟩ | ⟨iv, e, _⟩
          · have ec : cs' = cs := (tx_inj (Option.some.inj e0)).symm
            subst ec
            refine ifF rfl ⟨tx [119, 120, 121, 122], congrArg V.str (show ("wxyz" : Str) = tx [119, 120, 121, 122] by decide +kernel), fun D nD => ?_⟩
            refine lc_it (walk_str (z := tx [119, 120, 121, 122])) (fun j Hd => But D Hi Hd ∧ Hd D = some (.lst (((([119, 120, 121, 122] : List Nat).take j).filter fun c => decide (c ∈ cs')).map cv))) ⟨But.upd, upd_same⟩ (fun _ _ _ _ => True.intro) (fun j y Hd H' hj ⟨bd, hD⟩ ⟨e', c, hc, ey⟩ => ?_) (fun Hd ⟨bd, hD⟩ => ?_)
            · subst e' ey
              have hc' : ([119, 120, 121, 122] : List Nat)[j]? = some c := by
                unfold tx at hc
                rwa [List.getElem?_toArray] at hc
              have j4 : j < 4 := get_lt hc'
              refine ⟨rfl, _, rfl, _, rfl, c, tx cs', rfl, rfl, _, rfl, ?_⟩
              rw [show (tx cs').cps.toList = cs' from rfl]
              have ft : (([119, 120, 121, 122] : List Nat).take (j + 1)).filter (fun c => decide (c ∈ cs')) = (([119, 120, 121, 122] : List Nat).take j).filter (fun c => decide (c ∈ cs')) ++ (if decide (c ∈ cs') = true then [c] else []) := by
                rw [take_snoc hc', List.filter_append, List.filter_cons, List.filter_nil]
              by_cases hm : c ∈ cs'
              · rw [decide_eq_true hm, if_pos rfl] at ft
                rw [decide_eq_true hm]
                refine ifT rfl ⟨_, rfl, _, hD, ?_, But.trans bd But.upd, ?_⟩
                · rw [List.length_map]
                  refine Nat.lt_of_le_of_lt (List.length_filter_le _ _) ?_
                  rw [List.length_take]
                  exact Nat.lt_of_le_of_lt (Nat.min_le_right _ _) (by decide)
                · rw [upd_same, ft, List.map_append]
                  rfl
              · rw [decide_eq_false hm, if_neg (by decide), List.append_nil] at ft
                rw [decide_eq_false hm]
                refine ifF rfl ⟨bd, ?_⟩
                rw [ft]
                exact hD
            · have sc := Same.but (L2.Same.refl _) nD bd
              have e4 : (tx [119, 120, 121, 122]).cps.size = 4 := rfl
              rw [e4] at hD
              refine ⟨D, _, rfl, .inl ⟨SqL.of hD, fun t nt => ?_⟩⟩
              exact fin t _ (nil_of (si.trans sc) nt) ((si.trans sc).trans (same_upd nt)) upd_same
          · rw [ve] at e
            cases e
end
end K81

set_option Elab.async false
set_option linter.all false
set_option maxRecDepth 100000
set_option maxHeartbeats 8000000
namespace K81
open PySem PySem.Spec PyProof.Rows L2 Lf
def md : Nat → Str
  | 0 => "begin"
  | 1 => "one"
  | _ => "factor"
theorem in_cv {c : Nat} {l : List Nat} : inV (.str ⟨#[c]⟩) (l.map cv) = decide (c ∈ l) := by
  unfold inV
  induction l with
  | nil => rfl
  | cons k r ih =>
    rw [List.map_cons, List.any_cons, ih]
    have : eqV (cv k) (.str ⟨#[c]⟩) = decide (c = k) := by
      show (tx [k] == tx [c]) = _
      by_cases h : c = k
      · rw [h, decide_eq_true rfl, beq_self_eq_true]
      · rw [decide_eq_false h]
        apply beq_false_of_ne
        intro z
        have := tx_inj z
        simp at this
        exact h this.symm
    rw [this]
    by_cases h : c = k
    · simp [h]
    · simp [h]
def spOpen (K : PySem.W.Frag) : Sp := fun vs H Q _ => ∃ (m d c : Nat) (s : Bool), vs = [.str (md m), .str ⟨#[c]⟩, .int (d : Nat), .bl s] ∧ m ≤ 2 ∧ ∀ H', Same H H' → Q (.bl (Idn.ok (m, d, s) c)) H'
def spPick : Sp := fun vs H Q _ => ∃ (l p : Addr) (n : Nat) (xs : List V), vs = [.ref l, .ref p] ∧ Src H l n ∧ n ≤ 1000000 ∧ H p = some (.lst xs) ∧ p ≠ l ∧ xs ≠ [] ∧ xs.length ≤ 1000 ∧
  ∀ v H', v ∈ xs → But l H H' → Src H' l (n + 1) → Q v H'
def vv (cs : List Nat) : V := match Idn.verdict cs with
  | none => .non
  | some i => .int (i : Nat)
def spFault : Sp := fun vs H Q _ => ∃ cs : List Nat, vs = [.str (tx cs)] ∧ cs.length ≤ 100000 ∧ ∀ H', Same H H' → Q (vv cs) H'
abbrev NF : List Str := ["_law_text", "_law_mood", "_law_depth", "_law_is_second", "_law_place", "_law_sign", "_law_is_whole"]
section
variable {P : Program} {w : World} {K : PySem.W.Frag} {mg : Str → Option Value} {base : Heap}
theorem scPick : FnScope ["_law_source_here", "_law_some"] ["_law_source_here", "_law_some"] (defScope s_L_pick) := ⟨rfl, rfl, rfl, by decide +kernel, rfl, by decide +kernel, by decide +kernel⟩
theorem ok_pick {f : Addr} {fd : FuncData} {q : Str} (F : FunD K "_law_pick" q (defArgs s_L_pick) (defBody s_L_pick) (defScope s_L_pick) [] [] f fd) (zn : mg "len" = none) (DD : Def P w K mg base CX0 1 "_law_draw" ["_law_source_here", "_law_many"] spDraw) :
    FnOk P w K mg base CX0 2 f fd ["_law_source_here", "_law_some"] spPick := by
  refine F.ok scPick (fun vs H Q E h => ?_) (fun cdv A outer s H vs Q E hr h => ?_)
  · obtain ⟨l, p, n, xs, rfl, _⟩ := h
    rfl
  · obtain ⟨l, p, n, xs, rfl, src, n1, hp, pl, ne, lx, k⟩ := h
    refine ⟨_, PSs.nox (pss_one (ps_ret (pe_ix ix_list (pv 1) (pe_def DD hr pass0 rfl (pa_cons (pv 0) (pa_cons (pe_callB call_len_seq rfl zn boot_len (pa_cons (pv 1) pa_nil)) pa_nil))) (fun _ _ => rfl)))), ?_⟩
    have l0 : 0 < xs.length := by
      cases xs with
      | nil => exact absurd rfl ne
      | cons a b => exact Nat.succ_pos _
    refine ⟨_, rfl, _, rfl, _, rfl, p, xs, rfl, .inl (SqL.of hp), l, n, (xs.length : Nat), rfl, src, n1, by omega, by omega, fun i H' i0 i1 b' src' => ?_⟩
    obtain ⟨i, rfl⟩ : ∃ j : Nat, i = (j : Nat) := ⟨i.toNat, by omega⟩
    obtain ⟨v, hv⟩ := lt_get (show i < xs.length by omega)
    exact ⟨p, xs, _, v, rfl, rfl, SqL.of (b' _ _ pl hp), atI_nat hv, k v H' (List.mem_of_getElem? hv) b' src'⟩
theorem scOpen : FnScope ["_law_mood", "_law_sign", "_law_depth", "_law_is_second"] ["_law_mood", "_law_sign", "_law_depth", "_law_is_second"] (defScope s_L_is_open) := ⟨rfl, rfl, rfl, by decide +kernel, rfl, by decide +kernel, by decide +kernel⟩
theorem ok_open {f : Addr} {fd : FuncData} {q : Str} (F : FunD K "_law_is_open" q (defArgs s_L_is_open) (defBody s_L_is_open) (defScope s_L_is_open) [] [] f fd) : FnOk P w K mg base CX0 1 f fd ["_law_mood", "_law_sign", "_law_depth", "_law_is_second"] (spOpen K) := by
  refine F.ok scOpen (fun vs H Q E h => ?_) (fun cdv A outer s H vs Q E hr h => ?_)
  · obtain ⟨m, d, c, s, rfl, _⟩ := h
    rfl
  · obtain ⟨m, d, c, s, rfl, m2, k⟩ := h
    refine ⟨_, PSs.nox (pss_cons (ps_if (pt_cmpR op_eq (pv 0) pe_str (nomark _)) (pss_one (ps_ret (pe_cmpR op_in_seq (pv 1) (pe_tup (pa_cons pe_str (pa_cons pe_str (pa_cons pe_str (pa_cons pe_str (pa_cons pe_str (pa_cons pe_str pa_nil))))))) (by rfl)))) pss_nil)
      (pss_cons (ps_if (pt_cmpR op_eq (pv 1) pe_str (nomark _)) (pss_one (ps_ret (pe_cmpR op_gt (pv 2) pe_int (nomark _)))) pss_nil)
      (pss_cons (ps_if (pt_cmpR op_eq (pv 1) pe_str (nomark _)) (pss_one (ps_ret (pe_and (pe_cmpR op_eq (pv 2) pe_int (nomark _)) (pe_one (pe_not (pv 3)))))) pss_nil)
      (pss_one (ps_ret (pe_and (pe_cmpR op_eq (pv 0) pe_str (nomark _)) (pe_one (pe_cmpR op_in_seq (pv 1) (pe_tup (pa_cons pe_str (pa_cons pe_str (pa_cons pe_str (pa_cons pe_str (pa_cons pe_str (pa_cons pe_str (pa_cons pe_str pa_nil)))))))) (by rfl))))))))), ?_⟩
    have em : ∀ k, k ≤ 2 → decide (V.str (md m) = V.str (md k)) = decide (m = k) := by
      intro k hk
      have g : ∀ m ≤ 2, ∀ k ≤ 2, decide (V.str (md m) = V.str (md k)) = decide (m = k) := by decide +kernel
      exact g m m2 k hk
    refine ⟨_, rfl, rfl, _, rfl, ?_⟩
    rw [show decide (V.str (md m) = V.str ("begin" : Str)) = decide (m = 0) from em 0 (by decide)]
    unfold Idn.ok at k
    dsimp only at k
    by_cases h0 : m = 0
    · rw [decide_eq_true h0]
      rw [if_pos h0] at k
      refine ifT rfl ⟨_, rfl, (by show 6 ≤ sizeLine; decide), fun t nt => ⟨t, _, rfl, .inr (SqT.of upd_same), rfl, rfl, ?_⟩⟩
      show Q (.bl (inV _ _)) _
      rw [show [V.str ("1" : Str), .str ("w" : Str), .str ("x" : Str), .str ("y" : Str), .str ("z" : Str), .str ("(" : Str)] = ([49, 119, 120, 121, 122, 40] : List Nat).map cv by decide +kernel, in_cv]
      have e : decide (c ∈ [49, 119, 120, 121, 122, 40]) = decide (c ∈ [49, 40, 119, 120, 121, 122]) := by
        apply decide_eq_decide.mpr
        simp only [List.mem_cons, List.not_mem_nil, or_false]
        omega
      rw [e]
      exact k _ (same_upd nt)
    · rw [decide_eq_false h0]
      rw [if_neg h0] at k
      refine ifF rfl ⟨_, rfl, rfl, _, rfl, ?_⟩
      rw [sgn (k := 41) (show (")" : Str) = tx [41] by decide +kernel)]
      by_cases h1 : c = 41
      · rw [decide_eq_true h1]
        rw [if_pos h1] at k
        refine ifT rfl ⟨_, rfl, _, 0, rfl, rfl, ?_⟩
        have e : decide ((0 : Int) < ((d : Nat) : Int)) = decide (0 < d) := by
          apply decide_eq_decide.mpr
          omega
        show Q (.bl (decide ((0 : Int) < ((d : Nat) : Int)))) H
        rw [e]
        exact k _ (L2.Same.refl _)
      · rw [decide_eq_false h1]
        rw [if_neg h1] at k
        refine ifF rfl ⟨_, rfl, rfl, _, rfl, ?_⟩
        rw [sgn (k := 61) (show ("=" : Str) = tx [61] by decide +kernel)]
        by_cases h2 : c = 61
        · rw [decide_eq_true h2]
          rw [if_pos h2] at k
          refine ifT rfl ⟨_, rfl, rfl, _, rfl, ?_⟩
          have e : decide (V.int (d : Nat) = V.int 0) = decide (d = 0) := by
            apply decide_eq_decide.mpr
            constructor
            · intro h
              have := V.int.inj h
              omega
            · intro h
              rw [h]
              rfl
          rw [e]
          by_cases hd : d = 0
          · rw [decide_eq_true hd]
            rw [decide_eq_true hd] at k
            exact ifT rfl ⟨_, rfl, _, rfl, k _ (L2.Same.refl _)⟩
          · rw [decide_eq_false hd]
            rw [decide_eq_false hd] at k
            exact ifF rfl (k _ (L2.Same.refl _))
        · rw [decide_eq_false h2]
          rw [if_neg h2] at k
          refine ifF rfl ⟨_, rfl, rfl, _, rfl, ?_⟩
          rw [show decide (V.str (md m) = V.str ("factor" : Str)) = decide (m = 2) from em 2 (by decide)]
          by_cases h3 : m = 2
          · rw [decide_eq_true h3]
            rw [decide_eq_true h3] at k
            refine ifT rfl ⟨_, rfl, (by show 7 ≤ sizeLine; decide), fun t nt => ⟨t, _, rfl, .inr (SqT.of upd_same), rfl, rfl, ?_⟩⟩
            show Q (.bl (inV _ _)) _
            rw [show [V.str ("w" : Str), .str ("x" : Str), .str ("y" : Str), .str ("z" : Str), .str ("(" : Str), .str ("^" : Str), .str ("~" : Str)] = ([119, 120, 121, 122, 40, 94, 126] : List Nat).map cv by decide +kernel, in_cv]
            exact k _ (same_upd nt)
          · rw [decide_eq_false h3]
            rw [decide_eq_false h3] at k
            exact ifF rfl (k _ (L2.Same.refl _))
end
end K81

set_option Elab.async false
set_option linter.all false
set_option maxRecDepth 100000
set_option maxHeartbeats 8000000
namespace K81
open PySem PySem.Spec PyProof.Rows L2 Lf
section
variable {P : Program} {w : World} {K : PySem.W.Frag} {mg : Str → Option Value} {base : Heap}
theorem scFault : FnScope NF ["_law_text"] (defScope s_L_fault) := ⟨rfl, rfl, rfl, by decide +kernel, rfl, by decide +kernel, by decide +kernel⟩
theorem ok_fault {f : Addr} {fd : FuncData} {q : Str} (F : FunD K "_law_fault" q (defArgs s_L_fault) (defBody s_L_fault) (defScope s_L_fault) [] [] f fd) (ze : mg "enumerate" = none) (zn : mg "len" = none)
    (DO : Def P w K mg base CX0 1 "_law_is_open" ["_law_mood", "_law_sign", "_law_depth", "_law_is_second"] (spOpen K)) : FnOk P w K mg base CX0 2 f fd ["_law_text"] spFault := by
  refine F.ok scFault (fun vs H Q E h => ?_) (fun cdv A outer s H vs Q E hr h => ?_)
  · obtain ⟨cs, rfl, _⟩ := h
    rfl
  · obtain ⟨cs, rfl, l2, k⟩ := h
    refine ⟨_, PSs.nox (pss_cons (ps_asg (pe_tup (pa_cons pe_str (pa_cons pe_int (pa_cons pe_bl pa_nil)))) (pg_tup rfl (pgs_cons (pg_name (i := 1) scFault.nd rfl (.inl rfl)) (pgs_cons (pg_name (i := 2) scFault.nd rfl (.inl rfl)) (pgs_cons (pg_name (i := 3) scFault.nd rfl (.inl rfl)) pgs_nil)))))
      (pss_cons (ps_for PassesOwn.never rfl (pi_enumS rfl ze (pv 0)) (pg_tup rfl (pgs_cons (pg_name (i := 4) scFault.nd rfl (.inl rfl)) (pgs_cons (pg_name (i := 5) scFault.nd rfl (.inl rfl)) pgs_nil)))
        (pss_cons (ps_if (pt_not (pt_val (pe_def DO hr pass0 rfl (pa_cons (pv 1) (pa_cons (pv 5) (pa_cons (pv 2) (pa_cons (pv 3) pa_nil))))))) (pss_one (ps_ret (pv 4))) pss_nil)
        (pss_one (ps_if (pt_cmpR op_eq (pv 5) pe_str (nomark _)) (pss_one (ps_par (i := 1) (j := 2) rfl scFault.nd rfl rfl (by decide) rfl rfl (pa_cons pe_str (pa_cons (pe_op op_add (pv 2) pe_int) pa_nil)) (by rfl)))
          (pss_one (ps_if (pt_cmpR op_eq (pv 5) pe_str (nomark _)) (pss_one (ps_asg (pe_tup (pa_cons pe_str (pa_cons pe_bl pa_nil))) (pg_tup rfl (pgs_cons (pg_name (i := 1) scFault.nd rfl (.inl rfl)) (pgs_cons (pg_name (i := 3) scFault.nd rfl (.inl rfl)) pgs_nil)))))
            (pss_one (ps_if (pt_cmpR op_eq (pv 5) pe_str (nomark _)) (pss_one (ps_par (i := 1) (j := 2) rfl scFault.nd rfl rfl (by decide) rfl rfl (pa_cons pe_str (pa_cons (pe_op op_sub (pv 2) pe_int) pa_nil)) (by rfl)))
              (pss_one (ps_if (pt_cmpR op_eq (pv 1) pe_str (nomark _)) (pss_one (ps_set (i := 1) scFault.nd rfl (.inl rfl) (pe_ifExp (pt_cmpR op_eq (pv 5) pe_str (nomark _)) pe_str pe_str)))
                (pss_one (ps_if (pt_cmpR op_in_sign (pv 5) pe_str (by rfl)) (pss_one (ps_set (i := 1) scFault.nd rfl (.inl rfl) pe_str)) pss_nil))))))))))))
      (pss_cons (ps_set (i := 6) scFault.nd rfl (.inl rfl) (pe_and (pv 3) (pe_and (pe_cmpR op_eq (pv 2) pe_int (nomark _)) (pe_one (pe_cmpR op_ne (pv 1) pe_str (nomark _))))))
      (pss_one (ps_ret (pe_ifExp (pt_val (pv 6)) pe_non (pe_callB call_len_str rfl zn boot_len (pa_cons (pv 0) pa_nil)))))))), ?_⟩
    have em : ∀ m k, m ≤ 2 → k ≤ 2 → decide (V.str (md m) = V.str (md k)) = decide (m = k) := by
      intro m k hm hk
      have g : ∀ m ≤ 2, ∀ k ≤ 2, decide (V.str (md m) = V.str (md k)) = decide (m = k) := by decide +kernel
      exact g m hm k hk
    refine ⟨(by show 3 ≤ sizeLine; decide), fun t0 nt0 => ⟨t0, _, rfl, SqT.of upd_same, rfl, _, _, rfl, _, _, rfl, _, _, rfl, rfl, ?_⟩⟩
    have s0 := same_upd (o := .tup [V.str ("begin" : Str), .int 0, .bl false]) nt0
    generalize L2.upd H t0 (.tup [V.str ("begin" : Str), .int 0, .bl false]) = H0 at s0 ⊢
    refine ⟨_, rfl, tx cs, rfl, ?_⟩
    refine for_it (walk_enumS (x := tx cs)) (fun i σ Hi => ∃ (m d : Nat) (s : Bool) (v4 v5 : Option V), σ = [some (.str (tx cs)), some (.str (md m)), some (.int (d : Nat)), some (.bl s), v4, v5, none] ∧ Same H Hi ∧ Idn.from_ Idn.ini (cs.take i) = some (m, d, s))
      ⟨0, 0, false, none, none, rfl, s0, rfl⟩ (fun _ _ _ _ _ => True.intro) ?_ ?_
    · rintro i y σ Hi H' hi ⟨m, d, s, v4, v5, rfl, si, fr⟩ ⟨tt, c, rfl, ntt, rfl, hc⟩
      have hc' : cs[i]? = some c := by
        unfold tx at hc
        rwa [List.getElem?_toArray] at hc
      have m2 : m ≤ 2 := from_le (st := Idn.ini) (s := (m, d, s)) (Nat.zero_le _) fr
      have s2 := si.trans (same_upd (o := .tup [.int (i : Nat), .str ⟨#[c]⟩]) ntt)
      refine ⟨tt, _, rfl, SqT.of upd_same, rfl, _, _, rfl, _, _, rfl, rfl, ?_⟩
      generalize L2.upd Hi tt (.tup [.int (i : Nat), .str ⟨#[c]⟩]) = H2 at s2 ⊢
      refine ⟨_, rfl, _, rfl, _, rfl, _, rfl, m, d, c, s, rfl, m2, fun H3 s3 => ⟨_, rfl, ?_⟩⟩
      have s4 := s2.trans s3
      cases o : Idn.ok (m, d, s) c with
      | false =>
        have e := Idn.verdict_bad fr hc' o
        have ev : vv cs = .int (i : Nat) := by
          unfold vv
          rw [e]
        rw [ev] at k
        exact ifT rfl ⟨_, rfl, k _ s4⟩
      | true =>
        have fr' : Idn.from_ Idn.ini (cs.take (i + 1)) = some (Idn.step (m, d, s) c) := by
          rw [take_snoc hc']
          exact Idn.from_snoc fr o
        refine ifF rfl ⟨_, rfl, rfl, _, rfl, ?_⟩
        rw [sgn (k := 40) (show ("(" : Str) = tx [40] by decide +kernel)]
        by_cases h1 : c = 40
        · have es : Idn.step (m, d, s) c = (0, d + 1, s) := by rw [h1]; simp [Idn.step]
          rw [es] at fr'
          rw [decide_eq_true h1]
          exact ifT rfl ⟨_, rfl, _, _, rfl, rfl, _, _, rfl, 0, d + 1, s, _, _, rfl, s4, fr'⟩
        rw [decide_eq_false h1]
        refine ifF rfl ⟨_, rfl, rfl, _, rfl, ?_⟩
        rw [sgn (k := 61) (show ("=" : Str) = tx [61] by decide +kernel)]
        by_cases h2 : c = 61
        · have es : Idn.step (m, d, s) c = (0, d, true) := by rw [h2]; simp [Idn.step]
          rw [es] at fr'
          rw [decide_eq_true h2]
          exact ifT rfl ⟨(by show 2 ≤ sizeLine; decide), fun t0 nt0 => ⟨t0, _, rfl, SqT.of upd_same, rfl, _, _, rfl, _, _, rfl, rfl, 0, d, true, _, _, rfl, s4.trans (same_upd nt0), fr'⟩⟩
        rw [decide_eq_false h2]
        refine ifF rfl ⟨_, rfl, rfl, _, rfl, ?_⟩
        rw [sgn (k := 41) (show (")" : Str) = tx [41] by decide +kernel)]
        unfold Idn.ok at o
        dsimp only at o
        by_cases h3 : c = 41
        · have es : Idn.step (m, d, s) c = (2, d - 1, s) := by rw [h3]; simp [Idn.step]
          rw [es] at fr'
          have dp : 0 < d := by
            by_cases hm : m = 0
            · rw [if_pos hm, h3] at o
              exact absurd o (by decide)
            · rw [if_neg hm, if_pos h3] at o
              exact of_decide_eq_true o
          rw [decide_eq_true h3]
          obtain ⟨d', rfl⟩ : ∃ d', d = d' + 1 := ⟨d - 1, by omega⟩
          refine ifT rfl ⟨_, rfl, _, _, rfl, rfl, _, _, rfl, 2, d', s, some (.int (i : Nat)), some (.str ⟨#[c]⟩), ?_, s4, fr'⟩
          have e : (((d' + 1 : Nat) : Int) - 1) = ((d' : Nat) : Int) := by omega
          show [some (V.str (tx cs)), some (V.str ("factor" : Str)), some (V.int (((d' + 1 : Nat) : Int) - 1)), some (V.bl s), some (V.int (i : Nat)), some (V.str ⟨#[c]⟩), none] = _
          rw [e]
          rfl
        rw [decide_eq_false h3]
        refine ifF rfl ⟨_, rfl, rfl, _, rfl, ?_⟩
        rw [show decide (V.str (md m) = V.str ("begin" : Str)) = decide (m = 0) from em m 0 m2 (by decide)]
        by_cases h0 : m = 0
        · rw [decide_eq_true h0]
          refine ifT rfl ⟨_, rfl, rfl, _, rfl, if_tC ?_⟩
          rw [sgn (k := 49) (show ("1" : Str) = tx [49] by decide +kernel)]
          by_cases h4 : c = 49
          · have es : Idn.step (m, d, s) c = (1, d, s) := by rw [h4]; simp [Idn.step]
            rw [es] at fr'
            rw [decide_eq_true h4, if_pos rfl]
            exact ⟨1, d, s, _, _, rfl, s4, fr'⟩
          · have es : Idn.step (m, d, s) c = (2, d, s) := by simp [Idn.step, h1, h2, h3, h4]
            rw [es] at fr'
            rw [decide_eq_false h4, if_neg (by decide)]
            exact ⟨2, d, s, _, _, rfl, s4, fr'⟩
        · rw [if_neg h0, if_neg h3, if_neg h2] at o
          obtain ⟨o1, o2⟩ := Bool.and_eq_true_iff.mp o
          have e2 : m = 2 := of_decide_eq_true o1
          have o3 := of_decide_eq_true o2
          have h4 : c ≠ 49 := by
            intro z
            rw [z] at o3
            exact absurd o3 (by decide)
          have es : Idn.step (m, d, s) c = (2, d, s) := by simp [Idn.step, h1, h2, h3, h4]
          rw [es] at fr'
          rw [decide_eq_false h0]
          refine ifF rfl ⟨_, rfl, c, _, rfl, rfl, _, rfl, ?_⟩
          by_cases h5 : c ∈ (("wxyz" : Str)).cps.toList
          · rw [decide_eq_true h5]
            exact ifT rfl ⟨2, d, s, _, _, rfl, s4, fr'⟩
          · rw [decide_eq_false h5]
            subst e2
            exact ifF rfl ⟨2, d, s, _, _, rfl, s4, fr'⟩
    · rintro σ Hi ⟨m, d, s, v4, v5, rfl, si, fr⟩
      have sz : (tx cs).cps.size = cs.length := by simp [tx]
      rw [sz, List.take_length] at fr
      have m2 : m ≤ 2 := from_le (st := Idn.ini) (s := (m, d, s)) (Nat.zero_le _) fr
      have ve := Idn.verdict_end fr
      have k2 := k _ si
      have fitT : (tx cs).length ≤ sizeLine := by rw [tx_len]; show cs.length ≤ 16777216; omega
      have bad : Idn.good (m, d, s) = false → Q (.int ((tx cs).length : Nat)) Hi := fun g => by
        rw [g, if_neg (by decide)] at ve
        unfold vv at k2
        rw [ve] at k2
        rw [tx_len]
        exact k2
      have ed : decide (V.int (d : Nat) = V.int 0) = decide (d = 0) := by
        apply decide_eq_decide.mpr
        constructor
        · intro h
          have := V.int.inj h
          omega
        · intro h
          rw [h]
          rfl
      refine ⟨_, rfl, s, rfl, ?_⟩
      cases s with
      | false =>
        refine ifF rfl ⟨_, rfl, _, rfl, ifF rfl ⟨_, rfl, tx cs, rfl, fitT, bad ?_⟩⟩
        unfold Idn.good
        dsimp only
        cases (decide (m ≠ 0)) <;> cases (decide (d = 0)) <;> rfl
      | true =>
        refine ifT rfl ⟨_, rfl, rfl, _, rfl, ?_⟩
        rw [ed]
        by_cases hd : d = 0
        · rw [decide_eq_true hd]
          refine ifT rfl ⟨_, rfl, rfl, ?_⟩
          rw [show decide (V.str (md m) = V.str ("begin" : Str)) = decide (m = 0) from em m 0 m2 (by decide)]
          by_cases h0 : m = 0
          · rw [decide_eq_true h0]
            refine ⟨_, rfl, _, rfl, ifF rfl ⟨_, rfl, tx cs, rfl, fitT, bad ?_⟩⟩
            unfold Idn.good
            dsimp only
            rw [h0]
            rfl
          · rw [decide_eq_false h0]
            have g : Idn.good (m, d, true) = true := by
              unfold Idn.good
              dsimp only
              rw [decide_eq_true (show m ≠ 0 from h0), decide_eq_true hd]
              rfl
            rw [g, if_pos rfl] at ve
            unfold vv at k2
            rw [ve] at k2
            exact ⟨_, rfl, _, rfl, ifT rfl k2⟩
        · rw [decide_eq_false hd]
          refine ifF rfl ⟨_, rfl, _, rfl, ifF rfl ⟨_, rfl, tx cs, rfl, fitT, bad ?_⟩⟩
          unfold Idn.good
          dsimp only
          rw [decide_eq_false hd]
          cases (decide (m ≠ 0)) <;> rfl
end
end K81

set_option Elab.async false
set_option linter.all false
set_option maxRecDepth 100000
set_option maxHeartbeats 8000000
namespace K81
open PySem PySem.Spec PyProof.Rows L2 Lf
def vs4 (cs : List Nat) : PyData := .tuple ((Idn.vars cs).map fun c => PyData.str (tx [c]))
/-- what is told of a thing -/
def sd (o : Option Str) : PyData := match rd o with
  | some i => .int i
  | none => match o with
    | some z => vs4 z.cps.toList
    | none => .none
def du (cs : List Nat) : PyData := match Idn.verdict cs with
  | some i => .int (i : Nat)
  | none => vs4 cs
theorem sd_du {cs : List Nat} (h : cs.length ≤ 200) : sd (some (tx cs)) = du cs := by
  have er : rd (some (tx cs)) = (Idn.verdict cs).map fun i => ((i : Nat) : Int) := by
    unfold rd
    dsimp only
    rw [tx_len, if_neg (by omega)]
    rfl
  unfold sd du
  rw [er]
  cases Idn.verdict cs <;> rfl
theorem vars_dp {K : PySem.W.Frag} {H : Hp} : ∀ {l : List Nat}, DpAll K H (l.map cv) (l.map fun c => PyData.str (tx [c]))
  | [] => .nil
  | c :: l => .cons (.str _) vars_dp
theorem vars_shape : ∀ {l : List Nat}, (∀ c ∈ l, c < 128) → PyData.canLayAll0 (l.map fun c => PyData.str (tx [c])) = true ∧ PyData.depthAll (l.map fun c => PyData.str (tx [c])) = 0
  | [], _ => by simp [PyData.canLayAll0, PyData.depthAll]
  | w :: l, h => by
    have b := vars_shape (l := l) fun v hv => h v (List.mem_cons_of_mem _ hv)
    have o : PyData.strOk (tx [w]) = true := all_of fun c hc => by
      have hw := h w List.mem_cons_self
      have : c = w := by simpa [tx] using hc
      omega
    simp [PyData.canLayAll0, PyData.depthAll, PyData.canLay0, PyData.depth, b.1, b.2, o]
theorem vs4_sh (cs : List Nat) : SeqAt.shaped (vs4 cs) = true := by
  have h : ∀ c ∈ Idn.vars cs, c < 128 := fun c hc => (show ∀ c ∈ ([119, 120, 121, 122] : List Nat), c < 128 by decide) c (List.mem_filter.mp hc).1
  unfold SeqAt.shaped vs4
  simp [PyData.canLay0, PyData.depth, (vars_shape h).1, (vars_shape h).2]
theorem int_sh (i : Int) : SeqAt.shaped (.int i) = true := rfl
theorem du_sh (cs : List Nat) : SeqAt.shaped (du cs) = true := by
  unfold du
  cases Idn.verdict cs with
  | none => exact vs4_sh cs
  | some i => rfl
theorem sd_sh (o : Option Str) : SeqAt.shaped (sd o) = true := by
  unfold sd
  cases rd o with
  | some i => rfl
  | none =>
    cases o with
    | none => rfl
    | some z => exact vs4_sh _
def spSaid (K : PySem.W.Frag) : Sp := fun vs H Q _ => ∃ x o, vs = [x] ∧ TxtK K H x o ∧ (∀ z, o = some z → z.length ≤ 100000) ∧ ∀ v H', Same H H' → Dp K H' v (sd o) → Q v H'
def spDue (K : PySem.W.Frag) : Sp := fun vs H Q _ => ∃ cs : List Nat, vs = [.str (tx cs)] ∧ cs.length ≤ 100000 ∧ ∀ v H', Same H H' → Dp K H' v (du cs) → Q v H'
abbrev ttN : TT := tTest (tOp (fun x y H Q => ∃ (c : Nat) (z : Str), x = .str ⟨#[c]⟩ ∧ y = .str z ∧ Q (.bl (decide (c ∈ z.cps.toList))) H) (tVar 2) (tVar 0))
section
variable {P : Program} {w : World} {K : PySem.W.Frag} {mg : Str → Option Value} {base : Heap}
theorem scSaid : FnScope ["_law_text", "e"] ["_law_text"] (defScope s_L_said) := ⟨rfl, rfl, rfl, by decide +kernel, rfl, by decide +kernel, by decide +kernel⟩
theorem ok_said {f : Addr} {fd : FuncData} {q : Str} (F : FunD K "_law_said" q (defArgs s_L_said) (defBody s_L_said) (defScope s_L_said) [] [] f fd) (T : Txt P w K mg base)
    {fs : Addr} {fds : FuncData} (gs : mg "read_identity" = some (.ref fs)) (ks : PySem.W.keepIn K (.ref fs) = true) (FS : FnOk P w K mg base (L2.CX P w) 3 fs fds ["text"] (spRead K)) (bS : Binds K fds ["text"] []) :
    FnOk P w K mg base CX0 4 f fd ["_law_text"] (spSaid K) := by
  have ET := er_NoTerm T
  have x1 : PySem.W.exmOne K (.ref (He.ga K "NoTerm")) (.ref (He.ga K "NoTerm")) = some true := He.exm_ok (T.d.fact 30 (f := .exm "NoTerm" "NoTerm" true) rfl)
  refine F.ok scSaid (fun vs H Q E h => ?_) (fun cdv A outer s H vs Q E hr h => ?_)
  · obtain ⟨x, o, rfl, _⟩ := h
    rfl
  · obtain ⟨x, o, rfl, tk, lz, k⟩ := h
    refine ⟨_, PSs.nox (pss_one (ps_tryA (X := (cxOf CX0 P w K mg base ["_law_text", "e"] q (defScope s_L_said) f cdv A outer s H E).nox)
      (l := [(.ref (He.ga K "NoTerm"), some 1, fun a cls d => fun D σ H => cls = .ref (He.ga K "NoTerm") ∧ σ[1]? = some (some (.ref a)) ∧ ∃ (dd : Addr) (v : V), d = some dd ∧ H dd = some (.xd [(("place" : Str), v)]) ∧ D.rt v H), (.ref (He.ga K "FoldError"), none, fun _ _ _ => fun D _ H => D.rt (.str "other") H)])
      rfl rfl scSaid.nd LamX.takes0 (fun W pn xe tk _ => pss_one (ps_ret (pe_callS FS hr rfl gs ks bS (fun σ => passAt tk σ) (pa_cons (pv 0) pa_nil))))
      (.as (i := 1) ⟨rfl, by decide +kernel, .inl ET.g⟩ rfl rfl (fun a o cls d pn z fl => ?s1)
      (.plain ⟨rfl, by decide +kernel, .inl (T.gl 0 "FoldError" rfl)⟩ (fun a o cls d pn _ _ => pss_one (ps_ret pe_str)) .nil)))), ?fin⟩
    case s1 =>
      refine pss_some fun D σ H' h' => ?_
      obtain ⟨rfl, h2, dd, v, rfl, hdd, k⟩ := h'
      exact ⟨_, pss_one (ps_ret (pe_xf (X := (cxOf CX0 P w K mg base ["_law_text", "e"] q (defScope s_L_said) f cdv A outer s H E).nox) ET.c.x ET.no z fl (pv 1))),
        ⟨_, h2, rfl, rfl, dd, _, v, rfl, hdd, rfl, k⟩⟩
    case fin =>
      refine ⟨_, rfl, x, o, rfl, tk, lz, ?_⟩
      cases e : rd o with
      | none =>
        cases o with
        | none => cases e
        | some z =>
          obtain ⟨cs, rfl⟩ : ∃ cs, z = tx cs := ⟨_, tx_of z⟩
          refine .inl ⟨cs, rfl, rfl, fun t H' nt st ht => k _ _ st ?_⟩
          unfold sd
          rw [e]
          exact .tup (SqT.of ht) vars_dp
      | some i =>
        refine .inr ⟨i, rfl, fun d H' nd st hd => fun ln => ⟨true, x1, fun _ a na => ⟨rfl, rfl, d, _, rfl, hd, k _ _ st ?_⟩, fun z => nomatch z⟩⟩
        unfold sd
        rw [e]
        exact .int i
theorem scDue : FnScope ["_law_text", "_law_fault_here", "_law_name"] ["_law_text"] (defScope s_L_due) := ⟨rfl, rfl, rfl, by decide +kernel, rfl, by decide +kernel, by decide +kernel⟩
theorem ok_due {f : Addr} {fd : FuncData} {q : Str} (F : FunD K "_law_due" q (defArgs s_L_due) (defBody s_L_due) (defScope s_L_due) [] [] f fd) (zt : mg "tuple" = none)
    (DF : Def P w K mg base CX0 2 "_law_fault" ["_law_text"] spFault) : FnOk P w K mg base CX0 3 f fd ["_law_text"] (spDue K) := by
  refine F.ok scDue (fun vs H Q E h => ?_) (fun cdv A outer s H vs Q E hr h => ?_)
  · obtain ⟨cs, rfl, _⟩ := h
    rfl
  · obtain ⟨cs, rfl, l2, k⟩ := h
    refine ⟨_, PSs.nox (pss_cons (ps_set (i := 1) scDue.nd rfl (.inl rfl) (pe_def DF hr pass0 rfl (pa_cons (pv 0) pa_nil)))
      (pss_cons (ps_if (pt_cmpR op_notN (pv 1) pe_non (nomark _)) (pss_one (ps_ret (pv 1))) pss_nil)
      (pss_one (ps_ret (pe_callTy call_tuple_of rfl zt PyProof.Rows.boot_tuple (pa_cons (pe_lc (own := [("_law_name", 2)]) (g := gName 2) (tt := ttN) (te := tVar 2) (by rfl) scDue.nd (pi_tup (pe_tup (pa_cons pe_str (pa_cons pe_str (pa_cons pe_str (pa_cons pe_str pa_nil)))))) (blkOk_by (own := [("_law_name", 2)]) (N := ["_law_text", "_law_fault_here", "_law_name"]) (sc := defScope s_L_due) (by decide +kernel)) (fun _ _ _ _ _ => pg_name (i := 2) scDue.nd rfl (Or.inl rfl)) (fun _ _ _ _ _ => by exact pts_one (pt_cmpR op_in_sign (pv 2) (pv 0) (by rfl))) (fun _ _ _ _ _ => pv 2)) pa_nil)))))), ?_⟩
    refine ⟨_, rfl, cs, rfl, l2, fun H1 s1 => ?_⟩
    unfold vv
    cases e : Idn.verdict cs with
    | some i =>
      refine ⟨_, rfl, rfl, _, rfl, ifT (by rfl) ⟨_, rfl, k _ _ s1 ?_⟩⟩
      unfold du
      rw [e]
      exact .int _
    | none =>
      refine ⟨_, rfl, rfl, _, rfl, ifF (by rfl) ?_⟩
      refine ⟨(by show 4 ≤ sizeLine; decide), fun t0 nt0 => ⟨t0, rfl, ⟨_, SqT.of upd_same⟩, ?_⟩⟩
      have ew : [V.str ("w" : Str), .str ("x" : Str), .str ("y" : Str), .str ("z" : Str)] = ([119, 120, 121, 122] : List Nat).map cv := by decide +kernel
      rw [ew]
      have s2 := s1.trans (same_upd (o := .tup (([119, 120, 121, 122] : List Nat).map cv)) nt0)
      have h0 : L2.upd H1 t0 (.tup (([119, 120, 121, 122] : List Nat).map cv)) t0 = some (.tup (([119, 120, 121, 122] : List Nat).map cv)) := upd_same
      generalize L2.upd H1 t0 (.tup (([119, 120, 121, 122] : List Nat).map cv)) = H2 at s2 h0 ⊢
      refine fun D nD => ?_
      have nDt : t0 ≠ D := fun z => by rw [z, nD] at h0; cases h0
      refine lc_it (walk_tup (K := K) (a := t0) (xs := ([119, 120, 121, 122] : List Nat).map cv)) (fun j Hd => But D H2 Hd ∧ Hd D = some (.lst (((([119, 120, 121, 122] : List Nat).take j).filter fun c => decide (c ∈ cs)).map cv))) ⟨But.upd, upd_same⟩ (fun _ Hd _ ⟨bd, _⟩ => SqT.of (bd _ _ nDt h0)) (fun j y Hd H' hj ⟨bd, hD⟩ ⟨e', hy⟩ => ?_) (fun Hd ⟨bd, hD⟩ => ?_)
      · subst e'
        obtain ⟨c, hc', rfl⟩ := map_get hy
        have j4 : j < 4 := get_lt hc'
        refine ⟨rfl, _, rfl, _, rfl, c, tx cs, rfl, rfl, _, rfl, ?_⟩
        rw [show (tx cs).cps.toList = cs from rfl]
        have ft : (([119, 120, 121, 122] : List Nat).take (j + 1)).filter (fun c => decide (c ∈ cs)) = (([119, 120, 121, 122] : List Nat).take j).filter (fun c => decide (c ∈ cs)) ++ (if decide (c ∈ cs) = true then [c] else []) := by
          rw [take_snoc hc', List.filter_append, List.filter_cons, List.filter_nil]
        by_cases hm : c ∈ cs
        · rw [decide_eq_true hm, if_pos rfl] at ft
          rw [decide_eq_true hm]
          refine ifT rfl ⟨_, rfl, _, hD, ?_, But.trans bd But.upd, ?_⟩
          · rw [List.length_map]
            refine Nat.lt_of_le_of_lt (List.length_filter_le _ _) ?_
            rw [List.length_take]
            exact Nat.lt_of_le_of_lt (Nat.min_le_right _ _) (by decide)
          · rw [upd_same, ft, List.map_append]
            rfl
        · rw [decide_eq_false hm, if_neg (by decide), List.append_nil] at ft
          rw [decide_eq_false hm]
          refine ifF rfl ⟨bd, ?_⟩
          rw [ft]
          exact hD
      · have sc := Same.but (L2.Same.refl _) nD bd
        rw [show (([119, 120, 121, 122] : List Nat).map cv).length = 4 from rfl] at hD
        refine ⟨D, _, rfl, .inl ⟨SqL.of hD, fun t nt => ?_⟩⟩
        refine k _ _ ((s2.trans sc).trans (same_upd nt)) ?_
        unfold du
        rw [e]
        exact .tup (SqT.of upd_same) vars_dp
end
end K81

set_option Elab.async false
set_option linter.all false
set_option maxRecDepth 100000
set_option maxHeartbeats 8000000
namespace K81
open PySem PySem.Spec PyProof.Rows L2 Lf
theorem but_put {l p : Addr} {H H1 : Hp} {o : HO} (b : But l H H1) (np : H1 p = none) (pl : p ≠ l) : But l H (L2.upd H1 p o) := fun x u nx e => by
  rw [upd_ne (ne_of_none e (But.nil b pl np))]
  exact b x u nx e
theorem src_ne {H : Hp} {l p : Addr} {n : Nat} (h : Src H l n) (np : H p = none) : p ≠ l := fun z => by
  obtain ⟨a, b, c, e, _⟩ := h
  rw [z, e] at np
  cases np
theorem src_upd {H : Hp} {l p : Addr} {n : Nat} {o : HO} (h : Src H l n) (pl : p ≠ l) : Src (L2.upd H p o) l n := by
  obtain ⟨a, b, c, e, r⟩ := h
  exact ⟨a, b, c, by rw [upd_ne pl.symm]; exact e, r⟩
/-- a text of signs below 128 that is short -/
def Sm (t : List Nat) (n : Nat) : Prop := (∀ c ∈ t, c < 128) ∧ t.length ≤ n
theorem Sm.app {a b : List Nat} {n m : Nat} (h : Sm a n) (g : Sm b m) : Sm (a ++ b) (n + m) := by
  refine ⟨fun c hc => ?_, by rw [List.length_append]; exact Nat.add_le_add h.2 g.2⟩
  rcases List.mem_append.mp hc with z | z
  · exact h.1 c z
  · exact g.1 c z
theorem Sm.up {a : List Nat} {n m : Nat} (h : Sm a n) (e : n ≤ m) : Sm a m := ⟨h.1, Nat.le_trans h.2 e⟩
def spTm : Nat → Sp
  | 0 => fun _ _ _ _ => False
  | n + 1 => fun vs H Q _ => ∃ (l : Addr) (k d : Nat), vs = [.ref l, .int (d : Nat)] ∧ d ≤ n ∧ d ≤ 6 ∧ Src H l k ∧ k + Idn.drB d ≤ 1000000 ∧
    ∀ t H', Idn.Tm t → Sm t (Idn.lenB d) → But l H H' → Src H' l (k + Idn.drB d) → Q (.str (tx t)) H'
theorem pick_w {v : V} (h : v ∈ [V.str ("w" : Str), .str ("x" : Str), .str ("y" : Str), .str ("z" : Str)]) : ∃ c ∈ ([119, 120, 121, 122] : List Nat), v = .str (tx [c]) := by
  simp only [List.mem_cons, List.not_mem_nil, or_false] at h
  rcases h with rfl | rfl | rfl | rfl
  · exact ⟨119, by decide, congrArg V.str (by decide +kernel)⟩
  · exact ⟨120, by decide, congrArg V.str (by decide +kernel)⟩
  · exact ⟨121, by decide, congrArg V.str (by decide +kernel)⟩
  · exact ⟨122, by decide, congrArg V.str (by decide +kernel)⟩
theorem pick_s {v : V} (h : v ∈ [V.str ("" : Str), .str ("" : Str), .str ("^" : Str), .str ("~" : Str), .str ("^^" : Str), .str ("~^~" : Str)]) : ∃ u : List Nat, v = .str (tx u) ∧ Idn.Sg u ∧ Sm u 3 := by
  simp only [List.mem_cons, List.not_mem_nil, or_false] at h
  rcases h with rfl | rfl | rfl | rfl | rfl | rfl
  · exact ⟨[], congrArg V.str (by decide +kernel), Idn.sg_of (by decide), by unfold Sm; decide⟩
  · exact ⟨[], congrArg V.str (by decide +kernel), Idn.sg_of (by decide), by unfold Sm; decide⟩
  · exact ⟨[94], congrArg V.str (by decide +kernel), Idn.sg_of (by decide), by unfold Sm; decide⟩
  · exact ⟨[126], congrArg V.str (by decide +kernel), Idn.sg_of (by decide), by unfold Sm; decide⟩
  · exact ⟨[94, 94], congrArg V.str (by decide +kernel), Idn.sg_of (by decide), by unfold Sm; decide⟩
  · exact ⟨[126, 94, 126], congrArg V.str (by decide +kernel), Idn.sg_of (by decide), by unfold Sm; decide⟩
section
variable {P : Program} {w : World} {K : PySem.W.Frag} {mg : Str → Option Value} {base : Heap}
theorem scTerm : FnScope ["_law_source_here", "_law_deep", "_law_found", "_law_turn", "_law_one"] ["_law_source_here", "_law_deep"] (defScope s_L_term) := ⟨rfl, rfl, rfl, by decide +kernel, rfl, by decide +kernel, by decide +kernel⟩
theorem ok_term {f : Addr} {fd : FuncData} {q : Str} (F : FunD K "_law_term" q (defArgs s_L_term) (defBody s_L_term) (defScope s_L_term) [] [] f fd) (zr : mg "range" = none)
    (DD : Def P w K mg base CX0 1 "_law_draw" ["_law_source_here", "_law_many"] spDraw) (DP : Def P w K mg base CX0 2 "_law_pick" ["_law_source_here", "_law_some"] spPick) (gt : mg "_law_term" = some (.ref f)) (bt : Binds K fd ["_law_source_here", "_law_deep"] []) :
    ∀ n, FnOk P w K mg base CX0 (n + 3) f fd ["_law_source_here", "_law_deep"] (spTm n)
  | 0 => ⟨fun _ _ _ _ h => h.elim, fun _ _ _ _ _ _ _ _ _ _ _ _ _ h => h.elim⟩
  | n + 1 => by
    have DT : Def P w K mg base CX0 (n + 3) "_law_term" ["_law_source_here", "_law_deep"] (spTm n) := ⟨_, fd, gt, F.kp, ok_term F zr DD DP gt bt n, bt⟩
    refine F.ok scTerm (fun vs H Q E h => ?_) (fun cdv A outer s H vs Q E hr h => ?_)
    · obtain ⟨l, k, d, rfl, _⟩ := h
      rfl
    · obtain ⟨l, k, d, rfl, dn, d6, src, k1, fin⟩ := h
      have R1 : Room 1 _ := hr.mono (by omega)
      have R2 : Room 2 _ := hr.mono (by omega)
      refine ⟨_, PSs.nox (pss_cons (ps_if (pt_cmpR op_eq (pe_def DD R1 pass0 rfl (pa_cons (pv 0) (pa_cons pe_int pa_nil))) pe_int (nomark _)) (pss_one (ps_ret pe_str)) pss_nil)
        (pss_cons (ps_set (i := 2) scTerm.nd rfl (.inl rfl) pe_str)
        (pss_cons (ps_for PassesOwn.never rfl (pi_range1 rfl zr (pa_cons (pe_op op_add pe_int (pe_def DD R1 pass0 rfl (pa_cons (pv 0) (pa_cons pe_int pa_nil)))) pa_nil)) (pg_name (i := 3) scTerm.nd rfl (.inl rfl))
          (pss_cons (ps_set (i := 4) scTerm.nd rfl (.inl rfl) (pe_def DP R2 pass0 rfl (pa_cons (pv 0) (pa_cons (pe_lst (pa_cons pe_str (pa_cons pe_str (pa_cons pe_str (pa_cons pe_str pa_nil))))) pa_nil))))
          (pss_cons (ps_if (PW.pt (pw_and (pt_cmpR op_gt (pv 1) pe_int (nomark _)) (pw_and1 (pt_cmpR op_eq (pe_def DD R1 pass0 rfl (pa_cons (pv 0) (pa_cons pe_int pa_nil))) pe_int (nomark _)))))
            (pss_one (ps_set (i := 4) scTerm.nd rfl (.inl rfl) (pe_op op_add_str (pe_op op_add_str pe_str (pe_def DT hr pass0 rfl (pa_cons (pv 0) (pa_cons (pe_op op_sub (pv 1) pe_int) pa_nil)))) pe_str))) pss_nil)
          (pss_one (ps_set (i := 2) scTerm.nd rfl (.inl rfl) (pe_op op_add_str (pe_op op_add_str (pv 2) (pv 4)) (pe_def DP R2 pass0 rfl (pa_cons (pv 0) (pa_cons (pe_lst (pa_cons pe_str (pa_cons pe_str (pa_cons pe_str (pa_cons pe_str (pa_cons pe_str (pa_cons pe_str pa_nil))))))) pa_nil)))))))))
        (pss_one (ps_ret (pv 2)))))), ?_⟩
      have dr := Idn.drB_eq d
      have ln := Idn.lenB_eq d
      have pl6 := Idn.perL_le d d6
      refine ⟨_, rfl, l, k, 6, rfl, src, by omega, by omega, by omega, fun x H1 x0 x1 b1 src1 => ?_⟩
      refine ⟨rfl, _, rfl, ?_⟩
      by_cases hx : V.int x = V.int 0
      · rw [decide_eq_true hx]
        refine ifT rfl ?_
        show Q (.str ("1" : Str)) H1
        rw [show ("1" : Str) = tx [49] by decide +kernel]
        exact fin _ _ Idn.tm_one ⟨by decide, Idn.lenB_one d⟩ b1 (src1.up (by omega))
      rw [decide_eq_false hx]
      refine ifF rfl ?_
      refine ⟨_, rfl, l, k + 1, 3, rfl, src1, by omega, by omega, by omega, fun y H2 y0 y1 b2 src2 => ?_⟩
      obtain ⟨y, rfl⟩ : ∃ y' : Nat, y = (y' : Nat) := ⟨y.toNat, by omega⟩
      refine ⟨1, _, rfl, rfl, (1 : Int) + (y : Nat), rfl, by omega, by omega, ?_⟩
      have b12 := But.trans b1 b2
      clear b1 b2 src1
      have e1 : ((1 : Int) + (y : Nat)) = ((1 + y : Nat) : Int) := by omega
      rw [e1]
      refine for_range (lo := 0) (n := 1 + y) (fun j σ Hi => ∃ (f : List Nat) (v3 v4 : Option V), σ = [some (.ref l), some (.int (d : Nat)), some (.str (tx f)), v3, v4] ∧ But l H Hi ∧ Src Hi l (k + 2 + j * Idn.perD d) ∧ Idn.Fs f ∧ (0 < j → ∀ d s, Idn.from_ (0, d, s) f = some (2, d, s)) ∧ Sm f (j * Idn.perL d))
        ⟨[], none, none, rfl, b12, by rw [Nat.zero_mul]; exact src2, Idn.fs_nil, fun z => absurd z (by decide), ⟨(fun c hc => nomatch hc), Nat.zero_le _⟩⟩ ?_ ?_
      · rintro j σ Hi hj ⟨fo, v3, v4, rfl, bi, si, hf, _, sf⟩
        have jd : (j + 1) * Idn.perD d = j * Idn.perD d + Idn.perD d := Nat.succ_mul _ _
        have jl : (j + 1) * Idn.perL d = j * Idn.perL d + Idn.perL d := Nat.succ_mul _ _
        have jd3 : (j + 1) * Idn.perD d ≤ 3 * Idn.perD d := Nat.mul_le_mul_right _ (by omega)
        have jl3 : (j + 1) * Idn.perL d ≤ 3 * Idn.perL d := Nat.mul_le_mul_right _ (by omega)
        have pd2 : 2 ≤ Idn.perD d := by
          cases d with
          | zero => exact Nat.le_refl _
          | succ d => show 2 ≤ 3 + _; omega
        refine ⟨_, rfl, (by show 4 ≤ sizeLine; decide), fun p np => ?_⟩
        have pl := src_ne si np
        refine ⟨l, p, k + 2 + j * Idn.perD d, _, rfl, src_upd si pl, by omega, upd_same, pl, (fun z => nomatch z), (by decide), fun v H3 hv b3 src3 => ?_⟩
        obtain ⟨c, hc, rfl⟩ := pick_w hv
        have b4 := But.trans (but_put bi np pl) b3
        clear b3 si bi
        -- what is done when the factor stands
        have tail : ∀ {u : List Nat} {n' : Nat} {H4 : Hp}, Idn.Fc u → Sm u (Idn.perL d - 3) → 3 ≤ Idn.perL d → But l H H4 → Src H4 l n' → n' + 1 ≤ k + 2 + (j + 1) * Idn.perD d →
            (tx fo).length + (tx u).length ≤ sizeLine ∧ ∀ (p : Addr) (v : V) (H5 : Hp), H4 p = none → p ≠ l → v ∈ [V.str ("" : Str), .str ("" : Str), .str ("^" : Str), .str ("~" : Str), .str ("^^" : Str), .str ("~^~" : Str)] →
              ∃ sg : List Nat, v = .str (tx sg) ∧ (tx (fo ++ u)).length + (tx sg).length ≤ sizeLine ∧ Idn.Fs (fo ++ u ++ sg) ∧ (∀ d s, Idn.from_ (0, d, s) (fo ++ u ++ sg) = some (2, d, s)) ∧ Sm (fo ++ u ++ sg) ((j + 1) * Idn.perL d) := by
          intro u n' H4 hu su p3 _ _ _
          refine ⟨by rw [tx_len, tx_len]; have := sf.2; have := su.2; show _ ≤ 16777216; omega, fun p v H5 np pl hv => ?_⟩
          obtain ⟨sg, rfl, g1, g2⟩ := pick_s hv
          refine ⟨sg, rfl, by rw [tx_len, tx_len, List.length_append]; have := sf.2; have := su.2; have := g2.2; show _ ≤ 16777216; omega, Idn.fs_step hf hu g1, Idn.fs_more hf hu g1, ?_⟩
          exact ((sf.app su).app g2).up (by omega)
        have sc1 : Sm [c] 1 := ⟨fun z hz => by rw [List.mem_singleton.mp hz]; exact (show ∀ c ∈ ([119, 120, 121, 122] : List Nat), c < 128 by decide) c hc, Nat.le_refl _⟩
        refine ⟨_, rfl, _, 0, rfl, rfl, _, rfl, ?_⟩
        cases d with
        | zero =>
          have P3 : 3 ≤ Idn.perL 0 := by decide
          refine ifF (by decide) (ifF rfl ?_)
          obtain ⟨fit, tl⟩ := tail (u := [c]) (Idn.fc_var hc) sc1 P3 b4 src3 (by omega)
          refine ⟨_, rfl, _, rfl, tx fo, tx ([c]), rfl, rfl, fit, _, rfl, (by show 6 ≤ sizeLine; decide), fun p5 np5 => ?_⟩
          have pl5 := src_ne src3 np5
          refine ⟨l, p5, k + 2 + j * Idn.perD 0 + 1, _, rfl, src_upd src3 pl5, by omega, upd_same, pl5, (fun z => nomatch z), (by decide), fun v5 H6 hv5 b6 src6 => ?_⟩
          obtain ⟨sg, rfl, g1, g2, g3, g4⟩ := tl p5 v5 H6 np5 pl5 hv5
          refine ⟨tx fo ++ tx ([c]), tx sg, rfl, rfl, by rw [tx_app]; exact g1, ?_⟩
          rw [tx_app, tx_app]
          exact ⟨_, _, _, rfl, But.trans (but_put b4 np5 pl5) b6, src6.up (by omega), g2, fun _ => g3, g4⟩
        | succ d' =>
          have P3 : 3 ≤ Idn.perL (d' + 1) := by show 3 ≤ 5 + _; omega
          have pDe : Idn.perD (d' + 1) = 3 + Idn.drB d' := rfl
          have pLe : Idn.perL (d' + 1) = 5 + Idn.lenB d' := rfl
          refine ifT (decide_eq_true (show (0 : Int) < ((d' + 1 : Nat) : Int) by omega)) ?_
          refine ⟨_, rfl, l, _, 3, rfl, src3, by omega, by omega, by omega, fun z H4 z0 z1 b5 src4 => ⟨rfl, _, rfl, ?_⟩⟩
          have b45 := But.trans b4 b5
          clear b4 b5 src3
          by_cases hz : V.int z = V.int 0
          · rw [decide_eq_true hz]
            refine ifT rfl ?_
            cases n with
            | zero => omega
            | succ n =>
              have e2 : (((d' + 1 : Nat) : Int) - 1) = ((d' : Nat) : Int) := by omega
              refine ⟨_, rfl, _, rfl, _, 1, rfl, rfl, l, _, d', congrArg (fun z => [V.ref l, V.int z]) e2, by omega, by omega, src4, by omega, fun t H5 tm st b6 src5 => ?_⟩
              have l14 := Idn.lenB_le d' (by omega)
              refine ⟨tx [40], tx t, congrArg V.str (show ("(" : Str) = tx [40] by decide +kernel), rfl, by rw [tx_len, tx_len]; have := st.2; show 1 + t.length ≤ 16777216; omega, tx [40] ++ tx t, tx [41], rfl, congrArg V.str (show (")" : Str) = tx [41] by decide +kernel), by rw [tx_app, tx_len, tx_len, List.length_append]; have := st.2; show 1 + t.length + 1 ≤ 16777216; omega, ?_⟩
              rw [tx_app, tx_app]
              have b56 := But.trans b45 b6
              have su : Sm ([40] ++ t ++ [41]) (Idn.perL (d' + 1) - 3) := (((show Sm [40] 1 from ⟨by decide, Nat.le_refl _⟩).app st).app (show Sm [41] 1 from ⟨by decide, Nat.le_refl _⟩)).up (by omega)
              obtain ⟨fit, tl⟩ := tail (u := [40] ++ t ++ [41]) (Idn.fc_par tm) su P3 b56 src5 (by omega)
              refine ⟨_, rfl, _, rfl, tx fo, tx ([40] ++ t ++ [41]), rfl, rfl, fit, _, rfl, (by show 6 ≤ sizeLine; decide), fun p5 np5 => ?_⟩
              have pl5 := src_ne src5 np5
              refine ⟨l, p5, k + 2 + j * Idn.perD (d' + 1) + 1 + 1 + Idn.drB d', _, rfl, src_upd src5 pl5, by omega, upd_same, pl5, (fun z => nomatch z), (by decide), fun v5 H6 hv5 b6 src6 => ?_⟩
              obtain ⟨sg, rfl, g1, g2, g3, g4⟩ := tl p5 v5 H6 np5 pl5 hv5
              refine ⟨tx fo ++ tx ([40] ++ t ++ [41]), tx sg, rfl, rfl, by rw [tx_app]; exact g1, ?_⟩
              rw [tx_app, tx_app]
              exact ⟨_, _, _, rfl, But.trans (but_put b56 np5 pl5) b6, src6.up (by omega), g2, fun _ => g3, g4⟩
          · rw [decide_eq_false hz]
            refine ifF rfl ?_
            obtain ⟨fit, tl⟩ := tail (u := [c]) (Idn.fc_var hc) (sc1.up (by omega)) P3 b45 src4 (by omega)
            refine ⟨_, rfl, _, rfl, tx fo, tx ([c]), rfl, rfl, fit, _, rfl, (by show 6 ≤ sizeLine; decide), fun p5 np5 => ?_⟩
            have pl5 := src_ne src4 np5
            refine ⟨l, p5, k + 2 + j * Idn.perD (d' + 1) + 1 + 1, _, rfl, src_upd src4 pl5, by omega, upd_same, pl5, (fun z => nomatch z), (by decide), fun v5 H6 hv5 b6 src6 => ?_⟩
            obtain ⟨sg, rfl, g1, g2, g3, g4⟩ := tl p5 v5 H6 np5 pl5 hv5
            refine ⟨tx fo ++ tx ([c]), tx sg, rfl, rfl, by rw [tx_app]; exact g1, ?_⟩
            rw [tx_app, tx_app]
            exact ⟨_, _, _, rfl, But.trans (but_put b45 np5 pl5) b6, src6.up (by omega), g2, fun _ => g3, g4⟩
      · rintro σ Hi ⟨fo, v3, v4, rfl, bi, si, hf, full, sf⟩
        have y3 : 1 + y ≤ 3 := by omega
        have jd3 : (1 + y) * Idn.perD d ≤ 3 * Idn.perD d := Nat.mul_le_mul_right _ y3
        have jl3 : (1 + y) * Idn.perL d ≤ 3 * Idn.perL d := Nat.mul_le_mul_right _ y3
        exact ⟨_, rfl, fin fo Hi (Idn.tm_fs (full (by omega))) (sf.up (by omega)) bi (si.up (by omega))⟩
end
end K81

set_option Elab.async false
set_option linter.all false
set_option maxRecDepth 100000
set_option maxHeartbeats 8000000
namespace K81
open PySem PySem.Spec PyProof.Rows L2 Lf
def spRight : Sp := fun vs H Q _ => ∃ (l : Addr) (n : Nat), vs = [.ref l] ∧ Src H l n ∧ n + 20000 ≤ 1000000 ∧ ∀ H', But l H H' → Src H' l (n + 20000) → Q (.bl true) H'
abbrev NR : List Str := ["_law_source_here", "_law_text", "_law_turn", "_law_at", "_law_sign", "_law_bent"]
theorem cut_to {cs : List Nat} {k : Nat} (h : k ≤ cs.length) : cutS (tx cs) none (some ((k : Nat) : Int)) = tx (cs.take k) := by
  unfold cutS
  rw [HT.sIx_nat, HT.sIx_none, tx_len, tx_list, Nat.min_eq_left h, Nat.sub_zero, List.drop_zero]
  rfl
theorem cut_from {cs : List Nat} {k : Nat} : cutS (tx cs) (some ((k : Nat) : Int)) none = tx (cs.drop k) := by
  unfold cutS
  rw [HT.sIx_nat, HT.sIx_none, tx_len, tx_list]
  by_cases h : k ≤ cs.length
  · rw [Nat.min_eq_left h, List.take_of_length_le (by rw [List.length_drop]; exact Nat.le_refl _)]
    rfl
  · rw [Nat.min_eq_right (by omega), Nat.sub_self, List.take_zero, List.drop_eq_nil_of_le (by omega)]
    rfl
abbrev L15 : List V := [.str ("" : Str), .str ("1" : Str), .str ("w" : Str), .str ("z" : Str), .str ("(" : Str), .str (")" : Str), .str ("^" : Str), .str ("~" : Str), .str ("=" : Str), .str (" " : Str), .str ("a" : Str), .str ("X" : Str), .str ("0" : Str), .str ("*" : Str), .str ("2" : Str)]
theorem pick15 {v : V} (h : v ∈ L15) : ∃ u : List Nat, v = .str (tx u) ∧ Sm u 1 := by
  simp only [List.mem_cons, List.not_mem_nil, or_false] at h
  rcases h with rfl | rfl | rfl | rfl | rfl | rfl | rfl | rfl | rfl | rfl | rfl | rfl | rfl | rfl | rfl
  · exact ⟨[], congrArg V.str (by decide +kernel), by unfold Sm; decide⟩
  · exact ⟨[49], congrArg V.str (by decide +kernel), by unfold Sm; decide⟩
  · exact ⟨[119], congrArg V.str (by decide +kernel), by unfold Sm; decide⟩
  · exact ⟨[122], congrArg V.str (by decide +kernel), by unfold Sm; decide⟩
  · exact ⟨[40], congrArg V.str (by decide +kernel), by unfold Sm; decide⟩
  · exact ⟨[41], congrArg V.str (by decide +kernel), by unfold Sm; decide⟩
  · exact ⟨[94], congrArg V.str (by decide +kernel), by unfold Sm; decide⟩
  · exact ⟨[126], congrArg V.str (by decide +kernel), by unfold Sm; decide⟩
  · exact ⟨[61], congrArg V.str (by decide +kernel), by unfold Sm; decide⟩
  · exact ⟨[32], congrArg V.str (by decide +kernel), by unfold Sm; decide⟩
  · exact ⟨[97], congrArg V.str (by decide +kernel), by unfold Sm; decide⟩
  · exact ⟨[88], congrArg V.str (by decide +kernel), by unfold Sm; decide⟩
  · exact ⟨[48], congrArg V.str (by decide +kernel), by unfold Sm; decide⟩
  · exact ⟨[42], congrArg V.str (by decide +kernel), by unfold Sm; decide⟩
  · exact ⟨[50], congrArg V.str (by decide +kernel), by unfold Sm; decide⟩
section
variable {P : Program} {w : World} {K : PySem.W.Frag} {mg : Str → Option Value} {base : Heap}
theorem scRight : FnScope NR ["_law_source_here"] (defScope s_L_right) := ⟨rfl, rfl, rfl, by decide +kernel, rfl, by decide +kernel, by decide +kernel⟩
theorem ok_right {f : Addr} {fd : FuncData} {q : Str} (F : FunD K "_law_right" q (defArgs s_L_right) (defBody s_L_right) (defScope s_L_right) [] [] f fd) (zn : mg "len" = none) (zr : mg "range" = none)
    (DD : Def P w K mg base CX0 1 "_law_draw" ["_law_source_here", "_law_many"] spDraw) (DP : Def P w K mg base CX0 2 "_law_pick" ["_law_source_here", "_law_some"] spPick)
    (DT : Def P w K mg base CX0 10 "_law_term" ["_law_source_here", "_law_deep"] (spTm 7)) (DF : Def P w K mg base CX0 2 "_law_fault" ["_law_text"] spFault)
    (DS : Def P w K mg base CX0 4 "_law_said" ["_law_text"] (spSaid K)) (DU : Def P w K mg base CX0 3 "_law_due" ["_law_text"] (spDue K)) : FnOk P w K mg base CX0 11 f fd ["_law_source_here"] spRight := by
  refine F.ok scRight (fun vs H Q E h => ?_) (fun cdv A outer s H vs Q E hr h => ?_)
  · obtain ⟨l, n, rfl, _⟩ := h
    rfl
  · obtain ⟨l, n, rfl, src, n1, fin⟩ := h
    have R1 : Room 1 _ := hr.mono (by decide)
    have R2 : Room 2 _ := hr.mono (by decide)
    have R3 : Room 3 _ := hr.mono (by decide)
    have R4 : Room 4 _ := hr.mono (by decide)
    have hu : (A.deeper (envOfC q (defScope s_L_right) s.heap.objs.size f cdv)).units + 64 < cLine := hr.units
    refine ⟨_, PSs.nox (pss_cons (ps_set (i := 1) scRight.nd rfl (.inl rfl) (pe_op op_add_str (pe_op op_add_str (pe_def DT hr pass0 rfl (pa_cons (pv 0) (pa_cons pe_int pa_nil))) pe_str) (pe_def DT hr pass0 rfl (pa_cons (pv 0) (pa_cons pe_int pa_nil)))))
      (pss_cons (ps_if (pt_cmpR op_gt (pe_callB call_len_str rfl zn boot_len (pa_cons (pv 1) pa_nil)) pe_int (nomark _)) (pss_one (ps_ret pe_bl)) pss_nil)
      (pss_cons (ps_if (PW.pt (pw_or (pt_cmpR op_notN (pe_def DF R2 pass0 rfl (pa_cons (pv 1) pa_nil)) pe_non (nomark _)) (pw_or1 (pt_cmpR (op_neD hu) (pe_def DS R4 pass0 rfl (pa_cons (pv 1) pa_nil)) (pe_def DU R3 pass0 rfl (pa_cons (pv 1) pa_nil)) (nomark _))))) (pss_one (ps_ret pe_bl)) pss_nil)
      (pss_cons (ps_for PassesOwn.never rfl (pi_range1 rfl zr (pa_cons pe_int pa_nil)) (pg_name (i := 2) scRight.nd rfl (.inl rfl))
        (pss_cons (ps_set (i := 3) scRight.nd rfl (.inl rfl) (pe_def DD R1 pass0 rfl (pa_cons (pv 0) (pa_cons (pe_op op_add (pe_callB call_len_str rfl zn boot_len (pa_cons (pv 1) pa_nil)) pe_int) pa_nil))))
        (pss_cons (ps_set (i := 4) scRight.nd rfl (.inl rfl) (pe_def DP R2 pass0 rfl (pa_cons (pv 0) (pa_cons (pe_lst (pa_cons pe_str (pa_cons pe_str (pa_cons pe_str (pa_cons pe_str (pa_cons pe_str (pa_cons pe_str (pa_cons pe_str (pa_cons pe_str (pa_cons pe_str (pa_cons pe_str (pa_cons pe_str (pa_cons pe_str (pa_cons pe_str (pa_cons pe_str (pa_cons pe_str pa_nil)))))))))))))))) pa_nil))))
        (pss_cons (ps_set (i := 5) scRight.nd rfl (.inl rfl) (pe_op op_add_str (pe_op op_add_str (pe_slice sl_str (pv 1) po_none (po_some (pv 3))) (pv 4)) (pe_slice sl_str (pv 1) (po_some (pe_op op_add (pv 3) (pe_def DD R1 pass0 rfl (pa_cons (pv 0) (pa_cons pe_int pa_nil))))) po_none)))
        (pss_one (ps_if (PW.pt (pw_or (pt_cmpR (op_neD hu) (pe_def DS R4 pass0 rfl (pa_cons (pv 5) pa_nil)) (pe_def DU R3 pass0 rfl (pa_cons (pv 5) pa_nil)) (nomark _))
            (pw_or1 (pt_cmpR (op_neD hu) (pe_def DS R4 pass0 rfl (pa_cons (pe_slice sl_str (pv 1) po_none (po_some (pv 3))) pa_nil)) (pe_def DU R3 pass0 rfl (pa_cons (pe_slice sl_str (pv 1) po_none (po_some (pv 3))) pa_nil)) (nomark _))))) (pss_one (ps_ret pe_bl)) pss_nil))))))
      (pss_one (ps_ret pe_bl)))))), ?_⟩
    have d6 : Idn.drB 6 = 9836 := by decide
    have l6 : Idn.lenB 6 = 14208 := by decide
    refine ⟨_, rfl, l, n, 6, rfl, by decide, by decide, src, by omega, fun t1 H1 tm1 st1 b1 src1 => ?_⟩
    have q1 := st1.2
    refine ⟨tx t1, tx [61], rfl, congrArg V.str (show ("=" : Str) = tx [61] by decide +kernel), by rw [tx_len, tx_len]; show t1.length + 1 ≤ 16777216; omega, ?_⟩
    refine ⟨_, rfl, l, _, 6, rfl, by decide, by decide, src1, by omega, fun t2 H2 tm2 st2 b2 src2 => ?_⟩
    have q2 := st2.2
    refine ⟨tx t1 ++ tx [61], tx t2, rfl, rfl, by rw [tx_app, tx_len, tx_len, List.length_append]; show t1.length + 1 + t2.length ≤ 16777216; omega, ?_⟩
    rw [tx_app, tx_app]
    have wh := Idn.whole tm1 tm2
    have lt : (t1 ++ [61] ++ t2).length ≤ 100000 := by rw [List.length_append, List.length_append]; show t1.length + 1 + t2.length ≤ _; omega
    have b12 := But.trans b1 b2
    have src3 := src2.up (m := n + 19672) (by omega)
    clear b1 b2 src1 src2 tm1 tm2 st1 st2
    generalize t1 ++ [61] ++ t2 = cs at wh lt ⊢
    refine ⟨_, rfl, tx cs, rfl, by rw [tx_len]; show cs.length ≤ 16777216; omega, _, _, rfl, rfl, _, rfl, ?_⟩
    rw [tx_len]
    by_cases h180 : 180 < cs.length
    · rw [decide_eq_true (show (180 : Int) < ((cs.length : Nat) : Int) by omega)]
      exact ifT rfl (fin _ b12 (src3.up (by omega)))
    rw [decide_eq_false (show ¬ (180 : Int) < ((cs.length : Nat) : Int) by omega)]
    refine ifF rfl ?_
    refine ⟨_, rfl, cs, rfl, lt, fun H3 s3 => ?_⟩
    have ev : vv cs = .non := by
      unfold vv
      rw [wh]
    rw [ev]
    refine ⟨rfl, _, rfl, ifF (by rfl) ?_⟩
    have lz : ∀ (u : List Nat), u.length ≤ 100000 → ∀ z, some (tx u) = some z → z.length ≤ 100000 := fun u hu z e => by cases e; rw [tx_len]; exact hu
    refine ⟨_, rfl, _, _, rfl, .str _, lz cs lt, fun v4 H4 s4 p4 => ?_⟩
    refine ⟨_, rfl, cs, rfl, lt, fun v5 H5 s5 p5 => ?_⟩
    rw [sd_du (by omega)] at p4
    refine ⟨_, _, dp_same s5 p4, p5, du_sh cs, du_sh cs, _, rfl, ?_⟩
    refine ifF (eqv_same (du_sh cs)) ?_
    have b5 := But.trans b12 (But.of ((s3.trans s4).trans s5))
    have src5 := src3.same ((s3.trans s4).trans s5)
    clear b12 s3 s4 s5 p4 p5 src3
    refine ⟨8, rfl, by decide, by decide, ?_⟩
    refine for_range (lo := 0) (n := 8) (fun j σ Hi => ∃ v2 v3 v4 v5 : Option V, σ = [some (.ref l), some (.str (tx cs)), v2, v3, v4, v5] ∧ But l H Hi ∧ Src Hi l (n + 19672 + 3 * j)) ⟨none, none, none, none, rfl, b5, src5⟩ ?_ ?_
    · rintro j σ Hi hj ⟨v2, v3, v4, v5, rfl, bi, si⟩
      refine ⟨_, rfl, _, rfl, tx cs, rfl, by rw [tx_len]; show cs.length ≤ 16777216; omega, _, 1, rfl, rfl, l, _, ((tx cs).length : Int) + 1, rfl, si, by omega, by omega, by rw [tx_len]; omega, fun a H6 a0 a1 b6 src6 => ?_⟩
      rw [tx_len] at a1
      obtain ⟨a, rfl⟩ : ∃ a' : Nat, a = (a' : Nat) := ⟨a.toNat, by omega⟩
      refine ⟨_, rfl, (by show 15 ≤ sizeLine; decide), fun p np => ?_⟩
      have pl := src_ne src6 np
      refine ⟨l, p, _, L15, rfl, src_upd src6 pl, by omega, upd_same, pl, (fun z => nomatch z), (by decide), fun v H7 hv b7 src7 => ?_⟩
      obtain ⟨u, rfl, su⟩ := pick15 hv
      have ul := su.2
      have b67 := But.trans (But.trans bi (but_put b6 np pl)) b7
      clear bi si b6 src6 b7
      have fitC : (tx cs).length ≤ sizeLine := by rw [tx_len]; show cs.length ≤ 16777216; omega
      have al : a ≤ cs.length := by omega
      refine ⟨_, rfl, _, rfl, (a : Nat), rfl, tx cs, rfl, fitC, ?_⟩
      rw [cut_to al]
      refine ⟨_, rfl, tx (cs.take a), tx u, rfl, rfl, by rw [tx_len, tx_len, List.length_take]; show min a cs.length + u.length ≤ 16777216; omega, ?_⟩
      refine ⟨_, rfl, _, rfl, _, rfl, l, _, 2, rfl, src7, by omega, by omega, by omega, fun z H8 z0 z1 b8 src8 => ?_⟩
      obtain ⟨z, rfl⟩ : ∃ z' : Nat, z = (z' : Nat) := ⟨z.toNat, by omega⟩
      refine ⟨_, _, rfl, rfl, ((a : Nat) : Int) + (z : Nat), rfl, tx cs, rfl, fitC, ?_⟩
      have eaz : ((a : Nat) : Int) + (z : Nat) = ((a + z : Nat) : Int) := by omega
      rw [eaz, cut_from]
      refine ⟨tx (cs.take a) ++ tx u, tx (cs.drop (a + z)), rfl, rfl, by rw [tx_app, tx_len, tx_len, List.length_append, List.length_take, List.length_drop]; show min a cs.length + u.length + (cs.length - (a + z)) ≤ 16777216; omega, ?_⟩
      rw [tx_app, tx_app]
      have lb : (cs.take a ++ u ++ cs.drop (a + z)).length ≤ 181 := by
        rw [List.length_append, List.length_append, List.length_take, List.length_drop]
        omega
      have la : (cs.take a).length ≤ 180 := by rw [List.length_take]; omega
      have b78 := But.trans b67 b8
      clear b67 b8 src7
      refine ⟨_, rfl, _, _, rfl, .str _, lz _ (by omega), fun v9 H9 s9 p9 => ?_⟩
      refine ⟨_, rfl, _, rfl, by omega, fun v10 H10 s10 p10 => ?_⟩
      rw [sd_du (by omega)] at p9
      refine ⟨_, _, dp_same s10 p9, p10, du_sh _, du_sh _, _, rfl, ?_⟩
      refine ifF (eqv_same (du_sh _)) ?_
      refine ⟨_, rfl, _, rfl, (a : Nat), rfl, tx cs, rfl, fitC, ?_⟩
      rw [cut_to al]
      refine ⟨_, some (tx (cs.take a)), rfl, .str _, lz _ (by omega), fun v11 H11 s11 p11 => ?_⟩
      refine ⟨_, rfl, _, rfl, (a : Nat), rfl, tx cs, rfl, fitC, ?_⟩
      rw [cut_to al]
      refine ⟨_, rfl, by omega, fun v12 H12 s12 p12 => ?_⟩
      rw [sd_du (by omega)] at p11
      refine ⟨_, _, dp_same s12 p11, p12, du_sh _, du_sh _, _, rfl, ?_⟩
      refine ifF (eqv_same (du_sh _)) ?_
      have s13 := ((s9.trans s10).trans s11).trans s12
      exact ⟨_, _, _, _, rfl, But.trans b78 (But.of s13), (src8.same s13).up (by omega)⟩
    · rintro σ Hi ⟨v2, v3, v4, v5, rfl, bi, si⟩
      exact fin _ bi (si.up (by omega))
end
end K81

set_option Elab.async false
set_option linter.all false
set_option maxRecDepth 100000
set_option maxHeartbeats 8000000
namespace K81
open PySem PySem.Spec PyProof.Rows L2 Lf
abbrev rep (n : Nat) (l : List Nat) : List Nat := (List.replicate n l).flatten
abbrev NG : List Str := ["_law_deep", "_law_odd", "_law_some", "_law_text", "_law_due_here"]
def spLong : Sp := fun vs H Q _ => vs = [] ∧ ∀ H', Q (.bl true) H'
/-- a pair of a text and what is due of it -/
def Gd (K : PySem.W.Frag) (H : Hp) (v : V) : Prop := ∃ (a : Addr) (cs : List Nat) (w : V), v = .ref a ∧ H a = some (.tup [.str (tx cs), w]) ∧ cs.length ≤ 200 ∧ Dp K H w (du cs)
theorem Gd.same {K : PySem.W.Frag} {H H' : Hp} {v : V} (h : Gd K H v) (s : Same H H') : Gd K H' v := by
  obtain ⟨a, cs, w, e, ha, l, d⟩ := h
  exact ⟨a, cs, w, e, s _ _ ha, l, dp_same s d⟩
def GdE (K : PySem.W.Frag) (te : TE) : Prop := ∀ (σ : L2.St) (H : Hp) (Q : VK), (∀ v H', Same H H' → Gd K H' v → Q v H') → te σ H Q
inductive AllE (K : PySem.W.Frag) : List TE → Prop
  | nil : AllE K []
  | cons {te : TE} {l : List TE} (h : GdE K te) (r : AllE K l) : AllE K (te :: l)
theorem els {K : PySem.W.Frag} {tes : List TE} (h : AllE K tes) : ∀ {σ : L2.St} {H : Hp} {R : List V → Hp → Prop}, (∀ vs H', Same H H' → (∀ v ∈ vs, Gd K H' v) → vs.length = tes.length → R vs H') → (tes.foldr tCons tNil) σ H R := by
  induction h with
  | nil => intro σ H R k; exact k [] H (L2.Same.refl _) (fun v hv => nomatch hv) rfl
  | @cons te l h r ih =>
    intro σ H R k
    refine h σ H _ fun v H1 s1 g1 => ?_
    refine ih fun vs H2 s2 g2 n2 => k (v :: vs) H2 (s1.trans s2) (fun u hu => ?_) (by rw [List.length_cons, List.length_cons, n2])
    rcases List.mem_cons.mp hu with rfl | hu
    · exact g1.same s2
    · exact g2 u hu
theorem seq_els {K : PySem.W.Frag} {ta : TA} {tes : List TE} (h : AllE K tes) (e : tes.foldr tCons tNil = ta) (n : tes.length ≤ 1000) {g : TG} {B : TS} {D : Ends} {σ : L2.St} {H : Hp}
    (k : ∀ p vs H', Same H H' → H' p = some (.lst vs) → (∀ v ∈ vs, Gd K H' v) → vs.length = tes.length → g (.ref p) σ H' fun σ' H'' => B D σ' H'') : tSeq (tAsg (tLst ta) g) B D σ H := by
  subst e
  refine els h fun vs H1 s1 g1 n1 => ⟨by rw [n1]; show _ ≤ 16777216; omega, fun p np => ?_⟩
  have s2 := same_upd (o := .lst vs) np
  exact k p vs _ (s1.trans s2) upd_same (fun v hv => (g1 v hv).same s2) n1
theorem cat_els {K : PySem.W.Frag} {ta : TA} {tes : List TE} (h : AllE K tes) (e : tes.foldr tCons tNil = ta) (n : tes.length ≤ 1000) {i : Nat} {g : TG} {B : TS} {D : Ends} {σ : L2.St} {H : Hp} {p0 : Addr} {xs : List V}
    (hs : σ[i]? = some (some (.ref p0))) (hp : H p0 = some (.lst xs)) (gx : ∀ v ∈ xs, Gd K H v) (lx : xs.length ≤ 1000)
    (k : ∀ p vs H', Same H H' → H' p = some (.lst vs) → (∀ v ∈ vs, Gd K H' v) → vs.length = xs.length + tes.length → g (.ref p) σ H' fun σ' H'' => B D σ' H'') : tSeq (tAsg (tOp rCat (tVar i) (tLst ta)) g) B D σ H := by
  subst e
  refine ⟨_, hs, els h fun vs H1 s1 g1 n1 => ⟨by rw [n1]; show _ ≤ 16777216; omega, fun p np => ?_⟩⟩
  have s2 := same_upd (o := .lst vs) np
  have s12 := s1.trans s2
  refine ⟨p0, p, xs, vs, rfl, rfl, s12 _ _ hp, upd_same, by rw [n1]; show xs.length + _ ≤ 16777216; omega, fun p2 np2 => ?_⟩
  have s3 := same_upd (o := .lst (xs ++ vs)) np2
  refine k p2 (xs ++ vs) _ (s12.trans s3) upd_same (fun v hv => ?_) (by rw [List.length_append, n1])
  rcases List.mem_append.mp hv with z | z
  · exact (gx v z).same (s12.trans s3)
  · exact (g1 v z).same (s2.trans s3)
theorem el_int {K : PySem.W.Frag} {s : Str} {i : Int} (cs : List Nat) (e : s = tx cs) (l : cs.length ≤ 200) (d : du cs = .int i) : GdE K (tTup (tCons (tC (.str s)) (tCons (tC (.int i)) tNil))) := fun σ H Q k =>
  ⟨(by show 2 ≤ sizeLine; decide), fun t nt => k _ _ (same_upd nt) ⟨t, cs, .int i, rfl, by rw [upd_same, e], l, by rw [d]; exact .int i⟩⟩
theorem el_nil {K : PySem.W.Frag} {s : Str} (cs : List Nat) (e : s = tx cs) (l : cs.length ≤ 200) (d : du cs = .tuple []) : GdE K (tTup (tCons (tC (.str s)) (tCons (tTup tNil) tNil))) := fun σ H Q k =>
  ⟨(by show 0 ≤ sizeLine; decide), fun a na => ⟨(by show 2 ≤ sizeLine; decide), fun t nt => k _ _ ((same_upd na).trans (same_upd nt)) ⟨t, cs, .ref a, rfl, by rw [upd_same, e], l, by rw [d]; exact .tup (SqT.of (same_upd nt _ _ upd_same)) .nil⟩⟩⟩
theorem el_four {K : PySem.W.Frag} {s p1 p2 p3 p4 : Str} (cs : List Nat) (e : s = tx cs) (l : cs.length ≤ 200) (d : du cs = .tuple [.str p1, .str p2, .str p3, .str p4]) :
    GdE K (tTup (tCons (tC (.str s)) (tCons (tTup (tCons (tC (.str p1)) (tCons (tC (.str p2)) (tCons (tC (.str p3)) (tCons (tC (.str p4)) tNil))))) tNil))) := fun σ H Q k =>
  ⟨(by show 4 ≤ sizeLine; decide), fun a na => ⟨(by show 2 ≤ sizeLine; decide), fun t nt => k _ _ ((same_upd na).trans (same_upd nt)) ⟨t, cs, .ref a, rfl, by rw [upd_same, e], l, by rw [d]; exact .tup (SqT.of (same_upd nt _ _ upd_same)) (.cons (.str _) (.cons (.str _) (.cons (.str _) (.cons (.str _) .nil))))⟩⟩⟩
theorem du_bad {cs : List Nat} {i : Nat} (h : Idn.verdict cs = some i) : du cs = .int (i : Nat) := by
  unfold du
  rw [h]
theorem du_vars {cs vs : List Nat} (h : Idn.verdict cs = none) (e : Idn.vars cs = vs) : du cs = .tuple (vs.map fun c => .str (tx [c])) := by
  unfold du
  rw [h]
  show vs4 cs = _
  unfold vs4
  rw [e]
theorem sd_long {cs : List Nat} (h : 200 < cs.length) : sd (some (tx cs)) = .int (-1) := by
  have er : rd (some (tx cs)) = some (-1) := by
    unfold rd
    dsimp only
    rw [tx_len, if_pos h]
  unfold sd
  rw [er]
theorem neD {K : PySem.W.Frag} {H : Hp} {v w : V} {d : PyData} {Q : VK} (hv : Dp K H v d) (hw : Dp K H w d) (sh : SeqAt.shaped d = true) (k : Q (.bl false) H) : rNeD K v w H Q :=
  ⟨d, d, hv, hw, sh, sh, by rw [eqv_same sh]; exact k⟩
abbrev deep : List Nat := rep 98 [40] ++ [120] ++ rep 98 [41] ++ [61, 49]
abbrev x198 : List Nat := [49, 61] ++ rep 198 [120]
abbrev x199 : List Nat := [49, 61] ++ rep 199 [120]
abbrev z197 : List Nat := [49, 61, 122] ++ rep 197 [94]
theorem d_deep : sd (some (tx deep)) = .tuple [.str (tx [120])] := by
  rw [sd_du (by decide +kernel)]
  exact du_vars (vs := [120]) (by decide +kernel) (by decide +kernel)
theorem d_x198 : sd (some (tx x198)) = .tuple [.str (tx [120])] := by
  rw [sd_du (by decide +kernel)]
  exact du_vars (vs := [120]) (by decide +kernel) (by decide +kernel)
theorem d_x199 : sd (some (tx x199)) = .int (-1) := sd_long (by decide +kernel)
theorem d_200 : sd (some (tx (rep 200 [40]))) = .int 200 := by
  rw [sd_du (by decide +kernel)]
  exact du_bad (i := 200) (by decide +kernel)
theorem d_201 : sd (some (tx (rep 201 [40]))) = .int (-1) := sd_long (by decide +kernel)
theorem d_z197 : sd (some (tx z197)) = .tuple [.str (tx [122])] := by
  rw [sd_du (by decide +kernel)]
  exact du_vars (vs := [122]) (by decide +kernel) (by decide +kernel)
theorem one_sh (c : Nat) (h : c < 128) : SeqAt.shaped (.tuple [.str (tx [c])]) = true := by
  have := vars_shape (l := [c]) (fun d hd => by rw [List.mem_singleton.mp hd]; exact h)
  unfold SeqAt.shaped
  simp only [List.map_cons, List.map_nil] at this
  simp [PyData.canLay0, PyData.depth, this.1, this.2]
theorem w1 : tx [119] = ("w" : Str) := by decide +kernel
theorem w2 : tx [120] = ("x" : Str) := by decide +kernel
theorem w3 : tx [121] = ("y" : Str) := by decide +kernel
theorem w4 : tx [122] = ("z" : Str) := by decide +kernel
abbrev gDue (K : PySem.W.Frag) : TG := gTup K 2 (gCons (gName 3) (gCons (gName 4) gNil))
abbrev ttDue (K : PySem.W.Frag) : TT := tTest (tOp (rNeD K) (fun σ H Q => (tCons (tVar 3) tNil) σ H fun vs H1 => spSaid K vs H1 Q E0) (tVar 4))
abbrev tes1 : List TE := [tTup (tCons (tC (.str ("1=1" : Str))) (tCons (tTup tNil) tNil)), tTup (tCons (tC (.str ("(1)^=(1)~" : Str))) (tCons (tTup tNil) tNil)), tTup (tCons (tC (.str ("zw=xy" : Str))) (tCons (tTup (tCons (tC (.str ("w" : Str))) (tCons (tC (.str ("x" : Str))) (tCons (tC (.str ("y" : Str))) (tCons (tC (.str ("z" : Str))) tNil))))) tNil)), tTup (tCons (tC (.str ("" : Str))) (tCons (tC (.int 0)) tNil)), tTup (tCons (tC (.str ("=" : Str))) (tCons (tC (.int 0)) tNil)), tTup (tCons (tC (.str ("x=" : Str))) (tCons (tC (.int 2)) tNil)), tTup (tCons (tC (.str ("x" : Str))) (tCons (tC (.int 1)) tNil))]
abbrev tes2 : List TE := [tTup (tCons (tC (.str ("1x=x" : Str))) (tCons (tC (.int 1)) tNil)), tTup (tCons (tC (.str ("x1=x" : Str))) (tCons (tC (.int 1)) tNil)), tTup (tCons (tC (.str ("x==x" : Str))) (tCons (tC (.int 2)) tNil)), tTup (tCons (tC (.str ("x=x=x" : Str))) (tCons (tC (.int 3)) tNil)), tTup (tCons (tC (.str ("()=1" : Str))) (tCons (tC (.int 1)) tNil)), tTup (tCons (tC (.str ("^x=x" : Str))) (tCons (tC (.int 0)) tNil)), tTup (tCons (tC (.str ("x=1^" : Str))) (tCons (tC (.int 3)) tNil))]
abbrev tes3 : List TE := [tTup (tCons (tC (.str ("(x=x)" : Str))) (tCons (tC (.int 2)) tNil)), tTup (tCons (tC (.str ("x)=x" : Str))) (tCons (tC (.int 1)) tNil)), tTup (tCons (tC (.str ("(x=x" : Str))) (tCons (tC (.int 2)) tNil)), tTup (tCons (tC (.str ("x = x" : Str))) (tCons (tC (.int 1)) tNil)), tTup (tCons (tC (.str ("x=x " : Str))) (tCons (tC (.int 3)) tNil)), tTup (tCons (tC (.str ("(1x)=x" : Str))) (tCons (tC (.int 2)) tNil))]
theorem e_deep : sd (some (tx deep)) = .tuple [.str ("x" : Str)] := d_deep.trans (by rw [w2])
theorem e_x198 : sd (some (tx x198)) = .tuple [.str ("x" : Str)] := d_x198.trans (by rw [w2])
theorem e_z197 : sd (some (tx z197)) = .tuple [.str ("z" : Str)] := d_z197.trans (by rw [w4])
theorem x_sh : SeqAt.shaped (.tuple [.str ("x" : Str)]) = true := by rw [← w2]; exact one_sh 120 (by decide)
theorem z_sh : SeqAt.shaped (.tuple [.str ("z" : Str)]) = true := by rw [← w4]; exact one_sh 122 (by decide)
theorem sd_none : sd none = .int (-1) := rfl
theorem oddG {K : PySem.W.Frag} {H : Hp} {a b c d : Addr} {x1 x2 x3 : List V} (ha : H a = some (.lst x1)) (hb : H b = some (.tup x2)) (hd : H d = some (.dK [])) (hc : H c = some (.lst x3)) : ∀ v ∈ [V.non, .int 5, .ref a, .ref b, .bl true, .ref d, .ref c], TxtK K H v none := by
  intro v hv
  simp only [List.mem_cons, List.not_mem_nil, or_false] at hv
  rcases hv with rfl | rfl | rfl | rfl | rfl | rfl | rfl
  · exact .oth (.base .non) (show kitB "NoneType" "str" = some false by decide +kernel)
  · exact .oth (.base (.int _)) (show kitB "int" "str" = some false by decide +kernel)
  · exact .oth (.base (.lst ha)) (show kitB "list" "str" = some false by decide +kernel)
  · exact .oth (.base (.tup hb)) (show kitB "tuple" "str" = some false by decide +kernel)
  · exact .oth (.base (.bl _)) (show kitB "bool" "str" = some false by decide +kernel)
  · exact .oth (.base (.dK hd)) (show kitB "dict" "str" = some false by decide +kernel)
  · exact .oth (.base (.lst hc)) (show kitB "list" "str" = some false by decide +kernel)
section
variable {P : Program} {w : World} {K : PySem.W.Frag} {mg : Str → Option Value} {base : Heap}
theorem scLong : FnScope NG [] (defScope s_L_long_right) := ⟨rfl, rfl, rfl, by decide +kernel, rfl, by decide +kernel, by decide +kernel⟩
theorem all1 : AllE K tes1 := (.cons (el_nil [49, 61, 49] (by decide +kernel) (by decide) (du_vars (vs := []) (by decide +kernel) (by decide +kernel))) (.cons (el_nil [40, 49, 41, 94, 61, 40, 49, 41, 126] (by decide +kernel) (by decide) (du_vars (vs := []) (by decide +kernel) (by decide +kernel))) (.cons (el_four [122, 119, 61, 120, 121] (by decide +kernel) (by decide) ((du_vars (vs := [119, 120, 121, 122]) (by decide +kernel) (by decide +kernel)).trans (congrArg PyData.tuple (by rw [List.map_cons, List.map_cons, List.map_cons, List.map_cons, List.map_nil, w1, w2, w3, w4])))) (.cons (el_int [] (by decide +kernel) (by decide) (du_bad (i := 0) (by decide +kernel))) (.cons (el_int [61] (by decide +kernel) (by decide) (du_bad (i := 0) (by decide +kernel))) (.cons (el_int [120, 61] (by decide +kernel) (by decide) (du_bad (i := 2) (by decide +kernel))) (.cons (el_int [120] (by decide +kernel) (by decide) (du_bad (i := 1) (by decide +kernel))) .nil)))))))
theorem all2 : AllE K tes2 := (.cons (el_int [49, 120, 61, 120] (by decide +kernel) (by decide) (du_bad (i := 1) (by decide +kernel))) (.cons (el_int [120, 49, 61, 120] (by decide +kernel) (by decide) (du_bad (i := 1) (by decide +kernel))) (.cons (el_int [120, 61, 61, 120] (by decide +kernel) (by decide) (du_bad (i := 2) (by decide +kernel))) (.cons (el_int [120, 61, 120, 61, 120] (by decide +kernel) (by decide) (du_bad (i := 3) (by decide +kernel))) (.cons (el_int [40, 41, 61, 49] (by decide +kernel) (by decide) (du_bad (i := 1) (by decide +kernel))) (.cons (el_int [94, 120, 61, 120] (by decide +kernel) (by decide) (du_bad (i := 0) (by decide +kernel))) (.cons (el_int [120, 61, 49, 94] (by decide +kernel) (by decide) (du_bad (i := 3) (by decide +kernel))) .nil)))))))
theorem all3 : AllE K tes3 := (.cons (el_int [40, 120, 61, 120, 41] (by decide +kernel) (by decide) (du_bad (i := 2) (by decide +kernel))) (.cons (el_int [120, 41, 61, 120] (by decide +kernel) (by decide) (du_bad (i := 1) (by decide +kernel))) (.cons (el_int [40, 120, 61, 120] (by decide +kernel) (by decide) (du_bad (i := 2) (by decide +kernel))) (.cons (el_int [120, 32, 61, 32, 120] (by decide +kernel) (by decide) (du_bad (i := 1) (by decide +kernel))) (.cons (el_int [120, 61, 120, 32] (by decide +kernel) (by decide) (du_bad (i := 3) (by decide +kernel))) (.cons (el_int [40, 49, 120, 41, 61, 120] (by decide +kernel) (by decide) (du_bad (i := 2) (by decide +kernel))) .nil))))))
theorem ok_long {f : Addr} {fd : FuncData} {q : Str} (F : FunD K "_law_long_right" q (defArgs s_L_long_right) (defBody s_L_long_right) (defScope s_L_long_right) [] [] f fd) (DS : Def P w K mg base CX0 4 "_law_said" ["_law_text"] (spSaid K)) : FnOk P w K mg base CX0 5 f fd [] spLong := by
  refine F.ok scLong (fun vs H Q E h => ?_) (fun cdv A outer s H vs Q E hr h => ?_)
  · obtain ⟨rfl, _⟩ := h
    rfl
  · obtain ⟨rfl, fin⟩ := h
    have hu : (A.deeper (envOfC q (defScope s_L_long_right) s.heap.objs.size f cdv)).units + 64 < cLine := hr.units
    refine ⟨_, PSs.nox (pss_cons (ps_set (i := 0) scLong.nd rfl (.inl rfl) (pe_op op_add_str (pe_op op_add_str (pe_op op_add_str (pe_op op_mul_str pe_str pe_int) pe_str) (pe_op op_mul_str pe_str pe_int)) pe_str))
      (pss_cons (ps_if (PW.pt (pw_or (pt_cmpR (op_neD hu) (pe_def DS hr pass0 rfl (pa_cons (pv 0) pa_nil)) (pe_tup (pa_cons pe_str pa_nil)) (nomark _)) (pw_or (pt_cmpR (op_neD hu) (pe_def DS hr pass0 rfl (pa_cons (pe_op op_add_str pe_str (pe_op op_mul_str pe_str pe_int)) pa_nil)) (pe_tup (pa_cons pe_str pa_nil)) (nomark _)) (pw_or1 (pt_cmpR (op_neD hu) (pe_def DS hr pass0 rfl (pa_cons (pe_op op_add_str pe_str (pe_op op_mul_str pe_str pe_int)) pa_nil)) (pe_un un_neg pe_int) (nomark _)))))) (pss_one (ps_ret pe_bl)) pss_nil)
      (pss_cons (ps_if (PW.pt (pw_or (pt_cmpR (op_neD hu) (pe_def DS hr pass0 rfl (pa_cons (pe_op op_mul_str pe_str pe_int) pa_nil)) pe_int (nomark _)) (pw_or (pt_cmpR (op_neD hu) (pe_def DS hr pass0 rfl (pa_cons (pe_op op_mul_str pe_str pe_int) pa_nil)) (pe_un un_neg pe_int) (nomark _)) (pw_or1 (pt_cmpR (op_neD hu) (pe_def DS hr pass0 rfl (pa_cons (pe_op op_add_str pe_str (pe_op op_mul_str pe_str pe_int)) pa_nil)) (pe_tup (pa_cons pe_str pa_nil)) (nomark _)))))) (pss_one (ps_ret pe_bl)) pss_nil)
      (pss_cons (ps_for PassesOwn.never rfl (pi_tup (pe_tup (pa_cons pe_non (pa_cons pe_int (pa_cons (pe_lst (pa_cons pe_str pa_nil)) (pa_cons (pe_tup (pa_cons pe_str (pa_cons pe_str pa_nil))) (pa_cons pe_bl (pa_cons pe_dnewK (pa_cons (pe_lst (pa_cons pe_int pa_nil)) pa_nil))))))))) (pg_name (i := 1) scLong.nd rfl (.inl rfl))
        (pss_one (ps_if (pt_cmpR (op_neD hu) (pe_def DS hr pass0 rfl (pa_cons (pv 1) pa_nil)) (pe_un un_neg pe_int) (nomark _)) (pss_one (ps_ret pe_bl)) pss_nil)))
      (pss_cons (ps_set (i := 2) scLong.nd rfl (.inl rfl) (pe_lst (pa_cons (pe_tup (pa_cons pe_str (pa_cons (pe_tup pa_nil) pa_nil))) (pa_cons (pe_tup (pa_cons pe_str (pa_cons (pe_tup pa_nil) pa_nil))) (pa_cons (pe_tup (pa_cons pe_str (pa_cons (pe_tup (pa_cons pe_str (pa_cons pe_str (pa_cons pe_str (pa_cons pe_str pa_nil))))) pa_nil))) (pa_cons (pe_tup (pa_cons pe_str (pa_cons pe_int pa_nil))) (pa_cons (pe_tup (pa_cons pe_str (pa_cons pe_int pa_nil))) (pa_cons (pe_tup (pa_cons pe_str (pa_cons pe_int pa_nil))) (pa_cons (pe_tup (pa_cons pe_str (pa_cons pe_int pa_nil))) pa_nil)))))))))
      (pss_cons (ps_set (i := 2) scLong.nd rfl (.inl rfl) (pe_op op_cat (pv 2) (pe_lst (pa_cons (pe_tup (pa_cons pe_str (pa_cons pe_int pa_nil))) (pa_cons (pe_tup (pa_cons pe_str (pa_cons pe_int pa_nil))) (pa_cons (pe_tup (pa_cons pe_str (pa_cons pe_int pa_nil))) (pa_cons (pe_tup (pa_cons pe_str (pa_cons pe_int pa_nil))) (pa_cons (pe_tup (pa_cons pe_str (pa_cons pe_int pa_nil))) (pa_cons (pe_tup (pa_cons pe_str (pa_cons pe_int pa_nil))) (pa_cons (pe_tup (pa_cons pe_str (pa_cons pe_int pa_nil))) pa_nil))))))))))
      (pss_cons (ps_set (i := 2) scLong.nd rfl (.inl rfl) (pe_op op_cat (pv 2) (pe_lst (pa_cons (pe_tup (pa_cons pe_str (pa_cons pe_int pa_nil))) (pa_cons (pe_tup (pa_cons pe_str (pa_cons pe_int pa_nil))) (pa_cons (pe_tup (pa_cons pe_str (pa_cons pe_int pa_nil))) (pa_cons (pe_tup (pa_cons pe_str (pa_cons pe_int pa_nil))) (pa_cons (pe_tup (pa_cons pe_str (pa_cons pe_int pa_nil))) (pa_cons (pe_tup (pa_cons pe_str (pa_cons pe_int pa_nil))) pa_nil)))))))))
      (pss_one (ps_ret (pe_cmpR (op_eqD hu) (pe_lc (own := [("_law_text", 3), ("_law_due_here", 4)]) (g := gDue K) (tt := ttDue K) (te := tVar 3) (by rfl) scLong.nd (pi_list (pv 2)) (blkOk_by (own := [("_law_text", 3), ("_law_due_here", 4)]) (N := NG) (sc := defScope s_L_long_right) (by decide +kernel)) (fun _ _ _ _ _ => by exact pg_tup rfl (pgs_cons (pg_name (i := 3) scLong.nd rfl (.inl rfl)) (pgs_cons (pg_name (i := 4) scLong.nd rfl (.inl rfl)) pgs_nil))) (fun _ _ _ _ _ => by exact pts_one (pt_cmpR (op_neD hu) (pe_def DS hr pass0 rfl (pa_cons (pv 3) pa_nil)) (pv 4) (nomark _))) (fun _ _ _ _ _ => pv 3)) (pe_lst pa_nil) (nomark _))))))))))), ?_⟩
    have q40 : V.str ("(" : Str) = V.str (tx [40]) := congrArg V.str (by decide +kernel)
    have q41 : V.str (")" : Str) = V.str (tx [41]) := congrArg V.str (by decide +kernel)
    have q120 : V.str ("x" : Str) = V.str (tx [120]) := congrArg V.str (by decide +kernel)
    have q94 : V.str ("^" : Str) = V.str (tx [94]) := congrArg V.str (by decide +kernel)
    have qe1 : V.str ("=1" : Str) = V.str (tx [61, 49]) := congrArg V.str (by decide +kernel)
    have q1e : V.str ("1=" : Str) = V.str (tx [49, 61]) := congrArg V.str (by decide +kernel)
    have q1z : V.str ("1=z" : Str) = V.str (tx [49, 61, 122]) := congrArg V.str (by decide +kernel)
    have lz : ∀ {u : List Nat}, u.length ≤ 100000 → ∀ z, some (tx u) = some z → z.length ≤ 100000 := fun {u} hu z e => by cases e; rw [tx_len]; exact hu
    refine ⟨[40], 98, q40, rfl, by decide, by decide, by decide, by decide, tx (rep 98 [40]), tx [120], rfl, q120, by decide +kernel, [41], 98, q41, rfl, by decide, by decide, by decide, by decide, tx (rep 98 [40]) ++ tx [120], tx (rep 98 [41]), rfl, rfl, by decide +kernel, tx (rep 98 [40]) ++ tx [120] ++ tx (rep 98 [41]), tx [61, 49], rfl, qe1, by decide +kernel, ?_⟩
    rw [tx_app, tx_app, tx_app]
    refine ⟨_, rfl, _, some (tx deep), rfl, .str _, lz (by decide +kernel), fun v1 H1 s1 p1 => ⟨(by show 1 ≤ sizeLine; decide), fun t1 n1 => ?_⟩⟩
    rw [e_deep] at p1
    refine neD (dp_same (same_upd n1) p1) (.tup (SqT.of upd_same) (.cons (.str _) .nil)) x_sh ⟨_, rfl, ifF rfl ?_⟩
    refine ⟨[120], 198, q120, rfl, by decide, by decide, by decide, by decide, tx [49, 61], tx (rep 198 [120]), q1e, rfl, by decide +kernel, ?_⟩
    rw [tx_app]
    refine ⟨_, some (tx x198), rfl, .str _, lz (by decide +kernel), fun v2 H2 s2 p2 => ⟨(by show 1 ≤ sizeLine; decide), fun t2 n2 => ?_⟩⟩
    rw [e_x198] at p2
    refine neD (dp_same (same_upd n2) p2) (.tup (SqT.of upd_same) (.cons (.str _) .nil)) x_sh ⟨_, rfl, ifF rfl ?_⟩
    refine ⟨[120], 199, q120, rfl, by decide, by decide, by decide, by decide, tx [49, 61], tx (rep 199 [120]), q1e, rfl, by decide +kernel, ?_⟩
    rw [tx_app]
    refine ⟨_, some (tx x199), rfl, .str _, lz (by decide +kernel), fun v3 H3 s3 p3 => ⟨1, rfl, ?_⟩⟩
    rw [d_x199] at p3
    refine neD p3 (.int _) rfl ⟨_, rfl, ifF rfl ?_⟩
    refine ⟨[40], 200, q40, rfl, by decide, by decide, by decide, by decide, _, some (tx (rep 200 [40])), rfl, .str _, lz (by decide +kernel), fun v4 H4 s4 p4 => ?_⟩
    rw [d_200] at p4
    refine ⟨_, _, p4, .int _, rfl, rfl, _, rfl, ?_⟩
    refine ifF (eqv_same (d := .int 200) rfl) ?_
    refine ⟨[40], 201, q40, rfl, by decide, by decide, by decide, by decide, _, some (tx (rep 201 [40])), rfl, .str _, lz (by decide +kernel), fun v5 H5 s5 p5 => ⟨1, rfl, ?_⟩⟩
    rw [d_201] at p5
    refine neD p5 (.int _) rfl ⟨_, rfl, ifF rfl ?_⟩
    refine ⟨[94], 197, q94, rfl, by decide, by decide, by decide, by decide, tx [49, 61, 122], tx (rep 197 [94]), q1z, rfl, by decide +kernel, ?_⟩
    rw [tx_app]
    refine ⟨_, some (tx z197), rfl, .str _, lz (by decide +kernel), fun v6 H6 s6 p6 => ⟨(by show 1 ≤ sizeLine; decide), fun t6 n6 => ?_⟩⟩
    rw [e_z197] at p6
    refine neD (Q := _) (dp_same (same_upd n6) p6) (.tup (SqT.of upd_same) (.cons (.str _) .nil)) z_sh ⟨_, rfl, ifF rfl ?_⟩
    generalize L2.upd H6 t6 _ = H7
    clear s1 s2 s3 s4 s5 s6 p1 p2 p3 p4 p5 p6 n1 n2 n6
    refine ⟨(by show 1 ≤ sizeLine; decide), fun a na => ⟨(by show 2 ≤ sizeLine; decide), fun b nb => fun d nd => ⟨(by show 1 ≤ sizeLine; decide), fun c nc => ⟨(by show 7 ≤ sizeLine; decide), fun t nt => ⟨t, rfl, ⟨_, SqT.of upd_same⟩, ?_⟩⟩⟩⟩⟩
    have f5 := same_upd (o := .tup [V.non, .int 5, .ref a, .ref b, .bl true, .ref d, .ref c]) nt
    have f4 := (same_upd (o := .lst [.int 1]) nc).trans f5
    have f3 := (same_upd (o := .dK []) nd).trans f4
    have f2 := (same_upd (o := .tup [.str ("x" : Str), .str ("x" : Str)]) nb).trans f3
    have hc := f5 _ _ (show L2.upd _ c (.lst [.int 1]) c = some (.lst [.int 1]) from upd_same)
    have hd := f4 _ _ (show L2.upd _ d (.dK []) d = some (.dK []) from upd_same)
    have hb := f3 _ _ (show L2.upd _ b (.tup [.str ("x" : Str), .str ("x" : Str)]) b = some (.tup [.str ("x" : Str), .str ("x" : Str)]) from upd_same)
    have ha := f2 _ _ (show L2.upd _ a (.lst [.str ("x=x" : Str)]) a = some (.lst [.str ("x=x" : Str)]) from upd_same)
    have ht : L2.upd (L2.upd (L2.upd (L2.upd (L2.upd H7 a (.lst [.str ("x=x" : Str)])) b (.tup [.str ("x" : Str), .str ("x" : Str)])) d (.dK [])) c (.lst [.int 1])) t (.tup [V.non, .int 5, .ref a, .ref b, .bl true, .ref d, .ref c]) t = some (.tup [V.non, .int 5, .ref a, .ref b, .bl true, .ref d, .ref c]) := upd_same
    generalize L2.upd (L2.upd (L2.upd (L2.upd (L2.upd H7 a (.lst [.str ("x=x" : Str)])) b (.tup [.str ("x" : Str), .str ("x" : Str)])) d (.dK [])) c (.lst [.int 1])) t (.tup [V.non, .int 5, .ref a, .ref b, .bl true, .ref d, .ref c]) = H8 at ha hb hc hd ht ⊢
    clear f5 f4 f3 f2
    refine for_it (walk_tup (K := K) (a := t) (xs := [V.non, .int 5, .ref a, .ref b, .bl true, .ref d, .ref c])) (fun i σ Hi => ∃ (v0 v1 : Option V), σ = [v0, v1, none, none, none] ∧ Same H8 Hi) ⟨_, none, rfl, L2.Same.refl _⟩ (fun i σ Hi _ ⟨_, _, _, e⟩ => SqT.of (e _ _ ht)) ?_ ?_
    · rintro i y σ Hj H' hi ⟨v0, v1, rfl, ej⟩ ⟨rfl, hy⟩
      have tk := (oddG (K := K) ha hb hd hc y (List.mem_of_getElem? hy)).same ej
      refine ⟨_, rfl, _, none, rfl, tk, (fun z e => nomatch e), fun v9 H9 s9 p9 => ⟨1, rfl, ?_⟩⟩
      refine neD p9 (.int _) rfl ⟨_, rfl, ifF rfl ⟨_, _, rfl, ej.trans s9⟩⟩
    · rintro σ Hj ⟨v0, v1, rfl, ej⟩
      clear ej ha hb hc hd ht
      refine seq_els (K := K) all1 rfl (by decide) fun p1 vs1 H10 s10 h10 g10 n10 => ?_
      refine cat_els (K := K) (i := 2) all2 rfl (by decide) rfl h10 g10 (by rw [n10]; decide) fun p2 vs2 H11 s11 h11 g11 n11 => ?_
      refine cat_els (K := K) (i := 2) all3 rfl (by decide) rfl h11 g11 (by rw [n11, n10]; decide) fun p3 vs3 H12 s12 h12 g12 n12 => ?_
      clear h10 g10 h11 g11 s10 s11 s12
      refine ⟨_, rfl, p3, rfl, ⟨_, SqL.of h12⟩, fun D nD => ?_⟩
      have Dp3 : p3 ≠ D := fun z => by rw [z, nD] at h12; cases h12
      refine lc_it (walk_list (K := K) (a := p3) (xs := vs3)) (fun j Hd => But D H12 Hd ∧ Hd D = some (.lst [])) ⟨But.upd, upd_same⟩ (fun _ Hd _ ⟨bd, _⟩ => SqL.of (bd _ _ Dp3 h12)) (fun j y Hd H' hj ⟨bd, hD⟩ ⟨e', hy⟩ => ?_) (fun Hd ⟨bd, hD⟩ => ?_)
      · subst e'
        have sd12 := Same.but (L2.Same.refl H12) nD bd
        obtain ⟨a, cs, w, rfl, ha, l, dw⟩ := (g12 y (List.mem_of_getElem? hy)).same sd12
        refine ⟨a, _, rfl, SqT.of ha, rfl, _, _, rfl, _, _, rfl, rfl, ?_⟩
        refine ⟨rfl, _, rfl, _, some (tx cs), rfl, .str _, lz (by omega), fun v9 H9 s9 p9 => ⟨_, rfl, ?_⟩⟩
        rw [sd_du l] at p9
        refine neD p9 (dp_same s9 dw) (du_sh cs) ⟨_, rfl, ?_⟩
        exact ifF rfl ⟨But.trans bd (But.of s9), s9 _ _ hD⟩
      · refine ⟨(by show 0 ≤ sizeLine; decide), fun q nq => ?_⟩
        refine ⟨_, _, .lst (SqL.of (same_upd nq _ _ hD)) .nil, .lst (SqL.of upd_same) .nil, rfl, rfl, ?_⟩
        rw [SeqAt.eqv_refl (.list []) rfl]
        exact fin _
end
end K81

set_option Elab.async false
set_option linter.all false
set_option maxRecDepth 100000
set_option maxHeartbeats 8000000
namespace K81
open PySem PySem.Spec PyProof.Rows L2 Lf
def spLaw (K : PySem.W.Frag) : Sp := fun vs H Q _ => ∃ (a : Addr) (ns : List Int), vs = [.ref a] ∧ SqL K H a (ns.map V.int) ∧ ns.length ≤ 63 ∧ ∀ H', Q (.bl true) H'
section
variable {P : Program} {w : World} {K : PySem.W.Frag} {mg : Str → Option Value} {base : Heap}
theorem scLaw : FnScope ["_law_script", "_law_cell", "_law_source_here", "_law_turn"] ["_law_script"] (defScope s_law) := ⟨rfl, rfl, rfl, by decide +kernel, rfl, by decide +kernel, by decide +kernel⟩
theorem ok_law0 {f : Addr} {fd : FuncData} {q : Str} (F : FunD K "law" q (defArgs s_law) (defBody s_law) (defScope s_law) [] [] f fd) (zr : mg "range" = none)
    (DS : Def P w K mg base CX0 1 "_law_source" ["_law_cell"] spSource) (DR : Def P w K mg base CX0 11 "_law_right" ["_law_source_here"] spRight) (DL : Def P w K mg base CX0 5 "_law_long_right" [] spLong) :
    FnOk P w K mg base CX0 12 f fd ["_law_script"] (spLaw K) := by
  refine F.ok scLaw (fun vs H Q E h => ?_) (fun cdv A outer s H vs Q E hr h => ?_)
  · obtain ⟨a, ns, rfl, _⟩ := h
    rfl
  · obtain ⟨a, ns, rfl, hS, hlen, fin⟩ := h
    have R1 : Room 1 _ := hr.mono (by decide)
    have R5 : Room 5 _ := hr.mono (by decide)
    refine ⟨_, PSs.nox (pss_cons (ps_for PassesOwn.never rfl (pi_list (pe_slice sl_list (pe_op op_catL (pv 0) (pe_lst (pa_cons pe_int pa_nil))) po_none (po_some pe_int))) (pg_name (i := 1) scLaw.nd rfl (.inl rfl))
        (pss_cons (ps_set (i := 2) scLaw.nd rfl (.inl rfl) (pe_def DS R1 pass0 rfl (pa_cons (pv 1) pa_nil)))
        (pss_one (ps_for PassesOwn.never rfl (pi_range1 rfl zr (pa_cons pe_int pa_nil)) (pg_name (i := 3) scLaw.nd rfl (.inl rfl))
          (pss_one (ps_if (pt_not (pt_val (pe_def DR hr pass0 rfl (pa_cons (pv 2) pa_nil)))) (pss_one (ps_ret pe_bl)) pss_nil))))))
      (pss_one (ps_ret (pe_def0 DL R5 pass0 rfl)))), ?_⟩
    refine ⟨_, rfl, (by show 1 ≤ sizeLine; decide), fun z hz => ⟨a, z, _, _, rfl, rfl, L2.Same.seq (same_upd hz) hS, SqL.of upd_same, ?_, fun l0 h0 => ?_⟩⟩
    · rw [List.length_map]
      show ns.length + 1 ≤ 16777216
      omega
    refine ⟨4, rfl, l0, _, rfl, SqL.of upd_same, fun l1 h1 => ⟨l1, rfl, ⟨_, SqL.of upd_same⟩, ?_⟩⟩
    generalize hHs : L2.upd (L2.upd (L2.upd H z _) l0 _) l1 _ = Hs
    have at1 : Hs l1 = some (.lst (cutV (ns.map V.int ++ [.int 0]) none (some 4))) := by rw [← hHs]; exact upd_same
    clear hHs
    refine for_list (K := K) (a := l1) (xs := cutV (ns.map V.int ++ [.int 0]) none (some 4)) (fun i σ H' => ∃ v1 v2 v3 : Option V, σ = [some (.ref a), v1, v2, v3] ∧ Same Hs H')
      ⟨none, none, none, rfl, L2.Same.refl _⟩ (fun i σ H' _ ⟨_, _, _, _, e⟩ => SqL.of (e _ _ at1)) ?_ (fun σ H' _ => ?_)
    · rintro i y σ H1 hi ⟨v1, v2, v3, rfl, e1⟩
      obtain ⟨n, rfl⟩ : ∃ n, y = V.int n := by
        have hm := List.mem_of_getElem? hi
        have hm2 := List.mem_of_mem_drop (List.mem_of_mem_take hm)
        rcases List.mem_append.mp hm2 with q | q
        · obtain ⟨n, _, e⟩ := List.mem_map.mp q
          exact ⟨n, e.symm⟩
        · exact ⟨0, List.mem_singleton.mp q⟩
      refine ⟨_, rfl, n, rfl, fun l H2 nl s2 src2 => ?_⟩
      have e2 : Same Hs H2 := e1.trans s2
      have off : ∀ b o, Hs b = some o → b ≠ l := fun b o h => ne_of_none (e1 _ _ h) nl
      refine ⟨8, rfl, by decide, by decide, ?_⟩
      refine for_range (lo := 0) (n := 8) (fun j σ H' => ∃ v3 : Option V, σ = [some (.ref a), some (.int n), some (.ref l), v3] ∧ Same Hs H' ∧ Src H' l (20000 * j)) ⟨v3, rfl, e2, src2⟩ (fun j σ H3 hj ⟨v3, eσ, e3, src3⟩ => ?_) (fun σ H3 ⟨v3, eσ, e3, src3⟩ => ?_)
      · subst eσ
        refine ⟨_, rfl, l, 20000 * j, rfl, src3, by omega, fun H5 b5 src5 => ?_⟩
        refine ⟨_, rfl, ifF rfl ⟨_, rfl, fun b o e => b5 _ _ (off b o e) (e3 _ _ e), src5.up (by omega)⟩⟩
      · subst eσ
        exact ⟨_, _, _, rfl, e3⟩
    · exact ⟨rfl, fin⟩
theorem ok_law {f : Addr} {fd : FuncData} (F : FnOk P w K mg base CX0 12 f fd ["_law_script"] (spLaw K)) : FnG P w K mg base CX0 12 f fd ["_law_script"] (spLaw K) := ⟨F.len, fun A outer s H args us vs Q E _ => F.run A outer s H args us vs Q E⟩
end
end K81

set_option Elab.async false
set_option linter.all false
set_option maxRecDepth 100000
set_option maxHeartbeats 4000000
/-! A head by three kernel runs: the looks, the view, the facts; the facts over the objects at the addresses as. -/
namespace Lf
open PySem PySem.W PySem.Calls PyProof.Rows
/-- classes, dicts, functions and the rest, in this order -/
def isCl : Obj → Bool
  | ⟨_, _, .cls _, _⟩ => true
  | _ => false
def isDi : Obj → Bool
  | ⟨_, _, .dict _ _, _⟩ => true
  | _ => false
def isFu : Obj → Bool
  | ⟨_, _, .func _, _⟩ => true
  | _ => false
def isFi : Obj → Bool
  | ⟨_, _, .fields vs, _⟩ => !vs.isEmpty
  | _ => false
/-- tuples: the defaults of defs -/
def isTu : Obj → Bool
  | ⟨.type "tuple", _, .seq _ _, _⟩ => true
  | _ => false
def sorted4 (l : Frag) : Frag := l.filter (fun q => isCl q.2) ++ (l.filter (fun q => isDi q.2) ++ (l.filter (fun q => isFu q.2) ++ (l.filter (fun q => isFi q.2) ++ l.filter fun q => isTu q.2)))
theorem sorted4_sub {l : Frag} {q : Addr × Obj} (h : q ∈ sorted4 l) : q ∈ l := by
  unfold sorted4 at h
  simp only [List.mem_append, List.mem_filter] at h
  rcases h with h | h | h | h | h <;> exact h.1
def frR (g : Addr → Option Obj) (as : List Addr) : Frag := sorted4 (He.frG g as)
theorem frR_in {as : List Addr} {h : Heap} : (frR h.get? as).In h := fun _ _ e => He.frG_mem (sorted4_sub (He.lookup_mem e))
theorem frR_none {g : Addr → Option Obj} {as : List Addr} {a : Addr} {o : Obj} (h : g a = some o) (ht : He.emptyTab o = true) : (frR g as).lookup a = none := by
  cases e : (frR g as).lookup a with
  | none => rfl
  | some u =>
    have m := He.lookup_mem e
    have z := He.frG_mem (sorted4_sub m)
    rw [h] at z
    obtain rfl := Option.some.inj z
    rw [He.emptyTab_eq ht] at m
    unfold frR sorted4 at m
    simp only [List.mem_append, List.mem_filter] at m
    rcases m with m | m | m | m | m <;> exact absurd m.2 (by decide)
/-- what is told: the facts, the Bool, the defs' code tables: empty, not among the objects looked at -/
structure SaysR (fa : List He.Fa) (fn : List He.DefD) (tf : List He.Defn) (ex : Frag → Bool) (h : Heap) (K : Frag) : Prop where
  d : He.SaysD fa fn K
  m : ex K = true
  hd : ∀ p ∈ tf, codeHdIn K (He.cT K p).1 (He.cT K p).2 = true
  out : ∀ p ∈ tf, K.lookup (He.cT K p).2 = none
  empty : ∀ p ∈ tf, h.get? (He.cT K p).2 = some { cls := .none, data := .fields #[] }
def obsR (as : List Addr) (fa : List He.Fa) (fn : List He.DefD) (tf : List He.Defn) (ex : Frag → Bool) (g : Addr → Option Obj) : He.AlD × Bool :=
  (He.obsD fa fn (frR g as), ex (frR g as) && He.tabsB g tf (frR g as))
theorem saysR_of {as : List Addr} {fa : List He.Fa} {fn : List He.DefD} {tf : List He.Defn} {ex : Frag → Bool} {h : Heap} (e : obsR as fa fn tf ex h.get? = (He.valD fn, true)) : SaysR fa fn tf ex h (frR h.get? as) := by
  obtain ⟨h1, h2⟩ := He.ba (show (ex (frR h.get? as) && He.tabsB h.get? tf (frR h.get? as)) = true from congrArg Prod.snd e)
  have key : ∀ p ∈ tf, codeHdIn (frR h.get? as) (He.cT (frR h.get? as) p).1 (He.cT (frR h.get? as) p).2 = true ∧ ∃ o, h.get? (He.cT (frR h.get? as) p).2 = some o ∧ He.emptyTab o = true := fun p hp => by
    obtain ⟨k1, k2⟩ := He.ba (List.all_eq_true.mp h2 p hp)
    refine ⟨k1, ?_⟩
    cases q : h.get? (He.cT (frR h.get? as) p).2 with
    | none => rw [q] at k2; cases k2
    | some o => rw [q] at k2; exact ⟨o, rfl, k2⟩
  refine ⟨congrArg Prod.fst e, h1, fun p hp => (key p hp).1, fun p hp => ?_, fun p hp => ?_⟩
  · obtain ⟨_, o, q, z⟩ := key p hp
    exact frR_none q z
  · obtain ⟨_, o, q, z⟩ := key p hp
    rw [q, He.emptyTab_eq z]
def hookR (as : List Addr) (fa : List He.Fa) (fn : List He.DefD) (tf : List He.Defn) (ex : Frag → Bool) : Hook where
  α := He.AlD × Bool
  obs := fun s => obsR as fa fn tf ex s.heap.get?
  val := fun _ => (He.valD fn, true)
  says := fun _ h => ∃ K : Frag, K.In h ∧ SaysR fa fn tf ex h K
  of := fun _ _ e => ⟨_, frR_in, saysR_of e⟩
  keeps := fun _ _ _ ⟨K, hK, c⟩ k => ⟨K, Frag.In.keeps hK k, ⟨c.d, c.m, c.hd, c.out, fun p hp => k _ _ (c.empty p hp)⟩⟩
theorem obsR_eq {as : List Addr} {fa : List He.Fa} {fn : List He.DefD} {tf : List He.Defn} {ex : Frag → Bool} {g : Addr → Option Obj} {s : Shared} (h : ∀ a, g a = s.heap.get? a) : obsR as fa fn tf ex g = (hookR as fa fn tf ex).obs s := by
  have e : g = s.heap.get? := funext h
  rw [e] <;> rfl
theorem three {α A B C : Type} {o : Option α} {f : α → A} {g : α → B} {h : α → C} {a : A} {b : B} {c : C} (x : o.map f = some a) (y : o.map g = some b) (z : o.map h = some c) : o.map (fun s => (f s, g s, h s)) = some (a, b, c) := by
  cases o with
  | none => cases x
  | some s =>
    have x1 : f s = a := Option.some.inj x
    have y1 : g s = b := Option.some.inj y
    have z1 : h s = c := Option.some.inj z
    show some (f s, g s, h s) = _
    rw [x1, y1, z1]
/-- the state behind the top -/
noncomputable def endOf (r : OpenRow) (M : Nat) (w : World) (os : OsState) : Option SharedT := HandSHeadRun.endF (HandSHeadRun.stepQ (HandSHeadRun.denQ HandSHeadRun.tabQ) r.prog w) M r.prog w os
noncomputable def looksOf (r : OpenRow) (w : World) (s : SharedT) : Bool := HandSHeadRun.looksF r.prog (boot_heap w.params) s.abs
noncomputable def viewOf (r : OpenRow) (q : Program) (loose : List PySem.Str) (s : SharedT) := HandSHeadRun.seenQ q loose (importedModules r.prog.main.body) (fun s => xlAt q [] s && recOk r.toRowW.records s) s.abs
theorem run_three {r : OpenRow} {q : Program} {H : Hook} {ob : SharedT → H.α} {M : Nat} {loose : List PySem.Str} {w : World} (a : ∀ os, (endOf r M w os).map (looksOf r w) = some true)
    (b : ∀ os, (endOf r M w os).map (viewOf r q loose) = some (openGood q loose)) (c : ∀ os, (endOf r M w os).map ob = some (H.val w)) : HandSHeadRun.RunEq r q H ob M loose w := fun os => three (a os) (b os) (c os)
end Lf

set_option Elab.async false
set_option linter.all false
set_option maxRecDepth 100000
set_option maxHeartbeats 0
namespace K81
open PySem PySem.Spec PyProof.Rows L2
abbrev R : PySem.W.OpenRow := PySem.W.OpenLaw.row PySem.Challenge.rw_letterfolds_k81_identities_that_are_read
abbrev vw : Program := PySem.W.view R.prog [22]
def as : List Addr := List.range 1600
abbrev hk : PySem.W.Hook := Lf.hookR as fa fn tf ex
def ob (s : PySem.W.SharedT) : He.AlD × Bool := Lf.obsR as fa fn tf ex (HandSHeadRun.getT s)
theorem ob_eq (s : PySem.W.SharedT) : ob s = hk.obs s.abs := Lf.obsR_eq (HandSHeadRun.getT_eq s)
theorem runA (w : World) (os : OsState) : (Lf.endOf R 20000 w os).map (Lf.looksOf R w) = some true := by kernel_rfl
theorem runB (w : World) (os : OsState) : (Lf.endOf R 20000 w os).map (Lf.viewOf R vw loose) = some (PySem.W.openGood vw loose) := by kernel_rfl
theorem runC (w : World) (os : OsState) : (Lf.endOf R 20000 w os).map ob = some (hk.val w) := by kernel_rfl
theorem run (w : World) : HandSHeadRun.RunEq R vw hk ob 20000 loose w := Lf.run_three (runA w) (runB w) (runC w)
end K81

set_option Elab.async false
set_option linter.all false
set_option maxRecDepth 100000
set_option maxHeartbeats 4000000
/-! The end for a law that is promised only where no repr is under way. -/
namespace Lf
open PySem PySem.Spec PyProof.Rows L2
section
variable {P : Program} {w : World} {K : PySem.W.Frag} {mg mb : Str → Option Value} {CX : CXT} {k : Nat} {fa a : Addr} {fd : FuncData} {x : Str} {sp : Sp} {s₁ : Shared} {vs : List Value} {ns : List Int}
/-- the caller's world, with at most the script tracked -/
theorem env_law {H : Hp} (KX : K.In s₁.heap) (hns : s₁.heap.Ns mainGlobals mg) (hb : s₁.heap.Ns builtinsNs mb) (hbb : ∀ x : Str, x ≠ "__name__" → mb x = bootBuiltins x) (hlim : s₁.heap.NoLimit) (hg : s₁.gens = #[])
    (ha : s₁.heap.get? a = some { cls := .type "list", data := .seq vs.toArray }) (hok : HOk P w H s₁.heap) (hA : ∀ b, H b ≠ none → b = a ∧ K.lookup a = none) :
    K.In (hidT s₁.heap H) ∧ (hidT s₁.heap H).Ns mainGlobals mg ∧ Env0 P w K mg (hidT s₁.heap H) callerA [] s₁ H := by
  have free : ∀ {b : Addr} {o : Obj}, s₁.heap.get? b = some o → o.data ≠ .seq vs.toArray → H b = none := fun {b o} e d => by
    cases q : H b with
    | none => rfl
    | some u =>
      obtain ⟨rfl, _⟩ := hA b (by rw [q]; simp)
      rw [ha] at e
      cases e
      exact absurd rfl d
  have names : ∀ {b : Addr} {m : Str → Option Value}, s₁.heap.Ns b m → (hidT s₁.heap H).Ns b m := fun {b m} h => by
    obtain ⟨o, es, ep, e, d, r⟩ := h
    exact ⟨o, es, ep, hidT_get e (free e (by rw [d]; simp)), d, r⟩
  have kin : K.In (hidT s₁.heap H) := fun b o e => hidT_get (KX b o e) (by
    cases q : H b with
    | none => rfl
    | some u =>
      obtain ⟨rfl, z⟩ := hA b (by rw [q]; simp)
      rw [z] at e
      cases e)
  obtain ⟨mc, l1, l2⟩ := hlim
  exact ⟨kin, names hns, rfl, ⟨kin, names hns, ⟨mb, names hb, hbb⟩, mc, names l1, l2⟩, fun b o e => of_hidT e, Nat.le_of_eq (hidT_size _ _), trivial, fun b hb => absurd (show b ∈ ([] : List Addr) from hb) (by simp), hok, .of_eq hg⟩
theorem law_callG (KX : K.In s₁.heap) (hns : s₁.heap.Ns mainGlobals mg) (hb : s₁.heap.Ns builtinsNs mb) (hbb : ∀ x : Str, x ≠ "__name__" → mb x = bootBuiltins x) (hlim : s₁.heap.NoLimit) (hg : s₁.gens = #[])
    (ha : s₁.heap.get? a = some { cls := .type "list", data := .seq vs.toArray }) (hi : IntsAre vs ns) (hl : ns.length ≤ sizeLine) (hr : Room k callerA)
    (F : ∀ base : Heap, K.In base → base.Ns mainGlobals mg → FnG P w K mg base CX k fa fd [x] sp) (hbind : ∀ (s : Shared) (u : Value), BindsTo s fd ⟨[u], []⟩ [(x, u)])
    (hsp : ∀ H : Hp, Only H → SqL K H a (ns.map V.int) → sp [.ref a] H (fun v _ => v = .bl true) fun _ _ _ => False)
    (hCX : ∀ H e s', CX [] H s₁ (fun _ _ _ => False) e s' → False) :
    codeAny (model P w) callerA (.call (.ref fa) ⟨[.ref a], []⟩) (fun r s' => r = .ok (.ret (.bool true)) ∧ OldK s₁.heap s'.heap ∧ s'.os = s₁.os ∧ AllBare s'.gens) s₁ := by
  obtain ⟨H, hO, hS, hok, hA⟩ : ∃ H : Hp, Only H ∧ SqL K H a (ns.map V.int) ∧ HOk P w H s₁.heap ∧ ∀ b, H b ≠ none → b = a ∧ K.lookup a = none := by
    have rv := vals_ints hi
    cases hk : K.lookup a with
    | some o =>
      have e := KX a o hk
      rw [ha] at e
      cases e
      exact ⟨fun _ => none, fun _ => .inl rfl, .inr ⟨_, vs.toArray, _, hk, rfl, rfl, rfl, by rw [List.size_toArray, hi.length]; exact hl, by simpa using rv⟩, (fun b u z => by cases (show (none : Option HO) = some u from z)), fun b z => absurd rfl z⟩
    | none =>
      refine ⟨L2.upd (fun _ => none) a (.frz { cls := .type "list", data := .seq vs.toArray } (.lst (ns.map V.int))), fun b => ?_, .inl (.inr ⟨_, upd_same⟩), fun b u z => ?_, fun b z => ?_⟩
      · by_cases e : b = a
        · subst e
          exact .inr ⟨_, _, upd_same⟩
        · exact .inl (upd_ne e)
      · by_cases e : b = a
        · subst e
          rw [upd_same] at z
          cases z
          exact ⟨ha, by rw [List.length_map]; exact hl, vs, _, rv, ha⟩
        · rw [upd_ne e] at z
          cases z
      · by_cases e : b = a
        · exact ⟨e, rfl⟩
        · exact absurd (upd_ne e) z
  obtain ⟨kin, nm, e0⟩ := env_law KX hns hb hbb hlim hg ha hok hA
  refine codeAny_mono ((F _ kin nm).run callerA [] s₁ H ⟨[.ref a], []⟩ [.ref a] [.ref a] _ _ rfl hr e0 (hbind s₁ (.ref a)) (.cons rfl .nil) (hsp H hO hS)) fun r s' h => ?_
  cases r with
  | error e => exact (hCX H e s' h).elim
  | ok fl =>
    cases fl with
    | next => exact False.elim h
    | brk => exact False.elim h
    | cont => exact False.elim h
    | ret u =>
      obtain ⟨v, H', os, bare, un, hok', r', q⟩ := h
      cases (show v = .bl true from q)
      cases (show u = Value.bool true from r')
      refine ⟨rfl, OldK.of_keep fun b o e => ?_, os, bare⟩
      cases q : H b with
      | none => exact un.keep b o e q (by intro z; exact absurd (show b ∈ ([] : List Addr) from z) (by simp)) (by simp)
      | some u =>
        rcases hO b with z | ⟨ob, xs, z⟩
        · rw [q] at z
          cases z
        · have e1 := (hok b _ z).1
          rw [e] at e1
          cases e1
          exact (hok' b _ (un.frzs b _ _ z)).1
end
theorem walk_ofG {l : PySem.W.OpenLaw} {n k : Nat} {q : Program} {loose : List Str} {XP : (Str → Option Value) → Heap → Prop} {YP : World → Heap → Prop} {d : DefRec} {CX : CXT} {x : Str}
    (hn : l.most = some n) (hn2 : n ≤ sizeLine) (hdf : d.params.defaults = []) (hr : Room k callerA)
    (F : ∀ (w : World) (mg : Str → Option Value) (fa : Addr) (h : Heap), YP w h → h.Ns mainGlobals mg → mg d.name = some (.ref fa) →
      ∃ (K : PySem.W.Frag) (fd : FuncData) (sp : Sp), K.In h ∧ (∀ (s : Shared) (u : Value), BindsTo s fd ⟨[u], []⟩ [(x, u)]) ∧
        (∀ (H : Hp) (a : Addr) (ns : List Int), ns.length ≤ n → Only H → SqL K H a (ns.map V.int) → sp [.ref a] H (fun v _ => v = .bl true) fun _ _ _ => False) ∧
        ∀ base : Heap, K.In base → base.Ns mainGlobals mg → FnG l.prog w K mg base CX k fa fd [x] sp)
    (hCX : ∀ (H : Hp) (s : Shared) (e : Value) (s' : Shared), CX [] H s (fun _ _ _ => False) e s' → False) :
    PySem.W.WalkO q loose XP YP l.row.toRowW d [] (fun f vs => PySem.call f vs) := by
  refine Att.attach_call hn hdf fun w s₀ s₁ mg mb fa o pm cd doc a vs ns G Y ho hd hcd hmg hobj hints hlen hg => ?_
  obtain ⟨K, fd, sp, KX, hb, hsp, hF⟩ := F w mg fa _ Y G.T.g hmg
  exact law_callG KX G.T.g G.T.b G.T.builtins G.T.nolimit hg hobj hints (Nat.le_trans hlen hn2) hr hF hb (fun H hO hS => hsp H a ns hlen hO hS) fun H e s' => hCX H s₁ e s'
end Lf

set_option Elab.async false
set_option linter.all false
set_option maxRecDepth 100000
set_option maxHeartbeats 8000000
namespace K81
open PySem PySem.Spec PyProof.Rows L2 Lf
theorem facts {P : Program} {w : World} {K : PySem.W.Frag} {h : Heap} {mg : Str → Option Value} {f : Addr} (X : K.In h) (G : h.Ns mainGlobals mg) (hfa : mg ("law" : Str) = some (.ref f)) (c : He.SaysD fa fn K) (m : ex K = true) :
    ∃ fd : FuncData, (∀ (s : Shared) (v : Value), BindsTo s fd ⟨[v], []⟩ [("_law_script", v)]) ∧ ∀ base : Heap, K.In base → base.Ns mainGlobals mg → FnG P w K mg base CX0 12 f fd ["_law_script"] (spLaw K) := by
  obtain ⟨fd_read_identity, F_read_identity⟩ := c.def_ 3 (d := d_read_identity) rfl
  obtain ⟨fd_L_source, F_L_source⟩ := c.def_ 4 (d := d_L_source) rfl
  obtain ⟨fd_L_draw, F_L_draw⟩ := c.def_ 5 (d := d_L_draw) rfl
  obtain ⟨fd_L_pick, F_L_pick⟩ := c.def_ 6 (d := d_L_pick) rfl
  obtain ⟨fd_L_term, F_L_term⟩ := c.def_ 7 (d := d_L_term) rfl
  obtain ⟨fd_L_is_open, F_L_is_open⟩ := c.def_ 8 (d := d_L_is_open) rfl
  obtain ⟨fd_L_fault, F_L_fault⟩ := c.def_ 9 (d := d_L_fault) rfl
  obtain ⟨fd_L_said, F_L_said⟩ := c.def_ 10 (d := d_L_said) rfl
  obtain ⟨fd_L_due, F_L_due⟩ := c.def_ 11 (d := d_L_due) rfl
  obtain ⟨fd_L_right, F_L_right⟩ := c.def_ 12 (d := d_L_right) rfl
  obtain ⟨fd_L_long_right, F_L_long_right⟩ := c.def_ 13 (d := d_L_long_right) rfl
  obtain ⟨fd, F⟩ := c.def_ 14 (d := d_law) rfl
  have gl : ∀ (i : Nat) (x : Str), fa[i]? = some (.glo x) → mg x = some (.ref (He.ga K x)) := fun i x e => He.glo_ok X G (c.fact i e)
  have fr : ∀ (i : Nat) (x : Str), fa[i]? = some (.free x) → mg x = none := fun i x e => He.free_ok X G (c.fact i e)
  have it : ∀ (i : Nat) (x : Str) (v : Int), fa[i]? = some (.int x v) → ∃ t, mg x = some (.int v t) := fun i x v e => He.int_ok X G (c.fact i e)
  have st : ∀ (i : Nat) (x v : Str), fa[i]? = some (.str x v) → ∃ t, mg x = some (.str v t) := fun i x v e => He.str_ok X G (c.fact i e)
  have e := hfa.symm.trans (gl 13 "law" rfl)
  cases e
  have b := FunD.bindsA (ps := ["_law_script"]) F fun _ _ _ _ _ _ us hl => match us, hl with | [_], _ => rfl
  refine ⟨fd, fun s v => b s [v] rfl, fun base _ _ => ?_⟩
  have T : Txt P w K mg base := ⟨c, m, gl, fr, it, st⟩
  have z_ValueError : mg "ValueError" = none := T.fr 19 "ValueError" rfl
  have z_abs : mg "abs" = none := T.fr 20 "abs" rfl
  have z_enumerate : mg "enumerate" = none := T.fr 21 "enumerate" rfl
  have z_int : mg "int" = none := T.fr 22 "int" rfl
  have z_isinstance : mg "isinstance" = none := T.fr 23 "isinstance" rfl
  have z_len : mg "len" = none := T.fr 24 "len" rfl
  have z_range : mg "range" = none := T.fr 25 "range" rfl
  have z_str : mg "str" = none := T.fr 26 "str" rfl
  have z_tuple : mg "tuple" = none := T.fr 27 "tuple" rfl
  obtain ⟨t_VARIABLES, g_VARIABLES⟩ := T.st 18 "VARIABLES" "wxyz" rfl
  have FS := ok_read F_read_identity T
  have bS : L2.Binds K fd_read_identity ["text"] [] := F_read_identity.bindsN fun _ _ _ _ _ _ us hl => match us, hl with | [_], _ => rfl
  have D_L_source : Def P w K mg base CX0 1 "_law_source" ["_law_cell"] spSource := ⟨_, fd_L_source, T.gl 3 "_law_source" rfl, F_L_source.kp, ok_source F_L_source z_abs z_int, F_L_source.bindsN fun _ _ _ _ _ _ us hl => match us, hl with | [_], _ => rfl⟩
  have D_L_draw : Def P w K mg base CX0 1 "_law_draw" ["_law_source_here", "_law_many"] spDraw := ⟨_, fd_L_draw, T.gl 4 "_law_draw" rfl, F_L_draw.kp, ok_draw F_L_draw z_int, F_L_draw.bindsN fun _ _ _ _ _ _ us hl => match us, hl with | [_, _], _ => rfl⟩
  have D_L_pick : Def P w K mg base CX0 2 "_law_pick" ["_law_source_here", "_law_some"] spPick := ⟨_, fd_L_pick, T.gl 5 "_law_pick" rfl, F_L_pick.kp, ok_pick F_L_pick z_len D_L_draw, F_L_pick.bindsN fun _ _ _ _ _ _ us hl => match us, hl with | [_, _], _ => rfl⟩
  have bT : L2.Binds K fd_L_term ["_law_source_here", "_law_deep"] [] := F_L_term.bindsN fun _ _ _ _ _ _ us hl => match us, hl with | [_, _], _ => rfl
  have D_L_term : Def P w K mg base CX0 10 "_law_term" ["_law_source_here", "_law_deep"] (spTm 7) := ⟨_, fd_L_term, T.gl 6 "_law_term" rfl, F_L_term.kp, ok_term F_L_term z_range D_L_draw D_L_pick (T.gl 6 "_law_term" rfl) bT 7, bT⟩
  have D_L_is_open : Def P w K mg base CX0 1 "_law_is_open" ["_law_mood", "_law_sign", "_law_depth", "_law_is_second"] (spOpen K) := ⟨_, fd_L_is_open, T.gl 7 "_law_is_open" rfl, F_L_is_open.kp, ok_open F_L_is_open, F_L_is_open.bindsN fun _ _ _ _ _ _ us hl => match us, hl with | [_, _, _, _], _ => rfl⟩
  have D_L_fault : Def P w K mg base CX0 2 "_law_fault" ["_law_text"] spFault := ⟨_, fd_L_fault, T.gl 8 "_law_fault" rfl, F_L_fault.kp, ok_fault F_L_fault z_enumerate z_len D_L_is_open, F_L_fault.bindsN fun _ _ _ _ _ _ us hl => match us, hl with | [_], _ => rfl⟩
  have D_L_said : Def P w K mg base CX0 4 "_law_said" ["_law_text"] (spSaid K) := ⟨_, fd_L_said, T.gl 9 "_law_said" rfl, F_L_said.kp, ok_said F_L_said T (T.gl 2 "read_identity" rfl) F_read_identity.kp FS bS, F_L_said.bindsN fun _ _ _ _ _ _ us hl => match us, hl with | [_], _ => rfl⟩
  have D_L_due : Def P w K mg base CX0 3 "_law_due" ["_law_text"] (spDue K) := ⟨_, fd_L_due, T.gl 10 "_law_due" rfl, F_L_due.kp, ok_due F_L_due z_tuple D_L_fault, F_L_due.bindsN fun _ _ _ _ _ _ us hl => match us, hl with | [_], _ => rfl⟩
  have D_L_right : Def P w K mg base CX0 11 "_law_right" ["_law_source_here"] spRight := ⟨_, fd_L_right, T.gl 11 "_law_right" rfl, F_L_right.kp, ok_right F_L_right z_len z_range D_L_draw D_L_pick D_L_term D_L_fault D_L_said D_L_due, F_L_right.bindsN fun _ _ _ _ _ _ us hl => match us, hl with | [_], _ => rfl⟩
  have D_L_long_right : Def P w K mg base CX0 5 "_law_long_right" [] spLong := ⟨_, fd_L_long_right, T.gl 12 "_law_long_right" rfl, F_L_long_right.kp, ok_long F_L_long_right D_L_said, F_L_long_right.bindsN fun _ _ _ _ _ _ us hl => match us, hl with | [], _ => rfl⟩
  exact ok_law (ok_law0 F z_range D_L_source D_L_right D_L_long_right)
end K81
open PySem PySem.W PySem.Calls PyProof.Rows
theorem PySem.Challenge.cw_letterfolds_k81_identities_that_are_read_holds : PySem.Challenge.rw_letterfolds_k81_identities_that_are_read.Holds := by
  w_on; o_law
  refine HandSHeadRun.head_any (r := K81.R) (q := K81.vw) (H := K81.hk) (ob := K81.ob) (M := 20000) (loose := K81.loose) (d := HandSHeadRun.topDef K81.R.prog 22) (kwd := []) K81.ob_eq
    (by kernel_rfl) (fun s => by kernel_rfl) K81.run (by kernel_rfl) (by kernel_rfl) (by kernel_rfl) (by rfl) (by first | assumption | decide +kernel) (by decide +kernel) ⟨rfl, rfl, rfl, rfl, rfl, by decide +kernel⟩ ?hw ?hc
  case hw => w_witness2
  case hc =>
    refine Lf.walk_ofG (l := PySem.Challenge.rw_letterfolds_k81_identities_that_are_read) (n := 63) (k := 12) (x := "_law_script") (CX := L2.CX0) rfl (by decide) (by kernel_rfl) ⟨rfl, by decide, by decide⟩ ?F (fun _ _ _ _ z => z)
    intro w mg fa h Y G hmg0
    obtain ⟨K, KX, S⟩ := Y
    have hmg : mg ("law" : PySem.Str) = some (.ref fa) := by
      have e : (HandSHeadRun.topDef K81.R.prog 22).name = ("law" : PySem.Str) := by kernel_rfl
      rw [← e]
      exact hmg0
    obtain ⟨fd, hb, hF⟩ := K81.facts (P := PySem.Challenge.rw_letterfolds_k81_identities_that_are_read.prog) (w := w) KX G hmg S.d S.m
    exact ⟨K, fd, K81.spLaw K, KX, hb, fun H a ns hl _ hS => ⟨a, ns, rfl, hS, hl, fun _ => rfl⟩, hF⟩
