import PyProof.Rows.All
import Wide.All
import OpenK.AllK
import Wide.FinOn
import KE.KExcIs
import KE.KExcMore
import HandS.ForMost
import HandS.ForExc
import HandS.ExcInit
import HandS.ExcField
import HandS.ExcIs
import HandS.ExcValue
import HandS.IsInst
import HandS.HeadHook4
import HandS.Strs
import PyProof.ListStr
import PyProof.StrOps2
import HandS.HotCalls
import HandS.TryMany
import PyProof.ReprRoads
import PyProof.CallFns
import PyProof.Rows.FactsT3
import PyProof.StrLawsRepr
import PyProof.ReprLen
import HandS.Defaults
import KE.KOpsOwn
import HandS.OwnEq
import HandS.StrMore
import HandS.Walk
import HandS.Lambda
import KE.KStateDown
import HandS.Head2
import HandS.HeadEnd
import PySem.Challenge.RW_letterfolds_k78_signatures_of_words
set_option Elab.async false
set_option linter.all false
set_option maxRecDepth 100000
set_option maxHeartbeats 4000000
/-! Facts of error classes. -/
namespace Lf
open PySem PySem.Spec PyProof.Rows L2
/-- what isinstance of an error of the class at C wants -/
structure IsC (K : PySem.W.Frag) (C : Addr) : Prop where
  cl : (PySem.W.clsIn K C).isSome = true
  ga : PySem.W.findIn K (.ref C) "__getattribute__" = some (some (.builtin "BaseException.__getattribute__"))
  gg : PySem.W.findIn K (.ref C) "__getattr__" = some none
  sb : PySem.W.subIn K (.ref C) (.type "BaseException") = some true
  ca : PySem.W.findIn K (.ref C) "__class__" = some (some (.builtin "object.__class__"))
  sg : PySem.W.specialIn K (.builtin "object.__class__") "__get__" = some (some (.builtin "getset_descriptor.__get__"))
  tk : PySem.W.takesIn K (.builtin "object.__class__") = some true
  ob : PySem.W.mroIn K C (.type "object") = some true
/-! ### the classes by one look at the written part -/
/-- an exception class over ValueError -/
def oexB (K : PySem.W.Frag) (C : Addr) : Bool := match K.lookup C with
  | some ⟨.type t, _, .cls cd, sl⟩ => (match cd.mro, sl.toList with
    | .ref D :: bm, [_, _, _, _, some (.builtin n), _] => decide (t = "type") && (decide (D = C) && (decide (n = "ValueError.__new__") && (!cd.hasDel && (cd.hasDict && PySem.HandSPX.refsVE bm))))
    | _, _ => false)
  | _ => false
theorem oexB_ok {K : PySem.W.Frag} {C : Addr} (h : oexB K C = true) : ∃ nm q N bs bm sn sub ab col dd k0 k1 k2 k3 k5,
    K.lookup C = some (excClassObj nm q C N bs bm true sn sub ab col dd k0 k1 k2 k3 k5 "ValueError.__new__") ∧ PySem.HandSPX.refsVE bm = true := by
  unfold oexB at h
  split at h
  · rename_i t dd cd sl lk
    split at h
    · rename_i D bm k0 k1 k2 k3 n k5 hm hs
      simp only [Bool.and_eq_true, decide_eq_true_eq, Bool.not_eq_true'] at h
      obtain ⟨rfl, rfl, rfl, h4, h5, h6⟩ := h
      obtain ⟨nm, bs, mro, ns, qn, hd, sn, sub, ab, col, del⟩ := cd
      dsimp only at hm h4 h5
      subst hm h4 h5
      obtain ⟨l⟩ := sl
      dsimp only at hs
      subst hs
      exact ⟨nm, qn, ns, bs, bm, sn, sub, ab, col, dd, k0, k1, k2, k3, k5, lk, h6⟩
    · cases h
  · cases h
def errB (K : PySem.W.Frag) (C : Addr) : Bool :=
  oexB K C && (decide (PySem.W.findIn K (.ref C) "__setattr__" = some (some (.builtin "object.__setattr__"))) && (decide (PySem.W.subIn K (.ref C) (.type "BaseException") = some true) &&
  (decide (PySem.W.typeIn K (.ref C) = some (.type "type")) && (PySem.W.keepIn K (.ref C) && (PySem.W.hasDictIn K C &&
  (decide (PySem.W.findIn K (.ref C) "__getattribute__" = some (some (.builtin "BaseException.__getattribute__"))) && (decide (PySem.W.findIn K (.ref C) "__getattr__" = some none) &&
  (decide (PySem.W.findIn K (.ref C) "__class__" = some (some (.builtin "object.__class__"))) && (decide (PySem.W.specialIn K (.builtin "object.__class__") "__get__" = some (some (.builtin "getset_descriptor.__get__"))) &&
  (decide (PySem.W.takesIn K (.builtin "object.__class__") = some true) && decide (PySem.W.mroIn K C (.type "object") = some true)))))))))))
structure ErrC (K : PySem.W.Frag) (C : Addr) : Prop where
  o : OexC K C
  x : XfC K C
  i : IsC K C
theorem errB_ok {K : PySem.W.Frag} {C : Addr} (h : errB K C = true) : ErrC K C := by
  unfold errB at h
  simp only [Bool.and_eq_true, decide_eq_true_eq] at h
  obtain ⟨h1, h2, h3, h4, h5, h6, h7, h8, h9, h10, h11, h12⟩ := h
  have hc : (PySem.W.clsIn K C).isSome = true := by
    obtain ⟨nm, q, N, bs, bm, sn, sub, ab, col, dd, k0, k1, k2, k3, k5, lk, _⟩ := oexB_ok h1
    unfold PySem.W.clsIn
    rw [lk] <;> rfl
  exact ⟨⟨oexB_ok h1, h2, h3, h4, h5⟩, ⟨h7, h8, h3, h6⟩, ⟨hc, h7, h8, h3, h9, h10, h11, h12⟩⟩
end Lf

set_option Elab.async false
set_option linter.all false
set_option maxRecDepth 100000
set_option maxHeartbeats 4000000
/-! Errors of the program's own as values: made, read, asked, told. -/
namespace Lf
open PySem PySem.Spec PyProof.Rows L2

/-! ### made -/
/-- C(e, ..) as a value, C's own __init__ keeping sp -/
def tNew (C : Addr) (sp : Sp) (ta : TA) : TE := fun σ H Q => ta σ H fun vs H1 =>
  vs.length ≤ 1000 ∧ ∀ a, H1 a = none → sp (.ref a :: vs) (upd H1 a (exo a C none)) (fun v H2 => v = .non ∧ Q (.ref a) H2) E0
section
variable {X : Cx} {CX : CXT} {x : Str} {C fI : Addr} {k : Nat} {fd : FuncData} {ps : List Str} {sp : Sp} {e : Expr} {es : List Expr} {ta : TA} {p pos : Pos}
theorem pe_new (T : OexC X.K C) (iC : PySem.W.findIn X.K (.ref C) "__init__" = some (some (.ref fI)))
    (tI : PySem.W.typeIn X.K (.ref fI) = some (.type "function"))
    (F1 : FnOk X.prog X.w X.K X.mg X.base CX k fI fd ps sp) (hr : Room (k + 1) X.A) (hb : Binds X.K fd ps [])
    (hx : Passes CX X E0) (hg : Gl X x) (hm : X.mg x = some (.ref C)) (ha : PA X (e :: es) ta)
    (hdb : (x == ("__debug__" : Str)) = false := by decide +kernel)
    (he : starEach (e :: es) X.env = (false, eval e X.env) :: starEach es X.env := by rfl)
    (hpl : (backTo pos (starEach es X.env)).any (·.1) = false := by rfl) :
    PE X (.Call (.Name x p) (e :: es) [] pos) (tNew C sp ta) := by
  refine ⟨fun pins s σ H Q I h => ?_⟩
  obtain ⟨nm, q, N, bs, bm, sn, sub, ab, col, dd, k0, k1, k2, k3, k5, hC, hbm⟩ := T.cls
  refine wpAny_Call_Name_kw (ld_glob I hg hm ?_ hdb)
  refine PySem.W.callWith_K (h₀ := X.base) I.ok.mod.kin T.kC
    (thn (ha.run pos pins s σ H _ I h) fun us s1 hh => ?_) he hpl
  obtain ⟨vs, H1, I1, r1, hz, q1⟩ := hh
  refine ⟨I1.kIn, ?_⟩
  show wpAny _ _ (call (.ref C) us) _ _ _
  obtain ⟨hp, g, dr, tk, os⟩ := s1
  let a := hp.objs.size + 1
  have hsz : hp.objs.size ≤ a := Nat.le_succ _
  have hq := q1 a (I1.hok.fresh hsz)
  let hp' := (hp.push (PySem.W.kdv_tup us)).push (PySem.HandSPX.excO C hp.objs.size)
  have kk : ∀ b o, hp.get? b = some o → hp'.get? b = some o := fun b o z =>
    Heap.get?_push_of_some _ (Heap.get?_push_of_some _ z)
  have hget : ((hp.push (PySem.W.kdv_tup us)).push (PySem.HandSPX.excO C hp.objs.size)).get? (hp.objs.size + 1) =
    some (PySem.HandSPX.excO C hp.objs.size) := by heap_get
  have I2 : Inv X pins σ (upd H1 a (exo a C none)) ⟨hp', g, dr, tk, os⟩ :=
    I1.laid (t' := tk) (a := a) (o := exo a C none) (h' := hp') kk hsz (exo_ok (show hp'.get? a = _ from hget))
  have r2 : Vals (V.ref a :: vs) (Value.ref a :: us) := .cons rfl r1
  have hl : (Value.ref a :: us).length = ps.length := by
    have z := r2.length
    rw [F1.len _ _ _ _ hq] at z
    exact z.symm
  have hus : us.length ≤ sizeLine := by
    rw [← Paired.length r1, sizeLine_eq]
    omega
  have hb2 := hb ⟨hp', g, dr, tk, os⟩ (Value.ref a :: us) I2.kIn (by simpa using hl)
  rw [List.append_nil] at hb2
  refine wpAny_call (PySem.HandSPX.call_own F.excBase_ValueError (fun Y => PySem.HandSPX.refsVE_contains Y bm hbm) (I1.kIn _ _ hC)
    (PySem.W.looks_findIn I1.kIn iC) (fun self => PySem.W.bind_fn I1.kIn self tI) hus
    (codeAny_mono (F1.run _ X.stack _ _ ⟨Value.ref a :: us, []⟩ (Value.ref a :: us) _ _ E0 (hr.make C us []) (I2.env0.make C us []) hb2 r2 hq) fun r s' hq' => ?_))
  cases r with
  | error er => exact hx pins σ _ _ er s' I2 hq'
  | ok fl =>
    cases fl with
    | ret u =>
      obtain ⟨v, H2, os2, bare2, un2, hok2, rv, ev, q2⟩ := hq'
      subst ev
      exact ⟨rv, .ref a, H2, I2.call' (ch := []) os2 un2 hok2 bare2 (fun b z => nomatch z), rfl, q2⟩
    | next => exact False.elim hq'
    | brk => exact False.elim hq'
    | cont => exact False.elim hq'
end

/-! ### an error that stands -/
/-- at a an error of the class at C: its dict d, if it has one -/
def XAt (H : Hp) (a C : Addr) (d : Option Addr) : Prop := H a = some (exo a C d) ∨ (d = none ∧ H a = some (ExO (.ref C) a))
theorem XAt.obj {X : Cx} {pins : List (Addr × Obj)} {σ : L2.St} {H : Hp} {s : Shared} {a C : Addr} {d : Option Addr} (I : Inv X pins σ H s) (h : XAt H a C d) :
    ∃ oe vs, s.heap.get? a = some oe ∧ Zc (.ref C) d oe ∧ oe.data = .fields vs := by
  rcases h with h | ⟨rfl, h⟩
  · obtain ⟨t1, ho⟩ := exo_at I.hok h
    exact ⟨_, _, ho, ⟨rfl, rfl⟩, rfl⟩
  · obtain ⟨⟨oe, vs, ho, hz, hd, _⟩, _, _⟩ := I.hok a _ h
    exact ⟨oe, vs, ho, hz, hd⟩
theorem XAt.mono {H H' : Hp} {a C : Addr} {d : Option Addr} (h : XAt H a C d) (e : Same H H') : XAt H' a C d := by
  rcases h with h | ⟨z, h⟩
  · exact .inl (e _ _ h)
  · exact .inr ⟨z, e _ _ h⟩

/-! ### a field -/
def tXo (K : PySem.W.Frag) (f : Str) (te : TE) : TE := fun σ H Q => te σ H fun x H1 => ∃ (a C d : Addr) (fs : List (Str × V)) (v : V),
  x = .ref a ∧ XfC K C ∧ PySem.W.findIn K (.ref C) f = some none ∧ XAt H1 a C (some d) ∧ H1 d = some (exd d fs) ∧ fs.lookup f = some v ∧ Q v H1
theorem pe_xo {X : Cx} {e : Expr} {te : TE} {pos : Pos} {n : Str} (he : PE X e te)
    (hb : attributeBase e n X.env (eval e X.env) = eval e X.env := by rfl) : PE X (.Attribute e n pos) (tXo X.K n te) := by
  refine ⟨fun pins s σ H Q I h => ?_⟩
  refine attr_of hb (thn (he.run pins s σ H _ I h) fun u s1 hh => ?_)
  obtain ⟨x, H1, I1, rx, a, C, d, fs, v, ex, T, hno, ea, ed, l, q⟩ := hh
  subst ex
  obtain rfl : u = Value.ref a := rx
  obtain ⟨oe, vs, ho, hz, hd⟩ := ea.obj I1
  obtain ⟨mA, hns, hr⟩ := exd_at I1.hok ed
  obtain ⟨od, ho2, hl⟩ := lookIn_ns hns
  obtain ⟨u, hu, ru⟩ := RelO.some_of (v := v) (o := mA n) (by rw [← l]; exact hr n)
  have J : PySem.W.InstAt s1.heap a oe C (some od) := ⟨ho, hz.1, by unfold PySem.W.notCls; rw [hd] <;> rfl, by rw [hz.2]; exact ho2⟩
  exact HandSPX.exc_get I1.kIn J T.ga T.gg T.exC (PySem.W.findObj_own T.hdC hno rfl (by rw [hl, hu])) (handed_of ru)
    ⟨v, H1, I1.tok _, ru, q⟩

/-! ### isinstance -/
/-- its dict, if it has one, is an error's -/
def XDict (H : Hp) (d : Option Addr) : Prop := ∀ dx, d = some dx → ∃ fs, H dx = some (exd dx fs)
theorem XAt.inst {X : Cx} {pins : List (Addr × Obj)} {σ : L2.St} {H : Hp} {s : Shared} {a C : Addr} {d : Option Addr} (I : Inv X pins σ H s) (h : XAt H a C d) (hd : XDict H d) :
    ∃ ox od, PySem.W.InstAt s.heap a ox C od := by
  obtain ⟨oe, vs, ho, hz, hv⟩ := h.obj I
  have nc : PySem.W.notCls oe = true := by unfold PySem.W.notCls; rw [hv] <;> rfl
  cases d with
  | none => exact ⟨oe, none, ho, hz.1, nc, by rw [hz.2]; trivial⟩
  | some dx =>
    obtain ⟨fs, e⟩ := hd dx rfl
    obtain ⟨mA, hns, _⟩ := exd_at I.hok e
    obtain ⟨od, ho2, _⟩ := lookIn_ns hns
    exact ⟨oe, some od, ho, hz.1, nc, by rw [hz.2]; exact ho2⟩
def rIsX (K : PySem.W.Frag) : List V → Hp → VK → Prop := fun xs H Q => ∃ (a C : Addr) (d : Option Addr) (c : V) (cv : Value) (b : Bool),
  xs = [.ref a, c] ∧ ClsV c cv ∧ IsC K C ∧ XAt H a C d ∧ XDict H d ∧ PySem.W.kitOne K (.ref C) cv = some b ∧ Q (.bl b) H
theorem call_isX {X : Cx} : CallR X (.builtin "isinstance") (rIsX X.K) := by
  intro pins s σ H xs us Q I r h
  obtain ⟨a, C, d, c, cv, b, rfl, k, T, ha, hd, e, q⟩ := h
  obtain ⟨u1, u2, rfl, r1, r2⟩ := vals2 r
  obtain rfl := k.eq r2
  obtain rfl : u1 = Value.ref a := r1
  obtain ⟨ox, od, J⟩ := ha.inst I hd
  exact PySem.W.kia_one (PySem.W.kitx_exc (od := od) T.cl T.ga T.gg T.sb T.ca T.sg T.tk T.ob) I.kIn J e (fun z => nomatch z)
    fun tk => ⟨.bl b, H, I.tok tk, rfl, q⟩
def rIsXT (K : PySem.W.Frag) : List V → Hp → VK → Prop := fun xs H Q => ∃ (a C : Addr) (d : Option Addr) (tp : Addr) (cs : List V) (us : List Value) (b : Bool),
  xs = [.ref a, .ref tp] ∧ H tp = some (.tup cs) ∧ Paired ClsV cs us ∧ IsC K C ∧ XAt H a C d ∧ XDict H d ∧ PySem.W.kitAny K (.ref C) us = some b ∧ Q (.bl b) H
theorem call_isXT {X : Cx} : CallR X (.builtin "isinstance") (rIsXT X.K) := by
  intro pins s σ H xs us Q I r h
  obtain ⟨a, C, d, tp, cs, ws, b, rfl, htp, k, T, ha, hd, e, q⟩ := h
  obtain ⟨u1, u2, rfl, r1, r2⟩ := vals2 r
  obtain rfl : u1 = Value.ref a := r1
  obtain rfl : u2 = Value.ref tp := r2
  obtain ⟨ox, od, J⟩ := ha.inst I hd
  obtain ⟨_, its, rv, ⟨oc, dd, dt, sl⟩, h1, h2, n, h3⟩ := (show ObjOk X.prog X.w H s.heap tp (.tup cs) from I.hok tp _ htp)
  obtain rfl := ClsV.all k rv
  dsimp only at h2 h3
  subst h2 h3
  exact PySem.W.kia_tup (PySem.W.kitx_exc (od := od) T.cl T.ga T.gg T.sb T.ca T.sg T.tk T.ob) I.kIn J h1 e (fun z => nomatch z)
    fun tk => ⟨.bl b, H, I.tok tk, rfl, q⟩

/-! ### told() -/
/-- e.m() of an error e, by what stands of its class -/
def tTold (X : Cx) (m : Str) (te : TE) : TE := fun σ H Q => te σ H fun x H1 => ∃ (a C f : Addr) (d : Option Addr) (fd : FuncData) (sp : Sp),
  x = .ref a ∧ IsC X.K C ∧ Meth X.K C m f ∧ XAt H1 a C d ∧ (∀ dx, d = some dx → ∃ fs, H1 dx = some (exd dx fs) ∧ fs.lookup m = none) ∧
    FnOk X.prog X.w X.K X.mg X.base CX0 1 f fd ["self"] sp ∧ Binds X.K fd ["self"] [] ∧ sp [.ref a] H1 Q E0
theorem pe_told {X : Cx} {o : Expr} {m : Str} {te : TE} {pos apos : Pos} {pl : Sem Bool} (he : PE X o te) (hr : Room 1 X.A)
    (ht : eval (.Call (.Attribute o m apos) [] [] pos) X.env = (do
      let ov ← eval o X.env
      standAt apos.atName
      let (f, first) ← holding [ov] (getMethod ov m pl)
      callWith pos f first (backTo pos (starEach [] X.env)) (backToKw pos (keywordEach [] X.env))) := by rfl) :
    PE X (.Call (.Attribute o m apos) [] [] pos) (tTold X m te) := by
  refine ⟨fun pins s σ H Q I h => ?_⟩
  refine PySem.W.methodCall_KW (pl := pl) (thn (he.run pins s σ H _ I h) fun u s1 hh => ?_) ht
  obtain ⟨x, H1, I1, rx, a, C, f, d, fd, sp, rfl, T, M, ha, hd, FO, hb, q⟩ := hh
  obtain rfl : u = Value.ref a := rx
  obtain ⟨mm, fr⟩ := I1.fr
  obtain ⟨oe, vs, ho, hz, hv⟩ := ha.obj I1
  have nc : PySem.W.notCls oe = true := by unfold PySem.W.notCls; rw [hv] <;> rfl
  have go : wpAny (model X.prog X.w) X.A (callWith pos (Value.ref f) [Value.ref a] (backTo pos (starEach [] X.env)) []) (EP X pins σ Q) X.xe s1 :=
    PySem.W.callWith_K0 (first := [.ref a]) I1.kIn M.kp (run_fn (us := [.ref a]) (vs := [.ref a]) FO hr hb .nil pass0 I1 (.cons rfl .nil) q)
  cases d with
  | none =>
    have J : PySem.W.InstAt s1.heap a oe C none := ⟨ho, hz.1, nc, by rw [hz.2]; trivial⟩
    exact PySem.W.method_exc fr I1.ok.mod.kin J T.ga T.gg M.at_ M.fn rfl go
  | some dx =>
    obtain ⟨fs, e, hl⟩ := hd dx rfl
    obtain ⟨mA, hns, rel⟩ := exd_at I1.hok e
    obtain ⟨od, ho2, hk⟩ := lookIn_ns hns
    have J : PySem.W.InstAt s1.heap a oe C (some od) := ⟨ho, hz.1, nc, by rw [hz.2]; exact ho2⟩
    have hm : mA m = none := by
      have z := rel m
      rw [hl] at z
      cases y : mA m with
      | none => rfl
      | some v => rw [y] at z; exact z.elim
    exact PySem.W.method_exc fr I1.ok.mod.kin J T.ga T.gg M.at_ M.fn (by show (PySem.W.lookIn m od).map _ = _; rw [hk, hm]; rfl) go

/-! ### made without own __init__, of nothing -/
theorem pe_bare {X : Cx} {C : Addr} {bmB : List Value} {B newId initId : String} {x : Str} {p pos : Pos} (F : ExcBaseFacts B newId initId bmB)
    (q : PySem.W.excIn X.K C bmB newId = true) (gC : X.mg x = some (.ref C)) (kC : PySem.W.keepIn X.K (.ref C) = true) (hg : Gl X x)
    (hdb : (x == ("__debug__" : Str)) = false := by decide +kernel) :
    PE X (.Call (.Name x p) [] [] pos) (fun _ H Q => ∀ a, H a = none → Q (.ref a) (upd H a (ExO (.ref C) a))) := by
  refine ⟨fun pins s σ H Q I h => ?_⟩
  refine wpAny_Call_Name_kw (ld_glob I hg gC ?_ hdb)
  refine PySem.W.callWith_K0 I.kIn kC ?_
  show wpAny _ _ (call (.ref C) []) _ _ _
  obtain ⟨bm, N, nm, qn, bs, hdct, sn, sub, ab, col, dd, k0, k1, k2, k3, k5, mN, hC, hN, hni, T⟩ := exc_obj I.kIn q
  refine wpAny_call_exc_subT F T hC hN hni (fun h' a hm => ?_) (Nat.zero_le _)
  have hn : H a = none := I.hok.gone hm.new
  obtain ⟨t, ht, _, _⟩ := hm.there
  exact ⟨.ref a, _, I.laidN hm.keeps hm.new hn (exO_ok ht ⟨rfl, rfl⟩ rfl rfl rfl (show 4 < 6 by decide)), rfl, h a hn⟩

/-! ### by a weaker reading -/
theorem PE.imp {X : Cx} {e : Expr} {t t' : TE} (h : PE X e t) (f : ∀ σ H Q, t' σ H Q → t σ H Q) : PE X e t' := ⟨fun pins s σ H Q I q => h.run pins s σ H Q I (f σ H Q q)⟩
theorem PSs.imp {X : Cx} {e : List Stmt} {t t' : TS} (h : PSs X e t) (f : ∀ D σ H, t' D σ H → t D σ H) : PSs X e t' := ⟨fun pins s σ H D I q => h.run pins s σ H D I (f D σ H q)⟩
/-- a reading that may be weakened -/
def up (t : TE) : TE := fun σ H Q => ∃ Q0, t σ H Q0 ∧ ∀ v H', Q0 v H' → Q v H'
theorem PE.up {X : Cx} {e : Expr} {t : TE} (h : PE X e t) : PE X e (Lf.up t) := ⟨fun pins s σ H Q I q => by
  obtain ⟨Q0, q, k⟩ := q
  exact thn (h.run pins s σ H Q0 I q) fun u s1 r => by
    obtain ⟨v, H', I', rv, z⟩ := r
    exact ⟨v, H', I', rv, k v H' z⟩⟩
/-- a class (or another thing) of the module by its name -/
theorem pe_cl {X : Cx} {x : Str} {a : Addr} {pos : Pos} (hg : Gl X x) (hm : X.mg x = some (.ref a)) (hd : (x == ("__debug__" : Str)) = false := by decide +kernel) : PE X (.Name x pos) (tC (.ref a)) := pe_glob hg hm rfl hd
/-- an int of the module by its name -/
theorem pe_gint {X : Cx} {x : Str} {i : Int} {t : Tok} {pos : Pos} (hg : Gl X x) (hm : X.mg x = some (.int i t)) (hd : (x == ("__debug__" : Str)) = false := by decide +kernel) : PE X (.Name x pos) (tC (.int i)) := pe_glob hg hm ⟨t, rfl⟩ hd
theorem same_upd {H : Hp} {p : Addr} {o : HO} (n : H p = none) : Same H (upd H p o) := fun b u e => by rw [upd_ne (ne_of_none e n)]; exact e

/-! ### a def of the module, called by its name -/
structure Def (P : Program) (w : World) (K : PySem.W.Frag) (mg : Str → Option Value) (base : Heap) (CX : CXT) (k : Nat) (x : Str) (ps : List Str) (sp : Sp) : Prop where
  ex : ∃ f fd, mg x = some (.ref f) ∧ PySem.W.keepIn K (.ref f) = true ∧ FnOk P w K mg base CX k f fd ps sp ∧ Binds K fd ps []
section
variable {X : Cx} {CX : CXT} {k : Nat} {x : Str} {ps : List Str} {sp : Sp} {E : XK} {e : Expr} {es : List Expr} {t : TA} {p pos : Pos}
theorem pe_def (D : Def X.prog X.w X.K X.mg X.base CX k x ps sp) (hr : Room k X.A) (hx : Passes CX X E) (hg : Gl X x) (ha : PA X (e :: es) t)
    (hdb : (x == ("__debug__" : Str)) = false := by decide +kernel) (he : starEach (e :: es) X.env = (false, eval e X.env) :: starEach es X.env := by rfl)
    (hpl : (backTo pos (starEach es X.env)).any (·.1) = false := by rfl) : PE X (.Call (.Name x p) (e :: es) [] pos) (fun σ H Q => t σ H fun vs H1 => sp vs H1 Q E) := by
  obtain ⟨f, fd, g, kp, F, b⟩ := D.ex
  exact PE.imp (pe_call F hr hg g kp b .nil hx ha hdb he hpl) fun σ H Q h => by
    show t σ H fun vs H1 => sp (vs ++ []) H1 Q E
    simpa only [List.append_nil] using h
theorem pe_def0 (D : Def X.prog X.w X.K X.mg X.base CX k x ps sp) (hr : Room k X.A) (hx : Passes CX X E) (hg : Gl X x)
    (hdb : (x == ("__debug__" : Str)) = false := by decide +kernel) : PE X (.Call (.Name x p) [] [] pos) (fun _ H Q => sp [] H Q E) := by
  obtain ⟨f, fd, g, kp, F, b⟩ := D.ex
  exact pe_call0 F hr hg g kp b .nil hx hdb
end

/-! ### told, __init__ -/
def spTold (t : Str) : Sp := fun vs H Q _ => ∃ v, vs = [v] ∧ Q (.str t) H
def spIni1 (C : Addr) (f : Str) : Sp := fun vs H Q _ => ∃ a v, vs = [.ref a, v] ∧ H a = some (exo a C none) ∧
  ∀ d, H d = none → d ≠ a → Q .non (upd (upd H d (exd d [(f, v)])) a (exo a C (some d)))
def spIni2 (C : Addr) (f g : Str) : Sp := fun vs H Q _ => ∃ a v u, vs = [.ref a, v, u] ∧ H a = some (exo a C none) ∧
  ∀ d, H d = none → d ≠ a → Q .non (upd (upd (upd H d (exd d [(f, v)])) a (exo a C (some d))) d (exd d [(g, u), (f, v)]))
section
variable {P : Program} {w : World} {K : PySem.W.Frag} {mg : Str → Option Value} {base : Heap} {C f : Addr} {fd : FuncData} {q : Str} {a : Arguments} {sc : Scope}
theorem vis_of {N ps : List Str} (S : FnScope N ps sc) {x : Str} (h : x ∈ ps) : Vis sc x := by
  rcases S.par x h with e | e
  · exact .inl e
  · exact .inr (.inl e)
theorem told_ok {t : Str} {j : Nat} {p p2 : Pos} (F : FunD K "told" q a [.Return (some (.Constant (.str t) j p)) p2] sc [] [] f fd) (S : FnScope ["self"] ["self"] sc) :
    FnOk P w K mg base CX0 1 f fd ["self"] (spTold t) := by
  refine F.ok S (fun vs H Q E h => ?_) (fun cdv A outer s H vs Q E hr h => ⟨_, PSs.nox (pss_one (ps_ret pe_str)), ?_⟩)
  · obtain ⟨v, rfl, _⟩ := h
    rfl
  · obtain ⟨v, rfl, k⟩ := h
    exact k
theorem ini1_ok {fl : Str} {p1 p2 p3 p4 : Pos} (T : OexC K C) (no : PySem.W.findIn K (.ref C) fl = some none)
    (F : FunD K "__init__" q a [.Assign [.Attribute (.Name "self" p1) fl p2] (.Name fl p3) p4] sc [] [] f fd) (S : FnScope ["self", fl] ["self", fl] sc)
    (d1 : (fl == ("__debug__" : Str)) = false := by decide +kernel) (d2 : (fl == ("__classdict__" : Str)) = false := by decide +kernel) :
    FnOk P w K mg base CX0 1 f fd ["self", fl] (spIni1 C fl) := by
  refine F.ok S (fun vs H Q E h => ?_) (fun cdv A outer s H vs Q E hr h => ⟨_, PSs.nox (pss_one (ps_ost (pe_var (i := 0) rfl (vis_of S (by simp))) (pe_var (i := 1) rfl (vis_of S (by simp)) d1 d2))), ?_⟩)
  · obtain ⟨a, v, rfl, _⟩ := h
    rfl
  · obtain ⟨a, v, rfl, e, k⟩ := h
    exact ⟨_, rfl, _, rfl, a, C, rfl, T, no, .inl ⟨e, fun dx n ne => k dx n ne⟩⟩
theorem ini2_ok {fl gl : Str} {p1 p2 p3 p4 q1 q2 q3 q4 : Pos} (T : OexC K C) (no : PySem.W.findIn K (.ref C) fl = some none) (no2 : PySem.W.findIn K (.ref C) gl = some none)
    (F : FunD K "__init__" q a [.Assign [.Attribute (.Name "self" p1) fl p2] (.Name fl p3) p4, .Assign [.Attribute (.Name "self" q1) gl q2] (.Name gl q3) q4] sc [] [] f fd) (S : FnScope ["self", fl, gl] ["self", fl, gl] sc)
    (d1 : (fl == ("__debug__" : Str)) = false := by decide +kernel) (d2 : (fl == ("__classdict__" : Str)) = false := by decide +kernel)
    (d3 : (gl == ("__debug__" : Str)) = false := by decide +kernel) (d4 : (gl == ("__classdict__" : Str)) = false := by decide +kernel) :
    FnOk P w K mg base CX0 1 f fd ["self", fl, gl] (spIni2 C fl gl) := by
  refine F.ok S (fun vs H Q E h => ?_) (fun cdv A outer s H vs Q E hr h => ⟨_, PSs.nox (pss_cons (ps_ost (pe_var (i := 0) rfl (vis_of S (by simp))) (pe_var (i := 1) rfl (vis_of S (by simp)) d1 d2))
    (pss_one (ps_ost (pe_var (i := 0) rfl (vis_of S (by simp))) (pe_var (i := 2) rfl (vis_of S (by simp)) d3 d4)))), ?_⟩)
  · obtain ⟨a, v, u, rfl, _⟩ := h
    rfl
  · obtain ⟨a, v, u, rfl, e, k⟩ := h
    exact ⟨_, rfl, _, rfl, a, C, rfl, T, no, .inl ⟨e, fun dx n ne => ⟨_, rfl, _, rfl, a, C, rfl, T, no2, .inr ⟨dx, _, upd_same, by rw [upd_ne ne]; exact upd_same, (by show 1 ≤ 900; decide), k dx n ne⟩⟩⟩⟩
end

/-! ### an error class with all that is told of it -/
section
variable (P : Program) (w : World) (K : PySem.W.Frag) (mg : Str → Option Value) (base : Heap)
structure Tells (C : Addr) (t : Str) : Prop where
  ex : ∃ f fd, Meth K C "told" f ∧ FnOk P w K mg base CX0 1 f fd ["self"] (spTold t) ∧ Binds K fd ["self"] []
/-- the class x, made of one thing, its field -/
structure Err1 (x fl t : Str) : Prop where
  g : mg x = some (.ref (He.ga K x))
  c : ErrC K (He.ga K x)
  no : PySem.W.findIn K (.ref (He.ga K x)) fl = some none
  tl : Tells P w K mg base (He.ga K x) t
  ini : ∃ fI fd, PySem.W.findIn K (.ref (He.ga K x)) "__init__" = some (some (.ref fI)) ∧ PySem.W.typeIn K (.ref fI) = some (.type "function") ∧
    FnOk P w K mg base CX0 1 fI fd ["self", fl] (spIni1 (He.ga K x) fl) ∧ Binds K fd ["self", fl] []
structure Err2 (x fl gl t : Str) : Prop where
  g : mg x = some (.ref (He.ga K x))
  c : ErrC K (He.ga K x)
  no : PySem.W.findIn K (.ref (He.ga K x)) fl = some none
  no2 : PySem.W.findIn K (.ref (He.ga K x)) gl = some none
  tl : Tells P w K mg base (He.ga K x) t
  ini : ∃ fI fd, PySem.W.findIn K (.ref (He.ga K x)) "__init__" = some (some (.ref fI)) ∧ PySem.W.typeIn K (.ref fI) = some (.type "function") ∧
    FnOk P w K mg base CX0 1 fI fd ["self", fl, gl] (spIni2 (He.ga K x) fl gl) ∧ Binds K fd ["self", fl, gl] []
/-- made of nothing -/
structure Err0 (x t : Str) : Prop where
  g : mg x = some (.ref (He.ga K x))
  c : ErrC K (He.ga K x)
  ec : PySem.W.excIn K (He.ga K x) He.veBase "ValueError.__new__" = true
  tl : Tells P w K mg base (He.ga K x) t
end
section
variable {X : Cx} {x fl gl t : Str} {e e2 : Expr} {ta tb : TE} {p pos : Pos}
theorem pe_err1 (E : Err1 X.prog X.w X.K X.mg X.base x fl t) (hr : Room 2 X.A) (hg : Gl X x) (ha : PE X e ta) (hdb : (x == ("__debug__" : Str)) = false := by decide +kernel)
    (hs : starEach [e] X.env = (false, eval e X.env) :: starEach [] X.env := by rfl) :
    PE X (.Call (.Name x p) [e] [] pos) (fun σ H Q => ta σ H fun v H1 => ∀ a d H', H1 a = none → H1 d = none → Same H1 H' → XAt H' a (He.ga X.K x) (some d) → H' d = some (exd d [(fl, v)]) → Q (.ref a) H') := by
  obtain ⟨fI, fd, i1, i2, F, b⟩ := E.ini
  refine PE.imp (pe_new E.c.o i1 i2 F hr b pass0 hg E.g (pa_cons (PE.up ha) pa_nil hs) hdb hs rfl) fun σ H Q h => ?_
  refine ⟨_, h, fun v H1 k => ⟨(by show 1 ≤ 1000; decide), fun a na => ⟨a, v, rfl, upd_same, fun d nd ne => ?_⟩⟩⟩
  have nd1 : H1 d = none := by rw [upd_ne ne] at nd; exact nd
  refine ⟨rfl, k a d _ na nd1 (fun b o q => ?_) (.inl upd_same) (by rw [upd_ne ne]; exact upd_same)⟩
  rw [upd_ne (ne_of_none q na), upd_ne (ne_of_none q nd1), upd_ne (ne_of_none q na)]
  exact q
theorem pe_err2 (E : Err2 X.prog X.w X.K X.mg X.base x fl gl t) (hr : Room 2 X.A) (hg : Gl X x) (ha : PE X e ta) (hb : PE X e2 tb) (hdb : (x == ("__debug__" : Str)) = false := by decide +kernel)
    (hs : starEach [e, e2] X.env = (false, eval e X.env) :: starEach [e2] X.env := by rfl) (hs2 : starEach [e2] X.env = (false, eval e2 X.env) :: starEach [] X.env := by rfl)
    (hp : (backTo pos (starEach [e2] X.env)).any (·.1) = false := by rfl) :
    PE X (.Call (.Name x p) [e, e2] [] pos) (fun σ H Q => ta σ H fun v H0 => Lf.up tb σ H0 fun u H1 => ∀ a d H', H1 a = none → H1 d = none → Same H1 H' → XAt H' a (He.ga X.K x) (some d) → H' d = some (exd d [(gl, u), (fl, v)]) → Q (.ref a) H') := by
  obtain ⟨fI, fd, i1, i2, F, b⟩ := E.ini
  refine PE.imp (pe_new E.c.o i1 i2 F hr b pass0 hg E.g (pa_cons (PE.up ha) (pa_cons (PE.up hb) pa_nil hs2) hs) hdb hs hp) fun σ H Q h => ?_
  refine ⟨_, h, fun v H0 h2 => ?_⟩
  obtain ⟨Q0, h3, h4⟩ := h2
  refine ⟨Q0, h3, fun u H1 z => ?_⟩
  have k := h4 u H1 z
  refine ⟨(by show 2 ≤ 1000; decide), fun a na => ⟨a, v, u, rfl, upd_same, fun d nd ne => ?_⟩⟩
  have nd1 : H1 d = none := by rw [upd_ne ne] at nd; exact nd
  refine ⟨rfl, k a d _ na nd1 (fun b o q => ?_) (.inl (by rw [upd_ne ne.symm]; exact upd_same)) upd_same⟩
  rw [upd_ne (ne_of_none q nd1), upd_ne (ne_of_none q na), upd_ne (ne_of_none q nd1), upd_ne (ne_of_none q na)]
  exact q
theorem pe_err0 (E : Err0 X.prog X.w X.K X.mg X.base x t) (hg : Gl X x) (hdb : (x == ("__debug__" : Str)) = false := by decide +kernel) :
    PE X (.Call (.Name x p) [] [] pos) (fun _ H Q => ∀ a H', H a = none → Same H H' → XAt H' a (He.ga X.K x) none → Q (.ref a) H') :=
  PE.imp (pe_bare F.excBase_ValueError E.ec E.g E.c.o.kC hg hdb) fun σ H Q h a na => h a _ na (same_upd na) (.inr ⟨rfl, upd_same⟩)
end
end Lf

set_option Elab.async false
set_option linter.all false
set_option maxRecDepth 100000
set_option maxHeartbeats 4000000
/-! set(xs) of distinct texts, however many; how many there are. -/
namespace Lf
open PySem PySem.Spec PyProof.Rows L2
abbrev HasS (P : Program) (w : World) (h : Heap) (a : Addr) (xs : List Str) (i : Nat) : Prop := h.SetOf (PySem.strKind P w) a (fun y => (xs.take i).any (· == y)) i
theorem take_next {xs : List Str} (nd : xs.Nodup) {i : Nat} (hi : i < xs.length) :
    (xs.take i).any (· == xs.getD i Str.empty) = false ∧ ∀ y, ((xs.take i).any (· == y) || decide (y = xs.getD i Str.empty)) = (xs.take (i + 1)).any (· == y) := by
  have eg : xs.getD i Str.empty = xs[i] := by simp [List.getD, hi]
  rw [eg]
  have split : xs.take (i + 1) = xs.take i ++ [xs[i]] := by simp
  constructor
  · rw [List.any_eq_false]
    intro y hy hb
    have e : y = xs[i] := by simpa using hb
    subst e
    obtain ⟨j, hj, ej⟩ := List.mem_iff_getElem.mp hy
    rw [List.length_take] at hj
    have ej2 : xs[j] = xs[i] := by rw [← ej, List.getElem_take]
    have ji : j < i := by omega
    exact absurd ej2 (List.pairwise_iff_getElem.mp nd j i (by omega) hi ji)
  · intro y
    rw [split, List.any_append]
    congr 1
    by_cases e : y = xs[i]
    · subst e; simp
    · have q : (xs[i] == y) = false := beq_eq_false_iff_ne.mpr fun z => e z.symm
      simp [e, q]
section
variable {P : Program} {w : World} {A : Around} {R : Result → Shared → Prop} {It : Addr} {fp wr : List Addr} {G : Array GenState → Array GenState → Prop} {n : Nat} {Pv : Nat → Value → Prop} {Sv : Nat → Shared → Prop}
/-- the loop that fills a set: distinct texts -/
theorem fillS (W : WalksS P w A.in1 It fp wr G n Pv Sv) {a : Addr} (off : a ∉ fp) {xs : List Str} (nd : xs.Nodup) (len : xs.length = n) (few : n + 1 < scanBound)
    (read : ∀ i v, Pv i v → ∃ t, v = .str (xs.getD i Str.empty) t) : ∀ (m i : Nat) (s : Shared), i + m = n → Sv i s → HasS P w s.heap a xs i →
      (∀ s', Moved (a :: wr) G s s' → HasS P w s'.heap a xs n → R (.ok (.ret .none)) s') →
      codeAny (model P w) A (.builtin "set.update.loop" ⟨[.ref a, .ref It], []⟩) R s := by
  have offw : a ∉ wr := fun z => off (W.sub _ z)
  have keep : ∀ {s s' : Shared} {i : Nat}, Moved wr G s s' → HasS P w s.heap a xs i → HasS P w s'.heap a xs i := fun mv hs => by
    obtain ⟨o, es, ep, t, ho, r⟩ := hs
    exact ⟨o, es, ep, t, mv.heap a _ offw ho, r⟩
  intro m
  induction m with
  | zero =>
    intro i s e st hs fin
    obtain rfl : i = n := by omega
    refine codeAny_builtin PyProof.Rows.F.entry_set_update_loop ?_
    rw [Around.under_plainId PyProof.Rows.F.plain_set_update_loop _]
    show wpAny _ _ (pyNext (.ref It) >>= _) _ _ _
    exact wpAny_bind (W.done s _ _ st fun s' mv => wpAny_pure (fin s' (mv.mono fun b hb => List.mem_cons_of_mem _ hb) (keep mv hs)))
  | succ m ih =>
    intro i s e st hs fin
    have hi : i < n := by omega
    refine codeAny_builtin PyProof.Rows.F.entry_set_update_loop ?_
    rw [Around.under_plainId PyProof.Rows.F.plain_set_update_loop _]
    show wpAny _ _ (pyNext (.ref It) >>= _) _ _ _
    refine wpAny_bind (W.item i s _ _ hi st fun v s' pv st' mv => ?_)
    obtain ⟨t, rfl⟩ := read i v pv
    have hs' := keep mv hs
    obtain ⟨new, grow⟩ := take_next nd (show i < xs.length by omega)
    show wpAny _ _ (holding [Value.str _ t] (setAdd a (.str _ t)) >>= _) _ _ _
    refine wpAny_bind (wpAny_holding ?_)
    unfold setAdd
    refine wpAny_holding (wpAny_bind ((PySem.strKind P w).pyHash (strKind_is _ _ _ _) ?_))
    refine wpAny_setAddHashed_of (knd := PySem.strKind P w) (s := { s' with toks := s'.toks + 1 }) (strKind_is _ _ _ _) rfl hs' (by omega) fun h' sb hs2 => ?_
    have hs3 : HasS P w h' a xs (i + 1) := SetOf_congr hs2 grow (by show (if (xs.take i).any (· == xs.getD i Str.empty) = true then i else i + 1) = i + 1; rw [new]; rfl)
    refine wpAny_pure ⟨plainId_quiet PyProof.Rows.F.plain_set_update_loop _, ih (i + 1) _ (by omega) (W.frame _ s' _ _ st' (Nat.le_succ _) fun b hb o z => ?_) hs3 fun s2 mv2 q => fin s2 ?_ q⟩
    · rw [sb.2 b fun y => off (y ▸ hb)]
      exact z
    · refine Moved.trans W.gtrans ((mv.mono fun b hb => List.mem_cons_of_mem _ hb).then_heap (Nat.le_succ _) fun b o hb z => ?_) mv2
      rw [sb.2 b fun y => hb (by rw [y]; exact List.mem_cons_self)]
      exact z
end
/-- an empty set, newly laid -/
abbrev emptySet (led : Bool) : Obj := { cls := .type "set", dict := none, data := .set #[] 0 (.fresh 0 0 led) }
section
variable {P : Program} {w : World} {A : Around} {E : Value → Shared → Prop} {s : Shared} {l : Addr} {its : Array Value} {xs : List Str}
/-- what is wanted of it: a set at the next place, of these texts; all else as it was -/
abbrev SetMade (P : Program) (w : World) (s : Shared) (xs : List Str) (s' : Shared) : Prop :=
  ∃ h' tk, s' = { s with heap := h', toks := tk } ∧ HasS P w h' s.heap.objs.size xs xs.length ∧ ∀ b o, b < s.heap.objs.size → s.heap.get? b = some o → h'.get? b = some o
theorem setInit {led : Bool} {Q : Fin → Shared → Prop} (calm : A.handled = none) (hl : s.heap.IsList l its) (ht : StrsAre its.toList xs) (nd : xs.Nodup) (few : xs.length + 1 < scanBound)
    (h : ∀ s', SetMade P w s xs s' → Q (.done (.ret .none)) s') :
    wpAny (model P w) A (Builtin.«set.__init__» ⟨[.ref s.heap.objs.size, .ref l], []⟩) Q E { s with heap := s.heap.push (emptySet led) } := by
  obtain ⟨⟨oc, od, odt, osl⟩, hol, hcl, nl, hdl⟩ := hl
  dsimp only at hcl hdl
  subst hcl hdl
  have hS : (s.heap.push (emptySet led)).get? s.heap.objs.size = some (emptySet led) := Heap.get?_push_size _ rfl
  have hT : Shared.TypeIs { s with heap := s.heap.push (emptySet led) } (.ref s.heap.objs.size) "set" := ⟨_, hS, rfl⟩
  have hol' : (s.heap.push (emptySet led)).get? l = some { cls := .type "list", dict := od, data := .seq its nl, slots := osl } := Heap.get?_push_of_some _ hol
  have f1 := F.sub_list_set
  have f2 := F.sub_list_frozenset
  have f3 : (Value.type "list" == Value.type "dict") = false := by decide
  have hl1 : (s.heap.push (emptySet led)).IsList l its := ⟨_, hol', rfl, nl, rfl⟩
  unfold Builtin.«set.__init__» noKeywords Builtin.Frozenset.updateFrom
  generalize hPI : pyIter = PI
  wp_walk
  subst hPI
  refine wpAny_pyIter_list hl1 (wpAny_bind (wpAny_runValue ?_))
  have lS : l < s.heap.objs.size := Heap.lt_size hol
  have calm3 : A.in1.handled = none := by simp [calm]
  have nI : l ≠ (s.heap.push (emptySet led)).objs.size := by
    rw [Heap.size_push]
    exact Nat.ne_of_lt (Nat.lt_succ_of_lt lS)
  have off : s.heap.objs.size ∉ [(s.heap.push (emptySet led)).objs.size, l] := by
    rw [Heap.size_push]
    simp only [List.mem_cons, List.not_mem_nil, or_false, not_or]
    exact ⟨Nat.ne_of_lt (Nat.lt_succ_self _), Nat.ne_of_gt lS⟩
  have sz : xs.length = its.size := by rw [← StrsAre.len_eq ht, Array.length_toList]
  refine fillS ((Walks.list calm3 _ l nI its).toS) off nd sz (by omega) (fun i v hv => SS.strs_at ht i v (by rw [Array.getElem?_toList]; exact hv)) its.size 0 _ (Nat.zero_add _) ?_ ?_ fun s' mv q => ?_
  · exact ⟨⟨_, Heap.get?_push_size _ rfl, rfl, rfl⟩, hl1.push _⟩
  · exact SetOf_congr ((setObjOf_fresh (knd := PySem.strKind P w) led).setOf (Heap.get?_push_of_some _ hS) (by unfold scanBound; omega)) (fun _ => rfl) rfl
  · obtain ⟨h', g', d', tk', os'⟩ := s'
    obtain rfl : g' = s.gens := mv.gens
    obtain rfl : d' = s.drawn := mv.drawn
    obtain rfl : os' = s.os := mv.os
    show wpAny _ _ _ _ _ _
    refine wpAny_pure ?_
    show wpAny _ _ (ret Value.none) _ _ _
    refine wpAny_pure (h _ ⟨h', tk', rfl, by rw [sz]; exact q, fun b o hb z => mv.heap b o ?_ (Heap.get?_push_of_some _ (Heap.get?_push_of_some _ z))⟩)
    simp only [List.mem_cons, List.not_mem_nil, or_false, not_or]
    rw [Heap.size_push]
    exact ⟨Nat.ne_of_lt hb, Nat.ne_of_lt (Nat.lt_succ_of_lt hb)⟩
theorem setOfTexts {Q : Value → Shared → Prop} (calm : A.handled = none) (hl : s.heap.IsList l its) (ht : StrsAre its.toList xs) (nd : xs.Nodup) (few : xs.length + 1 < scanBound)
    (h : ∀ s', SetMade P w s xs s' → Q (.ref s.heap.objs.size) s') : wpAny (model P w) A (call (.type "set") [.ref l]) Q E s := by
  obtain ⟨c, tl, mro⟩ := F.called_set.mro
  have g1 := F.called_set.made
  have g2 := F.called_set.sub
  refine wpAny_call (codeAny_of_tree ?_)
  show wpAny _ _ (callAny (.type "set") _) _ _ _
  refine wpAny_pure ⟨Code.quiet_builtin _ (by decide +kernel), codeAny_builtin F.entry_type_call ?_⟩
  rw [Around.under_plain (weight_type_call_type "set" [.ref l] []) rfl]
  have g3 := F.called_set.notType
  have g4 := F.called_set.canCreate
  have g5 := F.typeCall_set_1 (.ref l)
  repeat (any_goals (first | assumption | wp_step))
  refine codeAny_mono (code_set_new_1 (.ref l) (E := E) (Q₁ := fun o s1 => ∃ led : Bool, o = .ref s.heap.objs.size ∧ s1 = { s with heap := s.heap.push (emptySet led) }) fun led => ⟨led, rfl, rfl⟩) fun r s1 hr => ?_
  cases r with
  | error e => exact hr
  | ok fl =>
    cases fl with
    | ret o =>
      obtain ⟨led, rfl, rfl⟩ := hr
      have hT : Shared.TypeIs { s with heap := s.heap.push (emptySet led) } (.ref s.heap.objs.size) "set" := ⟨_, Heap.get?_push_size _ rfl, rfl⟩
      have g6 := F.called_set.init.lookup
      have g7 := F.called_set.init.bind (.ref s.heap.objs.size)
      repeat (any_goals (first | assumption | wp_step))
      refine codeAny_mono (codeAny_call_builtin (R := wants (fun r s2 => r = .none ∧ SetMade P w s xs s2) E) F.called_set.init.plain F.entry_set_init (check_set_init_1 hT (setInit (by simp [calm]) hl ht nd few fun s2 q => ⟨rfl, q⟩))) fun r2 s2 hr2 => ?_
      cases r2 with
      | error e => exact hr2
      | ok f2 =>
        cases f2 with
        | ret v =>
          obtain ⟨rfl, q⟩ := hr2
          repeat (any_goals (first | assumption | wp_step))
          exact h _ q
        | _ => exact hr2.elim
    | _ => exact hr.elim
end
/-- len(set(xs)), xs a list of distinct texts -/
def tCount (K : PySem.W.Frag) (ta : TE) : TE := fun σ H Q => ta σ H fun x H1 => ∃ (l : Addr) (xs : List Str), x = .ref l ∧ SqL K H1 l (xs.map V.str) ∧ xs.Nodup ∧ xs.length ≤ 4000 ∧ Q (.int xs.length) H1
theorem pe_count {X : Cx} {a : Expr} {ta : TE} {p p2 q pos : Pos} (hc : X.calm = true) (hg : Gl X "len") (hm : X.mg "len" = none) (hg2 : Gl X "set") (hm2 : X.mg "set" = none) (ha : PE X a ta)
    (na : starEach [a] X.env = (false, eval a X.env) :: starEach [] X.env := by rfl) : PE X (.Call (.Name "len" p) [.Call (.Name "set" p2) [a] [] q] [] pos) (tCount X.K ta) := by
  refine ⟨fun pins s σ H Q I h => ?_⟩
  refine Call_ (ld_blt I hg hm boot_len (PyProof.Rows.callWith_builtin1 (PyProof.Rows.args_cons ?_ rfl) rfl rfl))
  refine Call_ (ld_blt I hg2 hm2 boot_set (PyProof.Rows.callWith_type1 (PyProof.Rows.args_cons (thn (ha.run pins s σ H _ I h) fun v s1 hh => PyProof.Rows.args_nil ?_) na) na rfl))
  obtain ⟨x, H1, I1, r1, l, xs, rfl, hq, nd, few, q1⟩ := hh
  cases r1
  obtain ⟨its, r, pl, hz⟩ := I1.list hq
  refine setOfTexts (I1.ok.hd hc) pl.isList (by simpa using strsAre_of r) nd (by unfold scanBound; omega) fun s' hs => PyProof.Rows.args_nil ?_
  obtain ⟨h', tk, rfl, ⟨o, es, ep, t, ho, hex, hd, _, _, _, hf, hn⟩, hk⟩ := hs
  have I2 : Inv X pins σ H1 { s1 with heap := h', toks := tk } := I1.kept fun b o z => hk b o (Heap.lt_size z) z
  exact call_len_set ho hex hd hf (by rw [hn]; omega) ⟨.int xs.length, H1, I2.tok _, ⟨_, by rw [hn]⟩, q1⟩
/-- xs + ys, lists that are read -/
def rCatL (K : PySem.W.Frag) : R2 := fun x y H Q => ∃ l b xs zs, x = .ref l ∧ y = .ref b ∧ SqL K H l xs ∧ SqL K H b zs ∧ xs.length + zs.length ≤ sizeLine ∧ ∀ p, H p = none → Q (.ref p) (upd H p (.lst (xs ++ zs)))
theorem op_catL {X : Cx} : OpR X (binaryOp .Add) (rCatL X.K) := by
  intro pins s σ H x y v u Q I rx ry h
  obtain ⟨l, b, xs, zs, rfl, rfl, h1, h2, hz, q⟩ := h
  cases rx
  cases ry
  obtain ⟨is, r1, ⟨⟨c1, d1, t1, s1⟩, n1, e1, k1, _, m1⟩, _⟩ := I.list h1
  obtain ⟨js, r2, ⟨⟨c2, d2, t2, s2⟩, n2, e2, k2, _, m2⟩, _⟩ := I.list h2
  dsimp only at k1 m1 k2 m2
  subst k1 m1 k2 m2
  have l1 := r1.length
  have l2 := r2.length
  refine concat_meets ⟨_, e1, rfl⟩ ⟨_, e2, rfl⟩ noFill_list_add seq_list_add F.slot_list_add F.entry_list_add (F.args_list_add_2 _ _)
    (list_addW l b is.toArray js.toArray n1 n2 d1 d2 s1 s2 (by simp only [List.size_toArray]; omega)) ⟨e1, e2, ?_⟩
  have ea : is.toArray ++ js.toArray = (is ++ js).toArray := by simp
  rw [ea]
  exact ⟨.ref _, _, I.lnew (t' := s.toks) (r1.append r2) (by rw [List.length_append]; omega), rfl, q _ I.fresh⟩
end Lf

set_option Elab.async false
set_option linter.all false
set_option maxRecDepth 100000
set_option maxHeartbeats 4000000
/-! Heaps that grow; data. -/
namespace Lf
open PySem PySem.Spec PyProof.Rows L2
/-- all but lists stay -/
def Solid (H H' : Hp) : Prop := ∀ b o, H b = some o → (∀ xs, o ≠ .lst xs) → H' b = some o
theorem Solid.refl (H : Hp) : Solid H H := fun _ _ h _ => h
theorem Solid.trans {H H1 H2 : Hp} (a : Solid H H1) (b : Solid H1 H2) : Solid H H2 := fun c o h n => b c o (a c o h n) n
theorem Solid.of {H H' : Hp} (e : Same H H') : Solid H H' := fun b o h _ => e b o h
theorem Solid.lst {H : Hp} {l : Addr} {xs ys : List V} (h : H l = some (.lst xs)) : Solid H (upd H l (.lst ys)) := fun b o e n => by
  rw [upd_ne (fun z => by rw [z, h] at e; cases e; exact n xs rfl)]
  exact e
theorem exo_nl {a C : Addr} {d : Option Addr} (xs : List V) : exo a C d ≠ .lst xs := fun z => by
  have z' : HO.ext _ = HO.lst xs := z
  cases z'
theorem exO_nl {a : Addr} {c : Value} (xs : List V) : ExO c a ≠ .lst xs := fun z => by
  have z' : HO.ext _ = HO.lst xs := z
  cases z'
theorem exd_nl {a : Addr} {fs : List (Str × V)} (xs : List V) : exd a fs ≠ .lst xs := fun z => by
  have z' : HO.ext _ = HO.lst xs := z
  cases z'
theorem XAt.solid {H H' : Hp} {a C : Addr} {d : Option Addr} (h : XAt H a C d) (s : Solid H H') : XAt H' a C d := by
  rcases h with h | ⟨e, h⟩
  · exact .inl (s _ _ h exo_nl)
  · exact .inr ⟨e, s _ _ h exO_nl⟩
/-- all but the thing at l stay -/
def But (l : Addr) (H H' : Hp) : Prop := ∀ b o, b ≠ l → H b = some o → H' b = some o
theorem But.refl {l : Addr} {H : Hp} : But l H H := fun _ _ _ h => h
theorem But.trans {l : Addr} {H H1 H2 : Hp} (a : But l H H1) (b : But l H1 H2) : But l H H2 := fun c o n h => b c o n (a c o n h)
theorem But.of {l : Addr} {H H' : Hp} (e : Same H H') : But l H H' := fun b o _ h => e b o h
theorem But.upd {l : Addr} {H : Hp} {o : HO} : But l H (upd H l o) := fun b u n h => by rw [upd_ne n]; exact h
theorem Same.but {l : Addr} {H0 H H' : Hp} (s : Same H0 H) (n : H0 l = none) (b : But l H H') : Same H0 H' := fun c o h => b c o (ne_of_none h n) (s c o h)
theorem SqT.same {K : PySem.W.Frag} {H H' : Hp} {a : Addr} {xs : List V} (e : Same H H') (h : SqT K H a xs) : SqT K H' a xs := by
  rcases h with (h | ⟨o, h⟩) | h
  · exact .inl (.inl (e _ _ h))
  · exact .inl (.inr ⟨o, e _ _ h⟩)
  · exact .inr h
theorem But.solid {l : Addr} {H H' : Hp} {xs : List V} (h : H l = some (.lst xs)) (b : But l H H') : Solid H H' := fun c o e n => b c o (fun z => by rw [z, h] at e; cases e; exact n xs rfl) e
theorem ifT {c : Bool} {A B : Prop} (hc : c = true) (h : A) : if c = true then A else B := by
  rw [if_pos hc]
  exact h
theorem ifF {c : Bool} {A B : Prop} (hc : c = false) (h : B) : if c = true then A else B := by
  rw [hc, if_neg Bool.false_ne_true]
  exact h
theorem pair_get {α β : Type} {F : α → β → Prop} : ∀ {as : List α} {bs : List β} {i : Nat} {a : α}, Paired F as bs → as[i]? = some a → ∃ b, bs[i]? = some b ∧ F a b
  | _, _, _, _, .nil, e => by simp at e
  | _, _, 0, _, .cons r _, e => by simp at e; subst e; exact ⟨_, rfl, r⟩
  | _, _, i + 1, a, .cons _ t, e => by
    obtain ⟨b, h1, h2⟩ := pair_get (i := i) (a := a) t (by simpa using e)
    exact ⟨b, by simpa using h1, h2⟩
theorem take_snoc {α : Type} {l : List α} {i : Nat} {x : α} (h : l[i]? = some x) : l.take (i + 1) = l.take i ++ [x] := by
  obtain ⟨hi, e⟩ := List.getElem?_eq_some_iff.mp h
  rw [← e]
  simp
theorem map_at {α : Type} {f : α → V} {l : List α} {i : Nat} {y : V} (h : (l.map f)[i]? = some y) : ∃ a, l[i]? = some a ∧ y = f a := by
  rw [List.getElem?_map] at h
  cases e : l[i]? with
  | none => rw [e] at h; cases h
  | some a => rw [e] at h; exact ⟨a, rfl, (Option.some.inj h).symm⟩
theorem eqv_same {d : PyData} (h : SeqAt.shaped d = true) : (!PyData.eqv d d) = false := by
  rw [SeqAt.eqv_refl d (SeqAt.canLay_of_shaped h)]
  rfl
mutual
theorem dp_same {K : PySem.W.Frag} {H H' : Hp} (e : Same H H') : ∀ {v : V} {d : PyData}, Dp K H v d → Dp K H' v d
  | _, _, .non => .non
  | _, _, .bl b => .bl b
  | _, _, .int i => .int i
  | _, _, .str x => .str x
  | _, _, .lst h r => .lst (L2.Same.seq e h) (dpAll_same e r)
  | _, _, .tup h r => .tup (SqT.same e h) (dpAll_same e r)
theorem dpAll_same {K : PySem.W.Frag} {H H' : Hp} (e : Same H H') : ∀ {vs : List V} {ds : List PyData}, DpAll K H vs ds → DpAll K H' vs ds
  | _, _, .nil => .nil
  | _, _, .cons h r => .cons (dp_same e h) (dpAll_same e r)
end
end Lf

set_option Elab.async false
set_option linter.all false
set_option maxRecDepth 100000
set_option maxHeartbeats 4000000
/-! Small things that many texts want. -/
namespace Lf
open PySem PySem.Spec PyProof.Rows L2
theorem yesT {σ : L2.St} {H : Hp} {A B : Hp → Prop} (h : A H) : tYes σ H fun b H3 => if b = true then A H3 else B H3 := by
  show if true = true then A H else B H
  rw [if_pos rfl]
  exact h
theorem pe_gstr {X : Cx} {x v : Str} {t : Tok} {pos : Pos} (hg : Gl X x) (hm : X.mg x = some (.str v t)) (hd : (x == ("__debug__" : Str)) = false := by decide +kernel) : PE X (.Name x pos) (tC (.str v)) := pe_glob hg hm ⟨t, rfl⟩ hd
theorem map_get {α β : Type} {f : α → β} {l : List α} {i : Nat} {y : β} (h : (l.map f)[i]? = some y) : ∃ a, l[i]? = some a ∧ y = f a := by
  rw [List.getElem?_map] at h
  cases z : l[i]? with
  | none => rw [z] at h; cases h
  | some a => rw [z] at h; exact ⟨a, rfl, (Option.some.inj h).symm⟩
theorem get_map {α β : Type} {f : α → β} {l : List α} {i : Nat} {a : α} (h : l[i]? = some a) : (l.map f)[i]? = some (f a) := by rw [List.getElem?_map, h]; rfl
theorem get_lt {α : Type} {l : List α} {i : Nat} {a : α} (h : l[i]? = some a) : i < l.length := (List.getElem?_eq_some_iff.mp h).1
theorem lt_get {α : Type} {l : List α} {i : Nat} (h : i < l.length) : ∃ a, l[i]? = some a := ⟨_, List.getElem?_eq_getElem h⟩
theorem nil_of {H H' : Hp} {p : Addr} (s : Same H H') (n : H' p = none) : H p = none := by
  cases e : H p with
  | none => rfl
  | some o => rw [s _ _ e] at n; cases n
theorem But.nil {H H' : Hp} {l p : Addr} (s : But l H H') (np : p ≠ l) (n : H' p = none) : H p = none := by
  cases e : H p with
  | none => rfl
  | some o => rw [s _ _ np e] at n; cases n
theorem tyx_same {K : PySem.W.Frag} {H H' : Hp} {x : V} {t : Value} (e : Same H H') (h : TyX K H x t) : TyX K H' x t := by
  cases h with
  | base b =>
    cases b with
    | non => exact .base .non
    | bl b => exact .base (.bl b)
    | int i => exact .base (.int i)
    | str s => exact .base (.str s)
    | flt f => exact .base (.flt f)
    | lst h => exact .base (.lst (e _ _ h))
    | frz h => exact .base (.frz (e _ _ h))
    | tup h => exact .base (.tup (e _ _ h))
    | dK h => exact .base (.dK (e _ _ h))
    | dT h => exact .base (.dT (e _ _ h))
    | ins h a b c d f => exact .base (.ins (e _ _ h) a b c d f)
  | byt b => exact .byt b
  | set h => exact .set (e _ _ h)
  | kList h c => exact .kList h c
  | kTuple h c => exact .kTuple h c
  | kDict h c => exact .kDict h c
  | fTuple h => exact .fTuple (e _ _ h)
  | fDict h => exact .fDict (e _ _ h)
/-- a number, or what is none -/
inductive NumK (K : PySem.W.Frag) (H : Hp) : V → Option Int → Prop
  | int (i : Int) : NumK K H (.int i) (some i)
  | bl (b : Bool) : NumK K H (.bl b) none
  | oth {x : V} {n : String} (ty : TyX K H x (.type n)) (e : kitB n "int" = some false) : NumK K H x none
theorem NumK.same {K : PySem.W.Frag} {H H' : Hp} {x : V} {o : Option Int} (e : Same H H') (h : NumK K H x o) : NumK K H' x o := by
  cases h with
  | int i => exact .int i
  | bl b => exact .bl b
  | oth t q => exact .oth (tyx_same e t) q
/-- a text, or what is none -/
inductive TxtK (K : PySem.W.Frag) (H : Hp) : V → Option Str → Prop
  | str (z : Str) : TxtK K H (.str z) (some z)
  | oth {x : V} {n : String} (ty : TyX K H x (.type n)) (e : kitB n "str" = some false) : TxtK K H x none
theorem TxtK.same {K : PySem.W.Frag} {H H' : Hp} {x : V} {o : Option Str} (e : Same H H') (h : TxtK K H x o) : TxtK K H' x o := by
  cases h with
  | str i => exact .str i
  | oth t q => exact .oth (tyx_same e t) q
def isTx : Option Str → Bool
  | some _ => true
  | none => false
theorem TxtK.ty {K : PySem.W.Frag} {H : Hp} {x : V} {o : Option Str} (h : TxtK K H x o) : ∃ n, TyX K H x (.type n) ∧ PySem.W.kitOne K (.type n) (.type "str") = some (isTx o) := by
  cases h with
  | str z => exact ⟨_, .base (.str z), kit_ty (show kitB "str" "str" = some true by decide +kernel)⟩
  | oth t q => exact ⟨_, t, kit_ty q⟩
end Lf

set_option Elab.async false
set_option linter.all false
set_option maxRecDepth 100000
set_option maxHeartbeats 4000000
/-! list(text), text * n; texts by their signs. -/
namespace Lf
open PySem PySem.Spec PyProof.Rows L2
/-- a text of signs -/
def tx (cs : List Nat) : Str := ⟨cs.toArray⟩
theorem tx_len (cs : List Nat) : (tx cs).length = cs.length := by
  show cs.toArray.size = _
  simp
theorem tx_list (cs : List Nat) : (tx cs).cps.toList = cs := rfl
theorem tx_app (a b : List Nat) : tx a ++ tx b = tx (a ++ b) := by
  show Str.mk (a.toArray ++ b.toArray) = Str.mk (a ++ b).toArray
  simp
theorem tx_inj {a b : List Nat} (h : tx a = tx b) : a = b := by
  have := congrArg (fun z : Str => z.cps.toList) h
  exact this
theorem tx_of (z : Str) : z = tx z.cps.toList := by
  obtain ⟨⟨l⟩⟩ := z
  rfl
theorem call_listStr {X : Cx} (hc : X.calm = true) : CallR X (.type "list") (fun xs H Q => ∃ cs : List Nat, xs = [.str (tx cs)] ∧ cs.length ≤ sizeLine ∧ ∀ l, H l = none → Q (.ref l) (upd H l (.lst (cs.map fun c => V.str (tx [c]))))) := by
  intro pins s σ H xs us Q I r h
  obtain ⟨cs, rfl, hz, q⟩ := h
  obtain ⟨u, rfl, rx⟩ := vals1 r
  obtain ⟨t, rfl⟩ := rx
  have sz : (tx cs).cps.size = cs.length := by simp [tx]
  refine call_list_str (I.ok.hd hc) (tx cs) t (fun h' tk acc' c' kp e it => ?_) (by rw [sz]; exact hz)
  have la : acc'.toList.length = cs.length := by rw [Array.length_toList, it.1, sz]
  have rv : Vals (cs.map fun c => V.str (tx [c])) acc'.toList := by
    have g : ∀ (cs : List Nat) (us : List Value), us.length = cs.length → (∀ (j : Nat) (v : Value), us[j]? = some v → ∃ (c : Nat) (u : Tok), cs[j]? = some c ∧ v = Value.str ⟨#[c]⟩ u) → Vals (cs.map fun c => V.str (tx [c])) us := by
      intro cs
      induction cs with
      | nil =>
        intro us hl _
        cases us with
        | nil => exact .nil
        | cons a b => simp at hl
      | cons c cs ih =>
        intro us hl hv
        cases us with
        | nil => simp at hl
        | cons a b =>
          refine .cons ?_ (ih b (by simpa using hl) fun j v hj => hv (j + 1) v hj)
          obtain ⟨c', u, e1, e2⟩ := hv 0 a rfl
          cases e1
          exact ⟨u, e2⟩
    refine g cs _ la fun j v hj => ?_
    have hj' : acc'[j]? = some v := by rw [← Array.getElem?_toList]; exact hj
    obtain ⟨c, u, e1, e2⟩ := it.2 j v hj'
    refine ⟨c, u, ?_, e2⟩
    rw [← Array.getElem?_toList] at e1
    exact e1
  refine ⟨.ref s.heap.objs.size, _, I.laid (t' := tk) kp (Nat.le_refl _) (show ObjOk X.prog X.w _ h' _ (.lst (cs.map fun c => V.str (tx [c]))) from ⟨by rw [List.length_map]; exact hz, acc'.toList, c', rv, ?_⟩), rfl, q _ (I.hok.fresh (Nat.le_refl _))⟩
  exact e
theorem foldl_app (x : Array Nat) : ∀ (n : Nat) (a : Array Nat), (List.replicate n x).foldl (· ++ ·) a = a ++ (List.replicate n x.toList).flatten.toArray
  | 0, a => by simp
  | n + 1, a => by
    rw [List.replicate_succ, List.foldl_cons, foldl_app x n, List.replicate_succ, List.flatten_cons]
    apply Array.ext'
    simp
theorem flat_len (n : Nat) (cs : List Nat) : (List.replicate n cs).flatten.length = n * cs.length := by
  induction n with
  | zero => rw [Nat.zero_mul]; rfl
  | succ n ih => rw [List.replicate_succ, List.flatten_cons, List.length_append, ih, Nat.succ_mul, Nat.add_comm]
theorem op_mul_str {X : Cx} : OpR X (binaryOp .Mult) (fun x y H Q => ∃ (cs : List Nat) (n : Nat), x = .str (tx cs) ∧ y = .int (n : Nat) ∧ 2 ≤ n ∧ n ≤ 1000 ∧ 1 ≤ cs.length ∧ cs.length ≤ 1000 ∧ Q (.str (tx (List.replicate n cs).flatten)) H) := by
  intro pins s σ H x y v u Q I rx ry h
  obtain ⟨cs, n, rfl, rfl, h2, hn, l1, l2, q⟩ := h
  obtain ⟨t, rfl⟩ := rx
  obtain ⟨t', rfl⟩ := ry
  have ll : (tx cs).length = cs.length := tx_len cs
  have nl : ¬ ((n : Nat) : Int) < 1 := by omega
  have no : (((n : Nat) : Int) == 1 || (tx cs).length == 0) = false := by
    rw [ll]
    have a : (((n : Nat) : Int) == 1) = false := by
      apply beq_false_of_ne
      omega
    have b : (cs.length == 0) = false := by
      apply beq_false_of_ne
      omega
    rw [a, b]
    rfl
  have hm : cs.length * n ≤ 1000000 := by
    have := Nat.mul_le_mul l2 hn
    omega
  refine P.mul_str ?_ (fun _ _ => ?_) (fun _ _ => ?_) ?_
  · rw [decide_eq_false (by omega), decide_eq_false (by omega)]
    rfl
  · rw [ll]
    have : (cs.length : Int) ≤ (2 ^ 63 - 1) / (n : Nat) := by
      rw [Int.le_ediv_iff_mul_le (by omega)]
      have : ((cs.length * n : Nat) : Int) ≤ 1000000 := Int.ofNat_le.mpr hm
      rw [Int.natCast_mul] at this
      omega
    omega
  · rw [ll, Int.toNat_natCast]
    have : ¬ cs.length * n > sizeLine := by rw [sizeLine_eq]; omega
    show decide (cs.length * n > sizeLine) = false
    exact decide_eq_false this
  · rw [if_neg nl, no, if_neg (by decide), Int.toNat_natCast]
    have e : (⟨(List.replicate n (tx cs).cps).foldl (· ++ ·) #[]⟩ : Str) = tx (List.replicate n cs).flatten := by
      rw [foldl_app]
      show Str.mk (#[] ++ (List.replicate n cs).flatten.toArray) = _
      rw [Array.empty_append]
      rfl
    rw [e]
    refine ⟨?_, ⟨.str (tx (List.replicate n cs).flatten), H, I.tok _, ⟨_, rfl⟩, q⟩⟩
    rw [tx_len]
    have : (List.replicate n cs).flatten.length = n * cs.length := flat_len n cs
    rw [this, sizeLine_eq, Nat.mul_comm]
    omega
end Lf

set_option Elab.async false
set_option linter.all false
set_option maxRecDepth 100000
set_option maxHeartbeats 4000000
/-! try: .. except X as e: .. except Y: ..; what a suite asks of e: isinstance, told(). -/
namespace Lf
open PySem PySem.Spec PyProof.Rows L2
/-- clauses: the first one by a name, the others without -/
def wAsM (K : PySem.W.Frag) (c : Value) (i : Nat) (ts : Addr → Value → Option Addr → TS) (rest : Ends → WX) (D : Ends) : WX := fun cls d σ H =>
  ∃ b, PySem.W.exmOne K cls c = some b ∧ (b = true → ∀ a, H a = none → ts a cls d ⟨fun σ' H' => D.nx (σ'.set i none) H', D.rt, fun σ' H' => D.bk (σ'.set i none) H', fun σ' H' => D.ct (σ'.set i none) H'⟩ (σ.set i (some (.ref a))) H) ∧ (b = false → rest D cls d σ H)
/-- with as many slots as there are names -/
def wLen (n : Nat) (W : WX) : WX := fun cls d σ H => σ.length = n → W cls d σ H
section
variable {X : Cx} {x n : Str} {c : Value} {i : Nat} {body suite : List Stmt} {b1 : Stmt} {np pos p3 : Pos} {tb : WX → TS} {ts : Addr → Value → Option Addr → TS} {Wout : WX} {more : List ExceptHandler} {l : List (Value × (Addr → Value → Option Addr → TS))}
theorem ps_try_asM (st : X.stack = X.env :: X.outer) (fr : X.env.frame = some X.env.locals) (nd : X.N.Nodup) (ni : X.N[i]? = some n) (kd : X.env.kindOf n = some .local) (nm : Names X x c) (tk : Takes X Wout)
    (inner : ∀ (W : WX) (pn : List (Addr × Obj)) (xe : Value → Shared → Prop), Takes (X.tr pn xe) W → PassesOwn (model X.prog X.w) X.A X.env xe → PSs (X.tr pn xe) body (tb W))
    (first : ∀ (a : Addr) (o : Obj) (cls : Value) (d : Option Addr) (pn : List (Addr × Obj)), Zc cls d o → (∃ vs, o.data = .fields vs) → PSs (X.suite a ((a, o) :: pn)) (b1 :: suite) (ts a cls d)) (others : HdsOk X more l) :
    PS X (.Try body (.ExceptHandler (some (.Name x np)) (some n) (b1 :: suite) p3 :: more) [] [] pos) (fun D σ H => tb (wLen X.N.length (wAsM X.K c i ts (fun D => wMany X.K Wout D l) D)) D σ H) := by
  refine ⟨fun pins s σ H D I0 h => ?_⟩
  have ok := I0.ok
  have fa : X.A.frames = some (X.env :: X.outer) := by rw [ok.frames, st]
  have lc : Loc X.env.scope n := .inl kd
  refine wpAny_Try_except ?_
  refine wpAny_mono ((inner (wLen X.N.length (wAsM X.K c i ts (fun D => wMany X.K Wout D l) D)) (X.pn ++ pins) (fun e s1 => wpAny (model X.prog X.w) X.A (noteFrame e X.env) (fun _ s2 => wpAny (model X.prog X.w) X.A (setFlight e none) (fun _ s3 =>
    wpAny (model X.prog X.w) X.A (handleBy e X.env (.ExceptHandler (some (.Name x np)) (some n) (b1 :: suite) p3 :: more)) (SP X pins D) X.xe s3) X.xe s2) X.xe s1) (fun u s' q => ?_) PassesOwn.looking).run [] s σ H D (I0.toTry _) h) (fun f s1 q => ?_) (fun e s1 q => q)
  · obtain ⟨a, B, sI, pins', σ', H', cls, d, rfl, J', nb, up, sky, na, os, ag, w⟩ := q
    have J0 : Inv X pins σ' H' sI := J'.ofTry ok
    have sk : Sky B (X.env :: X.outer) a (Zc cls d) X.env.locals s'.heap := by rw [← st]; exact sky
    show wpAny (model X.prog X.w) X.A (noteFrame (.ref a) X.env) _ _ _
    refine Sky.land Zc.steady fa fr sk fun h1 g1 u1 => ?_
    have J1 : Inv X pins σ' H' { s' with heap := h1 } := J0.landed nb g1.1 (up.trans u1) os ag
    obtain ⟨o1, v1, e1, z1, d1⟩ := g1.there
    have off : a ∉ frs (X.env :: X.outer) := fun hm => by
      obtain ⟨_, o', e', nf⟩ := g1.2.2.1.mem hm
      rw [e1] at e'
      cases e'
      exact nf _ d1
    have nL : a ≠ X.env.locals := fun z => off (List.mem_filterMap.mpr ⟨X.env, List.mem_cons_self, by rw [fr, z]⟩)
    have nF : a ∉ X.fs := fun hm => by
      obtain ⟨e, he, q⟩ := List.mem_filterMap.mp hm
      exact off (List.mem_filterMap.mpr ⟨e, List.mem_cons_of_mem _ he, q⟩)
    have S1 := J1.suite e1 d1 na nL nF
    have L1 : PySem.W.Looks (model X.prog X.w) h1 (typeOf (.ref a)) cls := fun A Q E s k q => wpAny_typeOf_ref (k _ _ e1) (by rw [z1.1]; exact q)
    have asks : ∀ {y : Str} {cv : Value} {yp : Pos} {Q : Value → Shared → Prop} {E : Value → Shared → Prop}, Names X y cv → Q cv { s' with heap := h1 } → wpAny (model X.prog X.w) (X.A.mark (some (.ref a))) (eval (.Name y yp) X.env) Q E { s' with heap := h1 } := fun {y cv yp Q E} nm q => by
      obtain ⟨hg, hb, hm | ⟨hm, hv, hn⟩⟩ := nm
      · exact ld_glob (X := X.suite a ((a, o1) :: (X.pn ++ pins))) S1 hg hm q hb
      · exact ld_blt (X := X.suite a ((a, o1) :: (X.pn ++ pins))) S1 hg hm hv q hn hb
    have rest : ∀ {hs : List ExceptHandler} {l' : List (Value × (Addr → Value → Option Addr → TS))}, HdsOk X hs l' → wMany X.K Wout D l' cls d σ' H' →
        wpAny (model X.prog X.w) X.A (handleBy (.ref a) X.env hs) (SP X pins D) X.xe { s' with heap := h1 } := by
      intro hs l' hk
      induction hk with
      | nil =>
        intro w
        refine wpAny_handleBy_nil ?_
        obtain ⟨k1, k2, k3, oe, vs, T, oT, ts', he, hz, hd, f1, hr⟩ := id g1
        unfold PySem.passOn
        refine wpAny_bind (wpAny_field he hd f1 ?_)
        rw [if_neg (show ¬ ((Value.ref T == Value.none) = true) from by simp)]
        have out : wpAny (model X.prog X.w) X.A (setFlight (.ref a) X.env.frame) (fun _ s4 => wpAny (model X.prog X.w) X.A (throw (.ref a) : Sem Flow) (SP X pins D) X.xe s4) X.xe { s' with heap := h1 } := by
          rw [fr]
          exact HandSPX.setFlight_upZ g1 fun h2 b2 u2 => wpAny_throw (tk _ _ ⟨a, B, sI, pins, σ', H', cls, d, rfl, J0, nb, (up.trans u1).trans u2, .inr (.inr (by rw [st]; exact b2)), na, os, ag, w⟩)
        first
          | exact wpAny_bind (wpAny_pure (wpAny_bind out))
          | exact wpAny_bind out
      | @cons y cv ts2 c1 suite2 yp p4 more2 l2 nm2 hsu r ih =>
        intro w
        obtain ⟨b, hb1, yes, no⟩ := w
        refine wpAny_handleBy_cons (codeAny_handlers_test ?_) (by intro q; cases q)
        refine asks nm2 ((PySem.W.exm_one (M := model X.prog X.w) J1.kIn L1 hb1).here ?_)
        cases b with
        | true =>
          refine codeAny_handlers_suite ?_
          refine HandSPX.lands_againZ g1 fun h2 g2 u2 => ?_
          have J2 : Inv X pins σ' H' { s' with heap := h2 } := J0.landed nb g2.1 ((up.trans u1).trans u2) os ag
          obtain ⟨o2, v2, e2, z2, d2⟩ := g2.there
          refine wpAny_mono ((hsu a o2 cls d (X.pn ++ pins) z2 ⟨_, d2⟩).run [] _ _ H' _ (J2.suite e2 d2 na nL nF) (yes rfl a na)) (fun f s6 q => ?_) (fun _ _ z => False.elim z)
          cases f with
          | ret u =>
            obtain ⟨v6, σ6, H6, S6, r6, q6⟩ := q
            exact ⟨_, _, _, S6.unsuite ok, r6, q6⟩
          | next => obtain ⟨σ6, H6, S6, q6⟩ := q; exact ⟨_, _, S6.unsuite ok, q6⟩
          | brk => obtain ⟨σ6, H6, S6, q6⟩ := q; exact ⟨_, _, S6.unsuite ok, q6⟩
          | cont => obtain ⟨σ6, H6, S6, q6⟩ := q; exact ⟨_, _, S6.unsuite ok, q6⟩
        | false =>
          show wpAny _ X.A (handleBy (.ref a) X.env more2) _ _ _
          exact ih (no rfl)
    obtain ⟨b, hb1, yes, no⟩ := w J0.len
    refine wpAny_handleBy_cons (codeAny_handlers_test ?_) (by intro q; cases q)
    refine asks nm ((PySem.W.exm_one (M := model X.prog X.w) J1.kIn L1 hb1).here ?_)
    cases b with
    | false =>
      show wpAny _ X.A (handleBy (.ref a) X.env more) _ _ _
      exact rest others (no rfl)
    | true =>
      refine codeAny_handlers_suite_as ?_
      refine HandSPX.lands_againZ g1 fun h2 g2 u2 => ?_
      have J2 : Inv X pins σ' H' { s' with heap := h2 } := J0.landed nb g2.1 ((up.trans u1).trans u2) os ag
      obtain ⟨o2, v2, e2, z2, d2⟩ := g2.there
      refine store_ok (X := X.suite a ((a, o2) :: (X.pn ++ pins))) (v := .ref a) (J2.suite e2 d2 na nL nF) nd ni lc rfl (fun s5 S5 => ?_) (.inr kd)
      refine wpAny_mono ((first a o2 cls d (X.pn ++ pins) z2 ⟨_, d2⟩).run [] s5 _ H' _ S5 (yes rfl a na)) (fun f s6 q => ?_) (fun _ _ z => False.elim z)
      have gone : ∀ {σ6 : L2.St} {H6 : Hp} {Q : Shared → Prop}, Inv (X.suite a ((a, o2) :: (X.pn ++ pins))) [] σ6 H6 s6 → (∀ s7, Inv X pins (σ6.set i none) H6 s7 → Q s7) →
          wpAny (model X.prog X.w) X.A (do bindName X.env n .none; unbindBehindTheSuite X.env n p3) (fun _ s7 => Q s7) X.xe s6 := fun {σ6 H6 Q} S6 hq => gone_ok (S6.unsuite ok) nd ni kd hq
      cases f with
      | ret u =>
        obtain ⟨v6, σ6, H6, S6, r6, q6⟩ := q
        exact gone S6 fun s7 J7 => ⟨_, _, _, J7, r6, q6⟩
      | next => obtain ⟨σ6, H6, S6, q6⟩ := q; exact gone S6 fun s7 J7 => ⟨_, _, J7, q6⟩
      | brk => obtain ⟨σ6, H6, S6, q6⟩ := q; exact gone S6 fun s7 J7 => ⟨_, _, J7, q6⟩
      | cont => obtain ⟨σ6, H6, S6, q6⟩ := q; exact gone S6 fun s7 J7 => ⟨_, _, J7, q6⟩
  · cases f with
    | ret u =>
      obtain ⟨v, σ', H', J', r, q⟩ := q
      exact ⟨v, σ', H', J'.ofTry ok, r, q⟩
    | next => obtain ⟨σ', H', J', q⟩ := q; exact wpAny_execs_nil ⟨σ', H', J'.ofTry ok, q⟩
    | brk => obtain ⟨σ', H', J', q⟩ := q; exact ⟨σ', H', J'.ofTry ok, q⟩
    | cont => obtain ⟨σ', H', J', q⟩ := q; exact ⟨σ', H', J'.ofTry ok, q⟩
end

/-- a block by a reading that is chosen when its slots and heap are known -/
theorem pss_some {X : Cx} {b : List Stmt} {ts : TS} (h : ∀ D σ H, ts D σ H → ∃ t, PSs X b t ∧ t D σ H) : PSs X b ts := ⟨fun pins s σ H D I q => by
  obtain ⟨t, p, z⟩ := h D σ H q
  exact p.run pins s σ H D I z⟩
theorem pe_some {X : Cx} {e : Expr} {te : TE} (h : ∀ σ H Q, te σ H Q → ∃ t, PE X e t ∧ t σ H Q) : PE X e te := ⟨fun pins s σ H Q I q => by
  obtain ⟨t, p, z⟩ := h σ H Q q
  exact p.run pins s σ H Q I z⟩

/-! ### a def called while an exception is handled: it raises nothing -/
structure FnW (P : Program) (w : World) (K : PySem.W.Frag) (mg : Str → Option Value) (base : Heap) (k : Nat) (f : Addr) (fd : FuncData) (ps : List Str) (sp : Sp) : Prop where
  len : ∀ vs H Q E, sp vs H Q E → vs.length = ps.length
  run : ∀ (A : Around) (outer : List Env) (s : Shared) (H : Hp) (args : Args) (us : List Value) (vs : List V) (Q : VK) (p : Addr × Obj), L2H.RoomH k A → L2H.PinOk outer H s p → Env0 P w K mg base A outer s H → BindsTo s fd args (ps.zip us) → Vals vs us → sp vs H Q E0 →
    codeAny (model P w) A (.call (.ref f) args) (CR CX0 outer P w H s Q E0) s
section
variable {P : Program} {w : World} {K : PySem.W.Frag} {mg : Str → Option Value} {base : Heap} {x qual : Str} {params : Arguments} {body : List Stmt} {scope : Scope} {dvs : List V} {kws : List (Str × V)} {f : Addr} {fd : FuncData}
theorem fnW_of {N ps : List Str} {k : Nat} {sp : Sp} (F : FunD K x qual params body scope dvs kws f fd) (S : FnScope N ps scope) (len : ∀ vs H Q E, sp vs H Q E → vs.length = ps.length)
    (hbody : ∀ (cdv : Value) (A : Around) (outer : List Env) (s : Shared) (H : Hp) (vs : List V) (Q : VK) (p : Addr × Obj), L2H.RoomH k (A.deeper (envOfC qual scope s.heap.objs.size f cdv)) → sp vs H Q E0 →
      ∃ t, PSs (L2H.cxH CX0 P w K mg base N qual scope f cdv A outer s H E0 p) body t ∧ t { nx := fun _ H' => Q .non H', rt := Q } (L2.start N vs) H) : FnW P w K mg base (k + 1) f fd ps sp := by
  obtain ⟨oc, od, dV, kV, doc, pm, an, cdv, ct, osl, rfl, lk, cd, _, _⟩ := F.ex
  refine ⟨len, fun A outer s H args us vs Q p room pin env bd rel told => ?_⟩
  have ln := len _ _ _ _ told
  have KX : K.In s.heap := env.mod.kin.keeps fun b o e => (env.bs b o e).1
  have kinds : ∀ y ∈ ps.zip us, scope.names.lookup y.1 = some .local ∨ (scope.names.lookup y.1 = some .cell ∧ ((cellsFrom (s.heap.objs.size + 1) scope.names []).lookup y.1).isSome = true) := fun ⟨m, v⟩ hy =>
    (S.par m (List.of_mem_zip hy).1).imp id fun q => ⟨q, PySem.W.cellsFrom_some _ _ _ (.inl q)⟩
  refine codeAny_call_function room.depth (KX _ _ lk) rfl S.co S.gen rfl (PySem.W.codeRec_of KX cd) (bd _ _ _ _ ?_)
  refine wpAny_newFunctionEnv_cells S.kind kinds fun en he s1 inC => ?_
  subst he
  refine ⟨(env.mod.nolimit.keeps fun b o e => (env.bs b o e).1).keeps inC.toInCall.keep, codeAny_func ?_⟩
  obtain ⟨t, ht, hq⟩ := hbody cdv A outer s H vs Q p (room.deeper _) told
  have I0 := L2H.inv_startH (CX := CX0) (E := E0) S pin env ln rel inC
  refine wpAny_mono (ht.run [] s1 (L2.start N vs) H _ I0 hq) (fun fl s' hs => ?_) fun e s' hs => hs
  cases fl with
  | ret u =>
    obtain ⟨v, σ', H', J, rv, q⟩ := hs
    exact ⟨v, H', J.os, J.bare, J.base, J.hok, rv, q⟩
  | next =>
    obtain ⟨σ', H', J, q⟩ := hs
    exact ⟨V.non, H', J.os, J.bare, J.base, J.hok, rfl, q⟩
  | brk => obtain ⟨_, _, _, q⟩ := hs; exact q.elim
  | cont => obtain ⟨_, _, _, q⟩ := hs; exact q.elim
/-- told() of one text, there -/
theorem told_okW {t : Str} {j : Nat} {p p2 : Pos} (F : FunD K "told" qual params [.Return (some (.Constant (.str t) j p)) p2] scope [] [] f fd) (S : FnScope ["self"] ["self"] scope) : FnW P w K mg base 1 f fd ["self"] (spTold t) := by
  refine fnW_of F S (fun vs H Q E h => ?_) (fun cdv A outer s H vs Q pp hr h => ?_)
  · obtain ⟨v, rfl, _⟩ := h
    rfl
  · obtain ⟨v, rfl, q⟩ := h
    exact ⟨_, pss_one (ps_ret pe_str), q⟩
end
section
variable {X : Cx} {a C f : Addr} {o1 : Obj} {pn : List (Addr × Obj)} {d : Option Addr} {m : Str} {fd : FuncData} {sp : Sp} {k : Nat}
/-- the caught error as an instance -/
theorem caught_inst {pins : List (Addr × Obj)} {σ : L2.St} {H : Hp} {s : Shared} (I : Inv (X.suite a ((a, o1) :: pn)) pins σ H s) (z : Zc (.ref C) d o1) (fl : ∃ vs, o1.data = .fields vs) (hd : ∀ dx, d = some dx → ∃ fs, H dx = some (exd dx fs) ∧ fs.lookup m = none) :
    ∃ od, PySem.W.InstAt s.heap a o1 C od ∧ PySem.W.shadowIn od m = some false := by
  obtain ⟨g, _⟩ := I.pin (a, o1) (List.mem_append_left _ List.mem_cons_self)
  obtain ⟨vs, hv⟩ := fl
  have nc : PySem.W.notCls o1 = true := by unfold PySem.W.notCls; rw [hv] <;> rfl
  cases d with
  | none => exact ⟨none, ⟨g, z.1, nc, by rw [z.2]; trivial⟩, rfl⟩
  | some dx =>
    obtain ⟨fs, e, lk⟩ := hd dx rfl
    obtain ⟨mA, ns, rel⟩ := exd_at I.hok e
    obtain ⟨od, h2, hk⟩ := lookIn_ns ns
    refine ⟨some od, ⟨g, z.1, nc, by rw [z.2]; exact h2⟩, ?_⟩
    have hm : mA m = none := by
      have r := rel m
      rw [lk] at r
      cases y : mA m with
      | none => rfl
      | some v => rw [y] at r; exact r.elim
    show (PySem.W.lookIn m od).map _ = _
    rw [hk, hm]
    rfl
def tToldC (a : Addr) (d : Option Addr) (m : Str) (sp : Sp) (te : TE) : TE := fun σ H Q => te σ H fun x H1 => x = .ref a ∧ (∀ dx, d = some dx → ∃ fs, H1 dx = some (exd dx fs) ∧ fs.lookup m = none) ∧ sp [.ref a] H1 Q E0
/-- e.m() of the caught error e -/
theorem pe_toldC {o : Expr} {te : TE} {pos apos : Pos} {pl : Sem Bool} (T : IsC X.K C) (M : Meth X.K C m f) (F : FnW X.prog X.w X.K X.mg X.base k f fd ["self"] sp) (hb : L2.Binds X.K fd ["self"] []) (hr : L2H.RoomH k X.A) (z : Zc (.ref C) d o1) (fl : ∃ vs, o1.data = .fields vs)
    (he : PE (X.suite a ((a, o1) :: pn)) o te)
    (ht : eval (.Call (.Attribute o m apos) [] [] pos) X.env = (do
      let ov ← eval o X.env
      standAt apos.atName
      let (f, first) ← holding [ov] (getMethod ov m pl)
      callWith pos f first (backTo pos (starEach [] X.env)) (backToKw pos (keywordEach [] X.env))) := by rfl) :
    PE (X.suite a ((a, o1) :: pn)) (.Call (.Attribute o m apos) [] [] pos) (tToldC a d m sp te) := by
  refine ⟨fun pins s σ H Q I h => ?_⟩
  refine PySem.W.methodCall_KW (pl := pl) (thn (he.run pins s σ H _ I h) fun u s1 hh => ?_) ht
  obtain ⟨x, H1, I1, rx, rfl, hd, q⟩ := hh
  obtain rfl : u = Value.ref a := rx
  obtain ⟨mm, fr⟩ := I1.fr
  obtain ⟨od, J, sh⟩ := caught_inst I1 z fl hd
  refine PySem.W.method_exc fr I1.ok.mod.kin J T.ga T.gg M.at_ M.fn sh (PySem.W.callWith_K0 (first := [.ref a]) I1.kIn M.kp ?_)
  have pin := I1.pin (a, o1) (List.mem_append_left _ List.mem_cons_self)
  have pk : L2H.PinOk (X.suite a ((a, o1) :: pn)).stack H1 s1 (a, o1) := ⟨pin.1, pin.2.1, fun hm => (List.mem_cons.mp (I1.stkSub _ hm)).elim pin.2.2.1 pin.2.2.2.1, pin.2.2.2.2⟩
  have room : L2H.RoomH k (X.suite a ((a, o1) :: pn)).A := ⟨hr.dp, hr.un⟩
  have bd := hb s1 [.ref a] I1.kIn rfl
  refine wpAny_call (codeAny_mono (F.run _ _ s1 H1 ⟨[.ref a], []⟩ [.ref a] [.ref a] Q (a, o1) room pk I1.env0 (by simpa using bd) (.cons rfl .nil) q) fun r s' hq => ?_)
  cases r with
  | error e => exact (show False from hq).elim
  | ok fl' =>
    cases fl' with
    | ret u => exact I1.after hq
    | next => exact hq.elim
    | brk => exact hq.elim
    | cont => exact hq.elim
/-- isinstance(e, c), e the caught error -/
def rIsC (K : PySem.W.Frag) (a C : Addr) (d : Option Addr) : List V → Hp → VK → Prop := fun xs H Q => ∃ (c : V) (cv : Value) (b : Bool),
  xs = [.ref a, c] ∧ ClsV c cv ∧ (∀ dx, d = some dx → ∃ fs, H dx = some (exd dx fs) ∧ fs.lookup ("__class__" : Str) = none) ∧ PySem.W.kitOne K (.ref C) cv = some b ∧ Q (.bl b) H
theorem call_isC (T : IsC X.K C) (z : Zc (.ref C) d o1) (fl : ∃ vs, o1.data = .fields vs) : CallR (X.suite a ((a, o1) :: pn)) (.builtin "isinstance") (rIsC X.K a C d) := by
  intro pins s σ H xs us Q I r h
  obtain ⟨c, cv, b, rfl, k, hd, e, q⟩ := h
  obtain ⟨u1, u2, rfl, r1, r2⟩ := vals2 r
  obtain rfl := k.eq r2
  obtain rfl : u1 = Value.ref a := r1
  obtain ⟨od, J, _⟩ := caught_inst I z fl hd
  exact PySem.W.kia_one (PySem.W.kitx_exc (od := od) T.cl T.ga T.gg T.sb T.ca T.sg T.tk T.ob) I.kIn J e (fun z => nomatch z)
    fun tk => ⟨.bl b, H, I.kept (t' := tk) fun _ _ z => z, rfl, q⟩
end
end Lf

set_option Elab.async false
set_option linter.all false
set_option maxRecDepth 100000
set_option maxHeartbeats 4000000
/-! raise X(e) of an own class with its __init__; try with clauses of which any may have `as`; repr of data. -/
namespace Lf
open PySem PySem.Spec PyProof.Rows L2
/-- raise X(e) -/
def tMk1 (C : Addr) (fl : Str) (ta : TE) : L2.St → Hp → XK → Prop := fun σ H Q => ta σ H fun v H1 => ∀ d H', H1 d = none → Same H1 H' → H' d = some (.xd [(fl, v)]) → Q (.ref C) (some d) H'
theorem pmk_err1 {X : Cx} {x fl t : Str} {e : Expr} {ta : TE} {p pos : Pos} (E : Err1 X.prog X.w X.K X.mg X.base x fl t) (hr : Room 2 X.A) (hg : Gl X x) (ha : PE X e ta)
    (hdb : (x == ("__debug__" : Str)) = false := by decide) (hs : starEach [e] X.env = (false, eval e X.env) :: starEach [] X.env := by rfl) :
    PMk X (.Call (.Name x p) [e] [] pos) (tMk1 (He.ga X.K x) fl ta) := by
  obtain ⟨fI, fd, i1, i2, F, b⟩ := E.ini
  have M := pmk_oex (X := X) (pos := pos) (p := p) (dvs := []) E.c.o i1 i2 F hr b .nil pass0 hg E.g (pa_cons (PE.up ha) pa_nil hs) hdb hs rfl
  intro pins s σ H Q I h
  refine M pins s σ H Q I ?_
  refine ⟨_, h, fun v H1 k => ⟨(by show 1 ≤ 1000; decide), fun a na => ⟨a, v, rfl, upd_same, fun d nd ne => ?_⟩⟩⟩
  have nd1 : H1 d = none := by rw [upd_ne ne] at nd; exact nd
  refine ⟨rfl, d, [(fl, v)], upd_same, by rw [upd_ne ne]; exact upd_same, nd1, ?_⟩
  refine k d _ nd1 (fun b o q => ?_) upd_same
  have n1 := ne_of_none q na
  have n2 := ne_of_none q nd1
  rw [upd_ne n2, del_ne n1, upd_ne n1, upd_ne n2, upd_ne n1]
  exact q
/-! ### clauses, with a name or without -/
abbrev Cl := Value × Option Nat × (Addr → Value → Option Addr → TS)
def asEnds (i : Nat) (D : Ends) : Ends := ⟨fun σ' H' => D.nx (σ'.set i none) H', D.rt, fun σ' H' => D.bk (σ'.set i none) H', fun σ' H' => D.ct (σ'.set i none) H'⟩
def wA (K : PySem.W.Frag) (Wout : WX) (D : Ends) : List Cl → WX
  | [] => Wout
  | (c, none, ts) :: r => fun cls d σ H => ∃ b, PySem.W.exmOne K cls c = some b ∧ (b = true → ∀ a, H a = none → ts a cls d D σ H) ∧ (b = false → wA K Wout D r cls d σ H)
  | (c, some i, ts) :: r => fun cls d σ H => ∃ b, PySem.W.exmOne K cls c = some b ∧ (b = true → ∀ a, H a = none → ts a cls d (asEnds i D) (σ.set i (some (.ref a))) H) ∧ (b = false → wA K Wout D r cls d σ H)
inductive HdA (X : Cx) : List ExceptHandler → List Cl → Prop
  | nil : HdA X [] []
  | plain {x : Str} {c : Value} {ts : Addr → Value → Option Addr → TS} {b1 : Stmt} {suite : List Stmt} {np p3 : Pos} {hds : List ExceptHandler} {l : List Cl} (nm : Names X x c)
      (hsu : ∀ (a : Addr) (o : Obj) (cls : Value) (d : Option Addr) (pn : List (Addr × Obj)), Zc cls d o → (∃ vs, o.data = .fields vs) → PSs (X.suite a ((a, o) :: pn)) (b1 :: suite) (ts a cls d)) (r : HdA X hds l) :
      HdA X (.ExceptHandler (some (.Name x np)) none (b1 :: suite) p3 :: hds) ((c, none, ts) :: l)
  | as {x n : Str} {c : Value} {i : Nat} {ts : Addr → Value → Option Addr → TS} {b1 : Stmt} {suite : List Stmt} {np p3 : Pos} {hds : List ExceptHandler} {l : List Cl} (nm : Names X x c) (ni : X.N[i]? = some n) (kd : X.env.kindOf n = some .local)
      (hsu : ∀ (a : Addr) (o : Obj) (cls : Value) (d : Option Addr) (pn : List (Addr × Obj)), Zc cls d o → (∃ vs, o.data = .fields vs) → PSs (X.suite a ((a, o) :: pn)) (b1 :: suite) (ts a cls d)) (r : HdA X hds l) :
      HdA X (.ExceptHandler (some (.Name x np)) (some n) (b1 :: suite) p3 :: hds) ((c, some i, ts) :: l)
section
variable {X : Cx} {body : List Stmt} {h0 : ExceptHandler} {hds : List ExceptHandler} {l : List Cl} {pos : Pos} {tb : WX → TS} {Wout : WX}
theorem ps_tryA (st : X.stack = X.env :: X.outer) (fr : X.env.frame = some X.env.locals) (nd : X.N.Nodup) (tk : Takes X Wout)
    (inner : ∀ (W : WX) (pn : List (Addr × Obj)) (xe : Value → Shared → Prop), Takes (X.tr pn xe) W → PassesOwn (model X.prog X.w) X.A X.env xe → PSs (X.tr pn xe) body (tb W))
    (hh : HdA X (h0 :: hds) l) : PS X (.Try body (h0 :: hds) [] [] pos) (fun D σ H => tb (wLen X.N.length (wA X.K Wout D l)) D σ H) := by
  refine ⟨fun pins s σ H D I0 h => ?_⟩
  have ok := I0.ok
  have fa : X.A.frames = some (X.env :: X.outer) := by rw [ok.frames, st]
  refine wpAny_Try_except ?_
  refine wpAny_mono ((inner (wLen X.N.length (wA X.K Wout D l)) (X.pn ++ pins) (fun e s1 => wpAny (model X.prog X.w) X.A (noteFrame e X.env) (fun _ s2 => wpAny (model X.prog X.w) X.A (setFlight e none) (fun _ s3 =>
    wpAny (model X.prog X.w) X.A (handleBy e X.env (h0 :: hds)) (SP X pins D) X.xe s3) X.xe s2) X.xe s1) (fun u s' q => ?_) PassesOwn.looking).run [] s σ H D (I0.toTry _) h) (fun f s1 q => ?_) (fun e s1 q => q)
  · obtain ⟨a, B, sI, pins', σ', H', cls, d, rfl, J', nb, up, sky, na, os, ag, w⟩ := q
    have J0 : Inv X pins σ' H' sI := J'.ofTry ok
    have sk : Sky B (X.env :: X.outer) a (Zc cls d) X.env.locals s'.heap := by rw [← st]; exact sky
    show wpAny (model X.prog X.w) X.A (noteFrame (.ref a) X.env) _ _ _
    refine Sky.land Zc.steady fa fr sk fun h1 g1 u1 => ?_
    have J1 : Inv X pins σ' H' { s' with heap := h1 } := J0.landed nb g1.1 (up.trans u1) os ag
    obtain ⟨o1, v1, e1, z1, d1⟩ := g1.there
    have off : a ∉ frs (X.env :: X.outer) := fun hm => by
      obtain ⟨_, o', e', nf⟩ := g1.2.2.1.mem hm
      rw [e1] at e'
      cases e'
      exact nf _ d1
    have nL : a ≠ X.env.locals := fun z => off (List.mem_filterMap.mpr ⟨X.env, List.mem_cons_self, by rw [fr, z]⟩)
    have nF : a ∉ X.fs := fun hm => by
      obtain ⟨e, he, q⟩ := List.mem_filterMap.mp hm
      exact off (List.mem_filterMap.mpr ⟨e, List.mem_cons_of_mem _ he, q⟩)
    have S1 := J1.suite e1 d1 na nL nF
    have L1 : PySem.W.Looks (model X.prog X.w) h1 (typeOf (.ref a)) cls := fun A Q E s k q => wpAny_typeOf_ref (k _ _ e1) (by rw [z1.1]; exact q)
    have asks : ∀ {y : Str} {cv : Value} {yp : Pos} {Q : Value → Shared → Prop} {E : Value → Shared → Prop}, Names X y cv → Q cv { s' with heap := h1 } → wpAny (model X.prog X.w) (X.A.mark (some (.ref a))) (eval (.Name y yp) X.env) Q E { s' with heap := h1 } := fun {y cv yp Q E} nm q => by
      obtain ⟨hg, hb, hm | ⟨hm, hv, hn⟩⟩ := nm
      · exact ld_glob (X := X.suite a ((a, o1) :: (X.pn ++ pins))) S1 hg hm q hb
      · exact ld_blt (X := X.suite a ((a, o1) :: (X.pn ++ pins))) S1 hg hm hv q hn hb
    have rest : ∀ {hs : List ExceptHandler} {l' : List Cl}, HdA X hs l' → wA X.K Wout D l' cls d σ' H' →
        wpAny (model X.prog X.w) X.A (handleBy (.ref a) X.env hs) (SP X pins D) X.xe { s' with heap := h1 } := by
      intro hs l' hk
      induction hk with
      | nil =>
        intro w
        refine wpAny_handleBy_nil ?_
        obtain ⟨k1, k2, k3, oe, vs, T, oT, ts', he, hz, hd, f1, hr⟩ := id g1
        unfold PySem.passOn
        refine wpAny_bind (wpAny_field he hd f1 ?_)
        rw [if_neg (show ¬ ((Value.ref T == Value.none) = true) from by simp)]
        have out : wpAny (model X.prog X.w) X.A (setFlight (.ref a) X.env.frame) (fun _ s4 => wpAny (model X.prog X.w) X.A (throw (.ref a) : Sem Flow) (SP X pins D) X.xe s4) X.xe { s' with heap := h1 } := by
          rw [fr]
          exact HandSPX.setFlight_upZ g1 fun h2 b2 u2 => wpAny_throw (tk _ _ ⟨a, B, sI, pins, σ', H', cls, d, rfl, J0, nb, (up.trans u1).trans u2, .inr (.inr (by rw [st]; exact b2)), na, os, ag, w⟩)
        first
          | exact wpAny_bind (wpAny_pure (wpAny_bind out))
          | exact wpAny_bind out
      | @plain y cv ts2 c1 suite2 yp p4 more2 l2 nm2 hsu r ih =>
        intro w
        obtain ⟨b, hb1, yes, no⟩ := w
        refine wpAny_handleBy_cons (codeAny_handlers_test ?_) (by intro q; cases q)
        refine asks nm2 ((PySem.W.exm_one (M := model X.prog X.w) J1.kIn L1 hb1).here ?_)
        cases b with
        | true =>
          refine codeAny_handlers_suite ?_
          refine HandSPX.lands_againZ g1 fun h2 g2 u2 => ?_
          have J2 : Inv X pins σ' H' { s' with heap := h2 } := J0.landed nb g2.1 ((up.trans u1).trans u2) os ag
          obtain ⟨o2, v2, e2, z2, d2⟩ := g2.there
          refine wpAny_mono ((hsu a o2 cls d (X.pn ++ pins) z2 ⟨_, d2⟩).run [] _ _ H' _ (J2.suite e2 d2 na nL nF) (yes rfl a na)) (fun f s6 q => ?_) (fun _ _ z => False.elim z)
          cases f with
          | ret u =>
            obtain ⟨v6, σ6, H6, S6, r6, q6⟩ := q
            exact ⟨_, _, _, S6.unsuite ok, r6, q6⟩
          | next => obtain ⟨σ6, H6, S6, q6⟩ := q; exact ⟨_, _, S6.unsuite ok, q6⟩
          | brk => obtain ⟨σ6, H6, S6, q6⟩ := q; exact ⟨_, _, S6.unsuite ok, q6⟩
          | cont => obtain ⟨σ6, H6, S6, q6⟩ := q; exact ⟨_, _, S6.unsuite ok, q6⟩
        | false =>
          show wpAny _ X.A (handleBy (.ref a) X.env more2) _ _ _
          exact ih (no rfl)
      | @as y n cv i ts2 c1 suite2 yp p4 more2 l2 nm2 ni kd hsu r ih =>
        intro w
        obtain ⟨b, hb1, yes, no⟩ := w
        refine wpAny_handleBy_cons (codeAny_handlers_test ?_) (by intro q; cases q)
        refine asks nm2 ((PySem.W.exm_one (M := model X.prog X.w) J1.kIn L1 hb1).here ?_)
        cases b with
        | false =>
          show wpAny _ X.A (handleBy (.ref a) X.env more2) _ _ _
          exact ih (no rfl)
        | true =>
          refine codeAny_handlers_suite_as ?_
          refine HandSPX.lands_againZ g1 fun h2 g2 u2 => ?_
          have J2 : Inv X pins σ' H' { s' with heap := h2 } := J0.landed nb g2.1 ((up.trans u1).trans u2) os ag
          obtain ⟨o2, v2, e2, z2, d2⟩ := g2.there
          have lc : Loc X.env.scope n := .inl kd
          refine store_ok (X := X.suite a ((a, o2) :: (X.pn ++ pins))) (v := .ref a) (J2.suite e2 d2 na nL nF) nd ni lc rfl (fun s5 S5 => ?_) (.inr kd)
          refine wpAny_mono ((hsu a o2 cls d (X.pn ++ pins) z2 ⟨_, d2⟩).run [] s5 _ H' _ S5 (yes rfl a na)) (fun f s6 q => ?_) (fun _ _ z => False.elim z)
          have gone : ∀ {σ6 : L2.St} {H6 : Hp} {Q : Shared → Prop}, Inv (X.suite a ((a, o2) :: (X.pn ++ pins))) [] σ6 H6 s6 → (∀ s7, Inv X pins (σ6.set i none) H6 s7 → Q s7) →
              wpAny (model X.prog X.w) X.A (do bindName X.env n .none; unbindBehindTheSuite X.env n p4) (fun _ s7 => Q s7) X.xe s6 := fun {σ6 H6 Q} S6 hq => gone_ok (S6.unsuite ok) nd ni kd hq
          cases f with
          | ret u =>
            obtain ⟨v6, σ6, H6, S6, r6, q6⟩ := q
            exact gone S6 fun s7 J7 => ⟨_, _, _, J7, r6, q6⟩
          | next => obtain ⟨σ6, H6, S6, q6⟩ := q; exact gone S6 fun s7 J7 => ⟨_, _, J7, q6⟩
          | brk => obtain ⟨σ6, H6, S6, q6⟩ := q; exact gone S6 fun s7 J7 => ⟨_, _, J7, q6⟩
          | cont => obtain ⟨σ6, H6, S6, q6⟩ := q; exact gone S6 fun s7 J7 => ⟨_, _, J7, q6⟩
    exact rest hh (w J0.len)
  · cases f with
    | ret u =>
      obtain ⟨v, σ', H', J', r, q⟩ := q
      exact ⟨v, σ', H', J'.ofTry ok, r, q⟩
    | next => obtain ⟨σ', H', J', q⟩ := q; exact wpAny_execs_nil ⟨σ', H', J'.ofTry ok, q⟩
    | brk => obtain ⟨σ', H', J', q⟩ := q; exact ⟨σ', H', J'.ofTry ok, q⟩
    | cont => obtain ⟨σ', H', J', q⟩ := q; exact ⟨σ', H', J'.ofTry ok, q⟩
end
/-! ### repr of data -/
theorem call_reprD {X : Cx} (hg : X.A.guards = some []) (hu : X.A.units + 9 < cLine) : CallR X (.builtin "repr") (fun xs H Q => ∃ v d, xs = [v] ∧ Dp X.K H v d ∧ d.showable = true ∧ d.hasDict = false ∧ d.depth ≤ 7 ∧ d.shown.length ≤ sizeLine ∧ Q (.str d.shown) H) := by
  intro pins s σ H xs us Q I r h
  obtain ⟨v, d, rfl, hd, sh, nd, dp, hz, q⟩ := h
  obtain ⟨u, rfl, rv⟩ := vals1 r
  obtain ⟨as, rd⟩ := Dp.reads I d v u hd rv
  cases rd with
  | none => exact P.repr_of_none ⟨.str "None", H, I.tok _, ⟨_, rfl⟩, q⟩
  | bool b =>
    refine P.repr_of_bool ⟨.str _, H, I.tok _, ⟨_, rfl⟩, ?_⟩
    exact q
  | int i t =>
    refine P.repr_of_int (by simpa [PyData.showable] using sh) ⟨.str _, H, I.tok _, ⟨_, rfl⟩, ?_⟩
    exact q
  | str x t =>
    refine P.repr_of_str ⟨.str _, H, I.tok _, ⟨_, rfl⟩, ?_⟩ hz
    exact q
  | list h1 h2 h3 h4 =>
    refine repr_of_reads' (h₀ := s.heap) (.list h1 h2 h3 h4) sh (fun z => by rw [nd] at z; cases z) hg (by omega) (fun _ _ z => z) (fun h' u tk hk => ?_) hz
    exact ⟨.str _, H, I.kept hk, ⟨u, rfl⟩, q⟩
  | tuple h1 h2 h3 h4 =>
    refine repr_of_reads' (h₀ := s.heap) (.tuple h1 h2 h3 h4) sh (fun z => by rw [nd] at z; cases z) hg (by omega) (fun _ _ z => z) (fun h' u tk hk => ?_) hz
    exact ⟨.str _, H, I.kept hk, ⟨u, rfl⟩, q⟩
  | dict h1 h2 h3 h4 h5 => rw [PyData.hasDict] at nd; cases nd
end Lf

set_option Elab.async false
set_option linter.all false
set_option maxRecDepth 100000
set_option maxHeartbeats 4000000
/-! What repr tells of data, held against what repr tells. -/
namespace Lf
open PySem PySem.Spec PyProof.Rows L2
/-- data that repr tells, in signs that stand -/
structure Rp (K : PySem.W.Frag) (H : Hp) (v : V) (d : PyData) : Prop where
  dp : Dp K H v d
  sh : d.showable = true
  nd : d.hasDict = false
  de : d.depth ≤ 7
  le : d.shown.length ≤ sizeLine
  ok : PyData.strOk d.shown = true
theorem Rp.same {K : PySem.W.Frag} {H H' : Hp} {v : V} {d : PyData} (h : Rp K H v d) (e : Same H H') : Rp K H' v d := ⟨dp_same e h.dp, h.sh, h.nd, h.de, h.le, h.ok⟩
theorem char_ok : ∀ c < 128, (∀ d ∈ Builtin.Str.reprChar 34 c, d < 1114112) ∧ ∀ d ∈ Builtin.Str.reprChar 39 c, d < 1114112 := by decide +kernel
theorem all_of {x : Str} (h : ∀ c ∈ x.cps.toList, c < 1114112) : PyData.strOk x = true := by
  unfold PyData.strOk
  rw [← Array.all_toList, List.all_eq_true]
  intro c hc
  exact decide_eq_true (h c hc)
theorem fold_signs {q : Nat} (hq : ∀ c < 128, ∀ d ∈ Builtin.Str.reprChar q c, d < 1114112) : ∀ (l : List Nat) (acc : Array Nat), (∀ c ∈ l, c < 128) → (∀ d ∈ acc.toList, d < 1114112) → ∀ d ∈ (l.foldl (fun out c => out ++ (Builtin.Str.reprChar q c).toArray) acc).toList, d < 1114112
  | [], acc, _, h => h
  | c :: r, acc, hl, h => by
    rw [List.foldl_cons]
    refine fold_signs hq r _ (fun d hd => hl d (List.mem_cons_of_mem _ hd)) fun d hd => ?_
    rw [Array.toList_append] at hd
    rcases List.mem_append.mp hd with z | z
    · exact h d z
    · exact hq c (hl c List.mem_cons_self) d z
theorem repr_signs {cs : List Nat} (h : ∀ c ∈ cs, c < 128) : PyData.strOk (reprText (tx cs)) = true := by
  refine all_of fun d hd => ?_
  unfold reprText at hd
  rw [Array.toList_push] at hd
  have hq : reprQuote (tx cs) = 34 ∨ reprQuote (tx cs) = 39 := by
    unfold reprQuote
    split
    · exact .inl rfl
    · exact .inr rfl
  have q1 : reprQuote (tx cs) < 1114112 := by rcases hq with z | z <;> omega
  rcases List.mem_append.mp hd with z | z
  · rw [← Array.foldl_toList] at z
    refine fold_signs (q := reprQuote (tx cs)) ?_ _ _ h ?_ d z
    · intro c hc
      rcases hq with y | y <;> rw [y]
      · exact (char_ok c hc).1
      · exact (char_ok c hc).2
    · intro d hd
      rw [List.mem_singleton.mp hd]
      exact q1
  · rw [List.mem_singleton.mp z]
    exact q1
theorem rp_txt {K : PySem.W.Frag} {H : Hp} {cs : List Nat} (h : ∀ c ∈ cs, c < 128) (l : cs.length ≤ 100000) : Rp K H (.str (tx cs)) (.str (tx cs)) where
  dp := .str _
  sh := rfl
  nd := rfl
  de := by show 0 ≤ 7; decide
  le := by
    have := StrLaws.reprText_len (tx cs) fun c hc => by
      have := h c hc
      have : (128 : Nat) < 16 ^ 8 := by decide
      omega
    rw [tx_len] at this
    show (reprText (tx cs)).length ≤ 16777216
    omega
  ok := repr_signs h
/-- a tuple of two texts -/
theorem dp_pair {K : PySem.W.Frag} {H : Hp} {t : Addr} {a b : Str} (h : H t = some (.tup [.str a, .str b])) : Dp K H (.ref t) (.tuple [.str a, .str b]) := .tup (SqT.of h) (.cons (.str a) (.cons (.str b) .nil))
theorem pair_shaped {a b : Str} (ha : PyData.strOk a = true) (hb : PyData.strOk b = true) : SeqAt.shaped (.tuple [.str a, .str b]) = true := by
  unfold SeqAt.shaped
  simp [PyData.canLay0, PyData.canLayAll0, PyData.depth, PyData.depthAll, ha, hb]
end Lf

set_option Elab.async false
set_option linter.all false
set_option maxRecDepth 100000
set_option maxHeartbeats 4000000
/-! Functions that are promised only where no repr is under way; repr of a list of ints. -/
namespace Lf
open PySem PySem.Spec PyProof.Rows L2
/-- a promise of calls from where no repr is under way -/
structure FnG (P : Program) (w : World) (K : PySem.W.Frag) (mg : Str → Option Value) (base : Heap) (CX : CXT) (k : Nat) (f : Addr) (fd : FuncData) (ps : List Str) (sp : Sp) : Prop where
  len : ∀ vs H Q E, sp vs H Q E → vs.length = ps.length
  run : ∀ (A : Around) (outer : List Env) (s : Shared) (H : Hp) (args : Args) (us : List Value) (vs : List V) (Q : VK) (E : XK), A.guards = some [] → Room k A → Env0 P w K mg base A outer s H → BindsTo s fd args (ps.zip us) → Vals vs us → sp vs H Q E →
    codeAny (model P w) A (.call (.ref f) args) (CR CX outer P w H s Q E) s
section
variable {CX : CXT} {P : Program} {w : World} {K : PySem.W.Frag} {mg : Str → Option Value} {base : Heap} {x qual : Str} {params : Arguments} {body : List Stmt} {scope : Scope} {f : Addr} {fd : FuncData}
theorem okG {N ps : List Str} {k : Nat} {sp : Sp} (F : FunD K x qual params body scope [] [] f fd) (S : FnScope N ps scope) (len : ∀ vs H Q E, sp vs H Q E → vs.length = ps.length)
    (hbody : ∀ (cdv : Value) (A : Around) (outer : List Env) (s : Shared) (H : Hp) (vs : List V) (Q : VK) (E : XK), A.guards = some [] → Room k (A.deeper (envOfC qual scope s.heap.objs.size f cdv)) → sp vs H Q E →
      ∃ t, PSs (cxOf CX P w K mg base N qual scope f cdv A outer s H E) body t ∧ t { nx := fun _ H' => Q .non H', rt := Q } (L2.start N vs) H) : FnG P w K mg base CX (k + 1) f fd ps sp := by
  obtain ⟨oc, od, dV, kV, doc, pm, an, cdv, ct, osl, rfl, lk, hcd, _, _⟩ := F.ex
  refine ⟨len, fun A outer s H args us vs Q E hgd hr e0 hb r hsp => ?_⟩
  have hl := len _ _ _ _ hsp
  have KX : K.In s.heap := e0.mod.kin.keeps fun b o e => (e0.bs b o e).1
  have hk : ∀ y ∈ ps.zip us, scope.names.lookup y.1 = some .local ∨ (scope.names.lookup y.1 = some .cell ∧ ((cellsFrom (s.heap.objs.size + 1) scope.names []).lookup y.1).isSome = true) := fun y hy =>
    (S.par y.1 (List.of_mem_zip hy).1).imp id fun q => ⟨q, PySem.W.cellsFrom_some _ _ _ (.inl q)⟩
  refine codeAny_call_function hr.depth (KX _ _ lk) rfl S.co S.gen rfl (PySem.W.codeRec_of KX hcd) (hb _ _ _ _ (wpAny_newFunctionEnv_cells S.kind hk fun env he s1 g => ?_))
  subst he
  refine ⟨(e0.mod.nolimit.keeps fun b o e => (e0.bs b o e).1).keeps g.toInCall.keep, codeAny_func ?_⟩
  obtain ⟨t, ht, hq⟩ := hbody cdv A outer s H vs Q E hgd (hr.deeper _) hsp
  refine wpAny_mono (ht.run [] s1 (L2.start N vs) H _ (inv_start S hr.hd e0 hl r g) hq) (fun fl s' hs => ?_) fun _ _ hs => hs
  cases fl with
  | brk => exact hs.elim fun _ z => z.elim fun _ z => False.elim z.2
  | cont => exact hs.elim fun _ z => z.elim fun _ z => False.elim z.2
  | next =>
    obtain ⟨_, H', J, q⟩ := hs
    exact ⟨V.non, H', J.os, J.bare, J.base, J.hok, rfl, q⟩
  | ret u =>
    obtain ⟨v, _, H', J, rv, q⟩ := hs
    exact ⟨v, H', J.os, J.bare, J.base, J.hok, rv, q⟩
end
/-- a def by its name -/
structure DefG (P : Program) (w : World) (K : PySem.W.Frag) (mg : Str → Option Value) (base : Heap) (CX : CXT) (k : Nat) (x : Str) (ps : List Str) (sp : Sp) : Prop where
  ex : ∃ f fd, mg x = some (.ref f) ∧ PySem.W.keepIn K (.ref f) = true ∧ FnG P w K mg base CX k f fd ps sp ∧ Binds K fd ps []
section
variable {X : Cx} {CX : CXT} {k : Nat} {x : Str} {ps : List Str} {sp : Sp} {E : XK} {e : Expr} {es : List Expr} {t : TA} {p pos : Pos}
theorem pe_defG (D : DefG X.prog X.w X.K X.mg X.base CX k x ps sp) (hgd : X.A.guards = some []) (hr : Room k X.A) (hx : Passes CX X E) (hg : Gl X x) (ha : PA X (e :: es) t)
    (hdb : (x == ("__debug__" : Str)) = false := by decide +kernel) (he : starEach (e :: es) X.env = (false, eval e X.env) :: starEach es X.env := by rfl)
    (hpl : (backTo pos (starEach es X.env)).any (·.1) = false := by rfl) : PE X (.Call (.Name x p) (e :: es) [] pos) (fun σ H Q => t σ H fun vs H1 => sp vs H1 Q E) := by
  obtain ⟨f, fd, g, kp, F, b⟩ := D.ex
  refine ⟨fun pins s σ H Q I h => wpAny_Call_Name_kw (ld_glob I hg g ?_ hdb)⟩
  refine PySem.W.callWith_K (h₀ := X.base) I.ok.mod.kin kp (thn (ha.run pos pins s σ H _ I h) fun us s1 ⟨vs, H1, I1, r, q⟩ => ⟨I1.kIn, ?_⟩) he hpl
  have b' := b s1 us I1.kIn (by rw [List.append_nil, ← r.length]; exact F.len _ _ _ _ q)
  rw [List.append_nil] at b'
  refine wpAny_call (codeAny_mono (F.run X.A X.stack s1 H1 ⟨us, []⟩ us vs Q E hgd hr I1.env0 b' r q) fun r' s' hq => ?_)
  cases r' with
  | error e => exact hx pins σ H1 s1 e s' I1 hq
  | ok fl =>
    cases fl with
    | ret u => exact I1.after hq
    | next => exact False.elim hq
    | brk => exact False.elim hq
    | cont => exact False.elim hq
end
/-! ### repr of a list of ints -/
abbrev reprL (ns : List Int) : Str := (PyData.list (ns.map PyData.int)).shown
theorem reads_ints {h : Heap} : ∀ {ns : List Int} {us : List Value}, Vals (ns.map V.int) us → ReadsAll h us (ns.map PyData.int) []
  | [], _, r => by
    rw [List.map_nil] at r
    cases r
    exact .nil
  | n :: ns, _, r => by
    rw [List.map_cons] at r
    cases r with
    | cons a b =>
      obtain ⟨t, rfl⟩ := (show ∃ t, _ = Value.int n t from a)
      exact .cons (.int n t) (reads_ints b)
theorem ints_noDict : ∀ (ns : List Int), PyData.hasDictAll (ns.map PyData.int) = false
  | [] => rfl
  | n :: ns => by rw [List.map_cons, PyData.hasDictAll, PyData.hasDict, ints_noDict ns]; rfl
theorem ints_depth : ∀ (ns : List Int), PyData.depthAll (ns.map PyData.int) = 0
  | [] => rfl
  | n :: ns => by rw [List.map_cons, PyData.depthAll, PyData.depth, ints_depth ns]; rfl
theorem call_reprInts {X : Cx} (hg : X.A.guards = some []) (hu : X.A.units + 9 < cLine) : CallR X (.builtin "repr") (fun xs H Q => ∃ p ns, xs = [.ref p] ∧ SqL X.K H p (ns.map V.int) ∧ (PyData.list (ns.map PyData.int)).showable = true ∧ (reprL ns).length ≤ sizeLine ∧ Q (.str (reprL ns)) H) := by
  intro pins s σ H xs us Q I r h
  obtain ⟨p, ns, rfl, hq, sh, hz, q⟩ := h
  obtain ⟨u, rfl, e⟩ := vals1 r
  cases e
  obtain ⟨its, rv, ⟨o, n, e1, e2, e3, e4⟩, _⟩ := I.list hq
  refine repr_of_reads' (h₀ := s.heap) (.list e1 e2 e4 (by rw [List.toList_toArray]; exact reads_ints rv)) sh (fun z => ?_) hg ?_ (fun _ _ z => z) (fun h' u tk hk => ?_) hz
  · rw [PyData.hasDict, ints_noDict] at z
    cases z
  · rw [PyData.depth, ints_depth]
    omega
  · exact ⟨.str (reprL ns), H, I.kept hk, ⟨u, rfl⟩, q⟩
theorem small_text : ∀ n : Nat, n < 300 → ((PyData.int (n : Nat)).shown).length ≤ 3 := by decide +kernel
theorem small_show : ∀ n : Nat, n < 300 → (PyData.int (n : Nat)).showable = true := by decide +kernel
theorem repr_small : ∀ {ns : List Nat}, (∀ n ∈ ns, n < 300) → PyData.showableAll ((ns.map fun n => ((n : Nat) : Int)).map PyData.int) = true ∧ ((PyData.shownAll ((ns.map fun n => ((n : Nat) : Int)).map PyData.int)).map (·.length)).sum ≤ 3 * ns.length ∧ (PyData.shownAll ((ns.map fun n => ((n : Nat) : Int)).map PyData.int)).length = ns.length
  | [], _ => ⟨rfl, Nat.le_refl _, rfl⟩
  | n :: ns, h => by
    obtain ⟨a, b, c⟩ := repr_small (ns := ns) fun m hm => h m (List.mem_cons_of_mem _ hm)
    have h1 := small_text n (h n List.mem_cons_self)
    have h2 := small_show n (h n List.mem_cons_self)
    rw [List.map_cons, List.map_cons]
    refine ⟨?_, ?_, ?_⟩
    · rw [PyData.showableAll, h2, a]
      rfl
    · rw [PyData.shownAll, List.map_cons, List.sum_cons, List.length_cons]
      omega
    · rw [PyData.shownAll, List.length_cons, c, List.length_cons]
/-- repr of numbers below 300 -/
theorem reprOk {ns : List Nat} (h : ∀ n ∈ ns, n < 300) (l : ns.length ≤ 100000) : (PyData.list ((ns.map fun n => ((n : Nat) : Int)).map PyData.int)).showable = true ∧ (reprL (ns.map fun n => ((n : Nat) : Int))).length ≤ sizeLine := by
  obtain ⟨a, b, c⟩ := repr_small h
  refine ⟨by rw [PyData.showable]; exact a, ?_⟩
  have := listText_len_le (PyData.shownAll ((ns.map fun n => ((n : Nat) : Int)).map PyData.int))
  unfold reprL
  rw [PyData.shown, sizeLine_eq]
  omega
end Lf

set_option Elab.async false
set_option linter.all false
/-! Subwords: found letter by letter behind their ends, and by a look at all words. Pure. -/
namespace Sub
/-- where the first c from e on ends -/
def nxt (x : List Nat) (c e : Nat) : Option Nat := ((x.drop e).findIdx? (· == c)).map (· + e + 1)
def endFrom (x : List Nat) : List Nat → Nat → Option Nat
  | [], e => some e
  | c :: r, e => (nxt x c e).bind (endFrom x r)
theorem end_snoc (x : List Nat) (w : List Nat) (c : Nat) : ∀ e, endFrom x (w ++ [c]) e = (endFrom x w e).bind (nxt x c) := by
  induction w with
  | nil =>
    intro e
    show (nxt x c e).bind (endFrom x []) = nxt x c e
    cases nxt x c e <;> rfl
  | cons d w ih =>
    intro e
    show (nxt x d e).bind (endFrom x (w ++ [c])) = ((nxt x d e).bind (endFrom x w)).bind (nxt x c)
    cases nxt x d e with
    | none => rfl
    | some u => exact ih u
theorem sub_pre {c : Nat} {r rest : List Nat} : ∀ {pre : List Nat}, (∀ d ∈ pre, d ≠ c) → ((c :: r).isSublist (pre ++ c :: rest) = r.isSublist rest)
  | [], _ => by
    show (c :: r).isSublist (c :: rest) = _
    rw [List.isSublist]
    simp
  | d :: pre, h => by
    show (c :: r).isSublist (d :: (pre ++ c :: rest)) = _
    rw [List.isSublist]
    have : ¬ c = d := fun z => h d List.mem_cons_self z.symm
    simp only [beq_iff_eq, this, if_false]
    exact sub_pre fun d hd => h d (List.mem_cons_of_mem _ hd)
theorem sub_none {c : Nat} {r : List Nat} : ∀ {l : List Nat}, (∀ d ∈ l, d ≠ c) → (c :: r).isSublist l = false
  | [], _ => rfl
  | d :: l, h => by
    rw [List.isSublist]
    have : ¬ c = d := fun z => h d List.mem_cons_self z.symm
    simp only [beq_iff_eq, this, if_false]
    exact sub_none fun d hd => h d (List.mem_cons_of_mem _ hd)
theorem end_sub (x : List Nat) (w : List Nat) : ∀ e, (endFrom x w e).isSome = w.isSublist (x.drop e) := by
  induction w with
  | nil =>
    intro e
    cases x.drop e <;> rfl
  | cons c r ih =>
    intro e
    show ((nxt x c e).bind (endFrom x r)).isSome = _
    unfold nxt
    cases h : (x.drop e).findIdx? (· == c) with
    | none =>
      rw [List.findIdx?_eq_none_iff] at h
      rw [sub_none fun d hd => by have := h d hd; simpa using this]
      rfl
    | some k =>
      rw [List.findIdx?_eq_some_iff_getElem] at h
      obtain ⟨hk, h1, h2⟩ := h
      show (endFrom x r (k + e + 1)).isSome = _
      rw [ih]
      have e1 : x.drop e = (x.drop e).take k ++ c :: x.drop (k + e + 1) := by
        have z : (x.drop e)[k] = c := by simpa using h1
        rw [← z]
        have y : x.drop (k + e + 1) = (x.drop e).drop (k + 1) := by rw [List.drop_drop]; congr 1; omega
        rw [y, show (x.drop e)[k] :: (x.drop e).drop (k + 1) = (x.drop e).drop k from (List.drop_eq_getElem_cons hk).symm, List.take_append_drop]
      rw [e1, sub_pre]
      intro d hd
      obtain ⟨j, hj, rfl⟩ := List.getElem_of_mem hd
      rw [List.length_take] at hj
      have := h2 j (by omega)
      rw [List.getElem_take]
      simpa using this
/-- the law's own look: how far a word got -/
def got (one : List Nat) (x : List Nat) : Nat := x.foldl (fun k c => if one[k]? = some c then k + 1 else k) 0
theorem got_from (one : List Nat) : ∀ (x : List Nat) (k : Nat), k ≤ one.length → (decide (x.foldl (fun k c => if one[k]? = some c then k + 1 else k) k = one.length) = (one.drop k).isSublist x) ∧ x.foldl (fun k c => if one[k]? = some c then k + 1 else k) k ≤ one.length
  | [], k, hk => by
    refine ⟨?_, hk⟩
    show decide (k = one.length) = _
    cases h : one.drop k with
    | nil =>
      have : one.length ≤ k := by simpa using h
      rw [decide_eq_true (by omega)]
      rfl
    | cons a l =>
      have : k < one.length := by
        have := congrArg List.length h
        simp at this
        omega
      rw [decide_eq_false (by omega)]
      rfl
  | c :: x, k, hk => by
    rw [List.foldl_cons]
    by_cases hl : k < one.length
    · have e1 : one.drop k = one[k] :: one.drop (k + 1) := List.drop_eq_getElem_cons hl
      have e2 : one[k]? = some one[k] := List.getElem?_eq_getElem hl
      rw [e2, e1, List.isSublist]
      by_cases h : one[k] = c
      · rw [if_pos (by rw [h]), if_pos (by simp [h])]
        have := got_from one x (k + 1) (by omega)
        exact this
      · rw [if_neg (fun z => h (Option.some.inj z)), if_neg (by simp [h]), ← e1]
        exact got_from one x k hk
    · have e2 : one[k]? = none := List.getElem?_eq_none (by omega)
      rw [e2, if_neg (fun z => nomatch z)]
      have := got_from one x k hk
      refine ⟨this.1.trans ?_, this.2⟩
      have : one.drop k = [] := List.drop_eq_nil_of_le (by omega)
      rw [this]
      cases x <;> rfl
theorem got_le (one x : List Nat) : got one x ≤ one.length := (got_from one x 0 (Nat.zero_le _)).2
theorem got_end (one x : List Nat) : decide (got one x = one.length) = (endFrom x one 0).isSome := by
  have := (got_from one x 0 (Nat.zero_le _)).1
  rw [end_sub]
  exact this
/-! ### all words, level by level -/
def abcd : List Nat := [97, 98, 99, 100]
def level : Nat → List (List Nat)
  | 0 => [[]]
  | n + 1 => (level n).flatMap fun w => abcd.map fun c => w ++ [c]
def upTo : Nat → List (List Nat)
  | 0 => level 0
  | n + 1 => upTo n ++ level (n + 1)
theorem level_len : ∀ {n : Nat} {w : List Nat}, w ∈ level n → w.length = n
  | 0, w, h => by rw [List.mem_singleton.mp h]; rfl
  | n + 1, w, h => by
    obtain ⟨v, hv, hw⟩ := List.mem_flatMap.mp h
    obtain ⟨c, _, rfl⟩ := List.mem_map.mp hw
    rw [List.length_append, level_len hv]
    rfl
def isSub (x w : List Nat) : Bool := (endFrom x w 0).isSome
def sigs (x : List Nat) (k : Nat) : List (List Nat) := (upTo k).filter (isSub x)
theorem due_eq (x : List Nat) (size : Nat) : ∀ most, size ≤ most → (upTo most).filter (fun w => decide (w.length ≤ size) && isSub x w) = sigs x size
  | 0, h => by
    obtain rfl : size = 0 := by omega
    rfl
  | m + 1, h => by
    by_cases e : size = m + 1
    · subst e
      unfold sigs
      refine List.filter_congr fun w hw => ?_
      have : w.length ≤ m + 1 := by
        have g : ∀ n (w : List Nat), w ∈ upTo n → w.length ≤ n := by
          intro n
          induction n with
          | zero => intro w hw; rw [level_len (n := 0) hw]; exact Nat.le_refl _
          | succ n ih =>
            intro w hw
            rcases List.mem_append.mp hw with z | z
            · have := ih w z; omega
            · rw [level_len z]; exact Nat.le_refl _
        exact g _ _ hw
      rw [decide_eq_true this]
      rfl
    · show (upTo m ++ level (m + 1)).filter _ = _
      rw [List.filter_append, due_eq x size m (by omega)]
      have : (level (m + 1)).filter (fun w => decide (w.length ≤ size) && isSub x w) = [] := by
        rw [List.filter_eq_nil_iff]
        intro w hw
        rw [level_len hw, decide_eq_false (by omega)]
        simp
      rw [this, List.append_nil]
/-! ### the program's queue -/
abbrev It := List Nat × Nat
def ch (x : List Nat) (k : Nat) (p : It) : List It := if p.1.length < k then abcd.filterMap fun c => (nxt x c p.2).map fun e => (p.1 ++ [c], e) else []
def root : It := ([], 0)
def lv (x : List Nat) (k : Nat) : Nat → List It
  | 0 => [root]
  | n + 1 => (lv x k n).flatMap (ch x k)
def sm (x : List Nat) (k : Nat) : Nat → List It
  | 0 => [root]
  | n + 1 => sm x k n ++ lv x k (n + 1)
theorem sm_eq (x : List Nat) (k : Nat) : ∀ n, sm x k (n + 1) = root :: (sm x k n).flatMap (ch x k)
  | 0 => by
    show [root] ++ (lv x k 0).flatMap _ = root :: ([root] : List It).flatMap _
    rfl
  | n + 1 => by
    show sm x k (n + 1) ++ (lv x k (n + 1)).flatMap (ch x k) = _
    show _ = root :: (sm x k n ++ lv x k (n + 1)).flatMap (ch x k)
    rw [sm_eq x k n, List.flatMap_append]
    rfl
theorem ch_len {x : List Nat} {k : Nat} {p q : It} (h : q ∈ ch x k p) : q.1.length = p.1.length + 1 := by
  unfold ch at h
  split at h
  · obtain ⟨c, _, e⟩ := List.mem_filterMap.mp h
    cases z : nxt x c p.2 with
    | none => rw [z] at e; cases e
    | some u => rw [z] at e; cases e; simp
  · cases h
theorem lv_len {x : List Nat} {k : Nat} : ∀ {n : Nat} {p : It}, p ∈ lv x k n → p.1.length = n
  | 0, p, h => by rw [List.mem_singleton.mp h]; rfl
  | n + 1, p, h => by
    obtain ⟨q, hq, hp⟩ := List.mem_flatMap.mp h
    rw [ch_len hp, lv_len hq]
theorem lv_end (x : List Nat) (k : Nat) : lv x k (k + 1) = [] := by
  show (lv x k k).flatMap _ = []
  rw [List.flatMap_eq_nil_iff]
  intro p hp
  unfold ch
  rw [if_neg (by rw [lv_len hp]; omega)]
theorem no_loop {x : List Nat} {k : Nat} {R : List It} (h : R = R.flatMap (ch x k)) : R = [] := by
  have g : ∀ n, ∀ p ∈ R, p.1.length ≠ n := by
    intro n
    induction n with
    | zero =>
      intro p hp z
      rw [h] at hp
      obtain ⟨q, _, e⟩ := List.mem_flatMap.mp hp
      have := ch_len e
      omega
    | succ n ih =>
      intro p hp z
      rw [h] at hp
      obtain ⟨q, hq, e⟩ := List.mem_flatMap.mp hp
      have := ch_len e
      exact ih q hq (by omega)
  cases R with
  | nil => rfl
  | cons a r => exact absurd rfl (g _ a List.mem_cons_self)
/-- what is done when all places were looked at -/
theorem queue_end {x : List Nat} {k : Nat} {L : List It} (h : L = root :: L.flatMap (ch x k)) : L = sm x k k := by
  have g : ∀ n, ∃ R, L = sm x k n ++ R := by
    intro n
    induction n with
    | zero => exact ⟨_, h⟩
    | succ n ih =>
      obtain ⟨R, e⟩ := ih
      refine ⟨R.flatMap (ch x k), ?_⟩
      rw [sm_eq]
      show L = root :: ((sm x k n).flatMap (ch x k) ++ R.flatMap (ch x k))
      rw [← List.flatMap_append, ← e]
      exact h
  obtain ⟨R, e⟩ := g k
  have e2 : L = sm x k (k + 1) ++ R.flatMap (ch x k) := by
    rw [sm_eq]
    show L = root :: ((sm x k k).flatMap (ch x k) ++ R.flatMap (ch x k))
    rw [← List.flatMap_append, ← e]
    exact h
  have e3 : sm x k (k + 1) = sm x k k := by
    show sm x k k ++ lv x k (k + 1) = _
    rw [lv_end, List.append_nil]
  rw [e3] at e2
  have e4 : R = R.flatMap (ch x k) := by
    have := e.symm.trans e2
    exact List.append_cancel_left this
  rw [no_loop e4] at e
  rw [e, List.append_nil]
theorem lv_level (x : List Nat) (k : Nat) : ∀ n, n ≤ k → lv x k n = (level n).filterMap fun w => (endFrom x w 0).map fun e => (w, e)
  | 0, _ => rfl
  | n + 1, h => by
    show (lv x k n).flatMap (ch x k) = ((level n).flatMap fun w => abcd.map fun c => w ++ [c]).filterMap _
    rw [lv_level x k n (by omega)]
    have hl : ∀ w ∈ level n, w.length < k := fun w hw => by rw [level_len hw]; omega
    revert hl
    generalize level n = l
    intro hl
    induction l with
    | nil => rfl
    | cons w l ih =>
      rw [List.filterMap_cons, List.flatMap_cons, List.filterMap_append, ← ih fun w hw => hl w (List.mem_cons_of_mem _ hw), List.filterMap_map]
      have e0 : ∀ c, (endFrom x (w ++ [c]) 0) = (endFrom x w 0).bind (nxt x c) := fun c => end_snoc x w c 0
      cases z : endFrom x w 0 with
      | none =>
        show List.flatMap _ _ = _ ++ _
        have : abcd.filterMap ((fun w => (endFrom x w 0).map fun e => (w, e)) ∘ fun c => w ++ [c]) = [] := by
          rw [List.filterMap_eq_nil_iff]
          intro c _
          show (endFrom x (w ++ [c]) 0).map _ = none
          rw [e0 c, z]
          rfl
        rw [this]
        rfl
      | some u =>
        show ch x k (w, u) ++ _ = _ ++ _
        congr 1
        unfold ch
        rw [if_pos (hl w List.mem_cons_self)]
        refine congrArg (fun f => abcd.filterMap f) (funext fun c => ?_)
        show (nxt x c u).map _ = (endFrom x (w ++ [c]) 0).map _
        rw [e0 c, z]
        rfl
theorem sm_upTo (x : List Nat) (k : Nat) : ∀ n, n ≤ k → (sm x k n).map (·.1) = (upTo n).filter (isSub x) := by
  have g : ∀ l : List (List Nat), (l.filterMap fun w => (endFrom x w 0).map fun e => (w, e)).map (·.1) = l.filter (isSub x) := by
    intro l
    induction l with
    | nil => rfl
    | cons w l ih =>
      rw [List.filterMap_cons, List.filter_cons]
      unfold isSub at ih ⊢
      cases z : endFrom x w 0 with
      | none => exact ih
      | some u => simp only [Option.map_some, Option.isSome_some, if_true, List.map_cons]; rw [ih]
  intro n
  induction n with
  | zero => intro _; rfl
  | succ n ih =>
    intro h
    show (sm x k n ++ lv x k (n + 1)).map _ = (upTo n ++ level (n + 1)).filter _
    rw [List.map_append, List.filter_append, ih (by omega), lv_level x k (n + 1) h, g]
theorem queue_sigs {x : List Nat} {k : Nat} {L : List It} (h : L = root :: L.flatMap (ch x k)) : L.map (·.1) = sigs x k := by
  rw [queue_end h, sm_upTo x k k (Nat.le_refl _)]
  rfl
/-- one turn of the queue -/
theorem queue_step {x : List Nat} {k p : Nat} {L : List It} {a : It} (h : L = root :: (L.take p).flatMap (ch x k)) (ha : L[p]? = some a) :
    L ++ ch x k a = root :: ((L ++ ch x k a).take (p + 1)).flatMap (ch x k) := by
  have hp : p < L.length := (List.getElem?_eq_some_iff.mp ha).1
  rw [List.take_append_of_le_length (by omega), List.take_succ, ha]
  show _ = root :: (L.take p ++ [a]).flatMap (ch x k)
  rw [List.flatMap_append]
  show _ = (root :: (L.take p).flatMap (ch x k)) ++ (ch x k a ++ [])
  rw [← h, List.append_nil]
/-! the queue is bounded -/
def wt : Nat → Nat
  | 0 => 1
  | n + 1 => 1 + 4 * wt n
theorem wt_pos : ∀ n, 1 ≤ wt n
  | 0 => Nat.le_refl _
  | n + 1 => by show 1 ≤ 1 + 4 * wt n; omega
def pot (k : Nat) (l : List It) : Nat := (l.map fun a => wt (k - a.1.length)).sum
theorem pot_ge (k : Nat) : ∀ l, l.length ≤ pot k l
  | [] => Nat.le_refl _
  | a :: l => by
    have := pot_ge k l
    have := wt_pos (k - a.1.length)
    show l.length + 1 ≤ (wt (k - a.1.length) :: l.map _).sum
    rw [List.sum_cons]
    unfold pot at *
    omega
theorem pot_app (k : Nat) (l m : List It) : pot k (l ++ m) = pot k l + pot k m := by
  unfold pot
  rw [List.map_append, List.sum_append]
theorem pot_ch (x : List Nat) (k : Nat) (a : It) : pot k (ch x k a) + 1 ≤ wt (k - a.1.length) := by
  by_cases h : a.1.length < k
  · have g : ∀ l : List It, (∀ q ∈ l, q.1.length = a.1.length + 1) → pot k l = l.length * wt (k - (a.1.length + 1)) := by
      intro l
      induction l with
      | nil => intro _; show 0 = 0 * _; rw [Nat.zero_mul]
      | cons q l ih =>
        intro hl
        have := ih fun z hz => hl z (List.mem_cons_of_mem _ hz)
        show (wt (k - q.1.length) :: l.map _).sum = (l.length + 1) * _
        unfold pot at this
        rw [List.sum_cons, this, hl q List.mem_cons_self, Nat.add_mul, Nat.one_mul, Nat.add_comm]
    rw [g _ fun q hq => ch_len hq]
    have l4 : (ch x k a).length ≤ 4 := by
      unfold ch
      rw [if_pos h]
      exact List.length_filterMap_le _ _
    obtain ⟨n, hn⟩ : ∃ n, k - a.1.length = n + 1 := ⟨k - a.1.length - 1, by omega⟩
    have hn2 : k - (a.1.length + 1) = n := by omega
    rw [hn, hn2]
    show _ ≤ 1 + 4 * wt n
    have := Nat.mul_le_mul_right (wt n) l4
    omega
  · unfold ch
    rw [if_neg h]
    exact wt_pos _
theorem pot_step {x : List Nat} {k p m : Nat} {L : List It} {a : It} (h : p + pot k (L.drop p) ≤ m) (ha : L[p]? = some a) : (p + 1) + pot k ((L ++ ch x k a).drop (p + 1)) ≤ m := by
  obtain ⟨hp, he⟩ := List.getElem?_eq_some_iff.mp ha
  rw [List.drop_eq_getElem_cons hp, he] at h
  rw [List.drop_append_of_le_length (by omega), pot_app]
  have := pot_ch x k a
  have e : pot k (a :: L.drop (p + 1)) = wt (k - a.1.length) + pot k (L.drop (p + 1)) := by
    unfold pot
    rw [List.map_cons, List.sum_cons]
  omega
theorem queue_len {k p m : Nat} {L : List It} (h : p + pot k (L.drop p) ≤ m) : L.length ≤ m := by
  have := pot_ge k (L.drop p)
  rw [List.length_drop] at this
  omega
end Sub

set_option Elab.async false
set_option linter.all false
set_option maxRecDepth 100000
set_option maxHeartbeats 8000000
/-! A binary operator by an own method, the other operand of any type; != by an own __eq__. -/
namespace Lf
open PySem PySem.Spec PyProof.Rows L2
section
open PySem.W
variable {prog : Program} {w : World} {A : Around} {E : Value → Shared → Prop} {s : Shared} {K : Frag} {x C L f : Addr} {h₀ : Heap} {m : Str → Option Value} {ox : Obj} {od : Option Obj}
/-- what is to be known of the other operand's type -/
structure Side (K : Frag) (C : Addr) (nm : String) (tb : Value) (right py : Bool) : Prop where
  ne : (Value.ref C == tb) = false
  fills : ∀ (M : Model) (h : Heap), K.In h → Looks M h (fillsNumberSlot tb nm) right
  sub : subIn K tb (.ref C) = some false
  inPy : right = true → ∀ (M : Model) (h : Heap), K.In h → Looks M h (numberSlotInPython tb nm) py
  refl : right = true → py = false → ∃ ro, findIn K tb (dunderR nm) = some ro
theorem bin_other {op : Operator} {b tb : Value} {rc : Option Value} {right py : Bool} {Q : Value → Shared → Prop} (F : Fr h₀ L s.heap m) (X₀ : K.In h₀) (I : InstAt s.heap x ox C od) (hc : selfFirst K C = true)
    (hs : findIn K (.ref C) (PySem.dunder op.info.2) = some (some (.ref f))) (hf : isFn K (.ref f) = true) (hr : findIn K (.ref C) (dunderR op.info.2) = some rc) (hp : rc = none ∨ ∃ g : Addr, rc = some (.ref g))
    (Lb : Looks (model prog w) s.heap (typeOf b) tb) (S : Side K C op.info.2 tb right py)
    (h : wpAny (model prog w) A (call (.ref f) [.ref x, b]) (PySem.W.CmpBack Q) E s) : wpAny (model prog w) A (binaryOp op (.ref x) b) Q E s := by
  have X := X₀.keeps F.keep
  obtain ⟨cd, rest, hcd, hm⟩ := ksp_first hc
  rcases hi : op.info with ⟨sym, nm'⟩
  rw [hi] at hs hr S
  dsimp only at hs hr S
  have one := ksp_try X I hs hf h
  obtain ⟨hh, g, d, tt, os⟩ := s
  have L1 : Looks (model prog w) hh (typeOf (.ref x)) (.ref C) := I.type
  have L3 : Looks (model prog w) hh (fillsNumberSlot (.ref C) nm') true := fills_K X hcd hm hs
  have L4 := S.fills (model prog w) hh X
  have L5 : Looks (model prog w) hh (isSubtype tb (.ref C)) false := looks_subIn X S.sub
  have L6 : Looks (model prog w) hh (numberSlotInPython (.ref C) nm') true := ksp_inPy X hs hr hp
  have hne := S.ne
  simp only [binaryOp, hi]
  refine wpAny_holding (wpAny_bind ?_)
  unfold binaryOp1
  refine wpAny_bind (L1.at (wpAny_bind (Lb.at (wpAny_bind (L3.at ?_)))))
  simp only [hne, Bool.false_eq_true, if_false]
  cases right with
  | false =>
    ksp_lk
    refine wpAny_mono one (fun r s' hr' => ?_) fun _ _ e => e
    obtain ⟨v, rfl, hq⟩ := hr'
    ksp_lk
    exact hq
  | true =>
    have L7 := S.inPy rfl (model prog w) hh X
    cases py with
    | true =>
      ksp_lk
      refine wpAny_mono one (fun r s' hr' => ?_) fun _ _ e => e
      obtain ⟨v, rfl, hq⟩ := hr'
      ksp_lk
      exact hq
    | false =>
      obtain ⟨ro, hro⟩ := S.refl rfl rfl
      have L8 : Looks (model prog w) hh (typeLookup tb (dunderR nm')) ro := looks_findIn X hro
      ksp_lk
      refine wpAny_mono one (fun r s' hr' => ?_) fun _ _ e => e
      obtain ⟨v, rfl, hq⟩ := hr'
      ksp_lk
      exact hq
end

/-- what is known of a class C with a method of its own for op -/
structure OwnOp (K : PySem.W.Frag) (C : Addr) (nm : String) (f : Addr) : Prop where
  first : PySem.W.selfFirst K C = true
  find : PySem.W.findIn K (.ref C) (PySem.dunder nm) = some (some (.ref f))
  fn : PySem.W.isFn K (.ref f) = true
  refl : PySem.W.findIn K (.ref C) (dunderR nm) = some none
def RightOf (K : PySem.W.Frag) (C : Addr) (nm : String) (t : Value) : Prop := t = .ref C ∨ ∃ right py, Side K C nm t right py
def rBin (K : PySem.W.Frag) (C : Addr) (nm : String) (sp : Sp) (E : XK) : R2 := fun x y H Q => ∃ a dx fs t, x = .ref a ∧ H a = some (.ins C dx fs) ∧ TyX K H y t ∧ RightOf K C nm t ∧ sp [.ref a, y] H Q E
theorem cmpBack {X : Cx} {pins : List (Addr × Obj)} {σ : L2.St} {Q : VK} {v : Value} {s : Shared} (h : EP X pins σ Q v s) : PySem.W.CmpBack (EP X pins σ Q) v s := by
  cases v with
  | notImplemented =>
    obtain ⟨z, H, I, r, q⟩ := h
    cases z <;> first | (obtain ⟨_, e⟩ := r; cases e; done) | (cases r; done)
  | _ => exact h
theorem op_own {X : Cx} {CX : CXT} {k : Nat} {f C : Addr} {fd : FuncData} {ps : List Str} {sp : Sp} {E : XK} {op : Operator} (O : OwnOp X.K C op.info.2 f) (F : FnOk X.prog X.w X.K X.mg X.base CX k f fd ps sp) (hr : Room k X.A)
    (hb : L2.Binds X.K fd ps []) (hx : Passes CX X E) : OpR X (binaryOp op) (rBin X.K C op.info.2 sp E) := by
  intro pins s σ H x y v u Q I rx ry hq
  obtain ⟨a, dx, fs, t, rfl, ha, ty, rt, h⟩ := hq
  cases rx
  obtain ⟨mA, J, _⟩ := ins_get I.hok ha
  obtain ⟨od, J, _⟩ := J.look
  obtain ⟨m, hF⟩ := I.fr
  obtain ⟨P, Z, hP, _⟩ := kit_of I ry ty
  have Lb := Z.ty (model X.prog X.w) s.heap I.kIn hP
  have run : wpAny (model X.prog X.w) X.A (call (.ref f) [.ref a, u]) (PySem.W.CmpBack (EP X pins σ Q)) X.xe s :=
    wpAny_mono (run_fn (us := [.ref a, u]) (vs := [.ref a, y]) F hr hb .nil hx I (.cons rfl (.cons ry .nil)) h) (fun _ _ q => cmpBack q) fun _ _ e => e
  rcases rt with rfl | ⟨right, py, S⟩
  · exact PySem.W.binop_K hF I.ok.mod.kin J Lb O.first O.find O.fn run
  · exact bin_other hF I.ok.mod.kin J O.first O.find O.fn O.refl (.inl rfl) Lb S run

section
open PySem.W
variable {prog : Program} {w : World} {A : Around} {E : Value → Shared → Prop} {s : Shared} {K : Frag} {x C L f : Addr} {h₀ : Heap} {m : Str → Option Value} {ox : Obj} {od : Option Obj}
theorem slotNe : PySem.Slot "object" "__ne__" "object.__ne__" := PySem.F.slot_object_ne
theorem ifBound_ne {b : Value} {Q : Option Value → Shared → Prop} (X : K.In s.heap) (I : InstAt s.heap x ox C od) (hf : findIn K (.ref C) "__ne__" = some (some (.builtin "object.__ne__")))
    (h : wpAny (model prog w) A (call (.builtin "object.__ne__") [.ref x, b]) (fun v => Q (some v)) E s) : wpAny (model prog w) A (callSpecialIfBound? (.ref x) "__ne__" [b]) Q E s := by
  simp only [callSpecialIfBound?, bindSpecialIfBound?]
  refine wpAny_holding (wpAny_bind (wpAny_bind (wpAny_bind (I.type.here ((looks_findIn X hf).here ?_)))))
  refine wpAny_bind (wpAny_askSetting (wpAny_ite ?_))
  have fin : wpAny (model prog w) A (call (.builtin "object.__ne__") ([.ref x] ++ [b]) >>= fun v => pure (some v)) Q E s := wpAny_bind (wpAny_mono h (fun v s' h' => wpAny_pure h') fun _ _ h' => h')
  rw [slotNe.bind]
  split
  · exact wpAny_bind (wpAny_pure (wpAny_pure (by exact fin)))
  · exact wpAny_tryCatch (wpAny_bind (wpAny_pure (wpAny_pure (by exact fin))))
theorem ne_body {b : Value} {Q : Fin → Shared → Prop} (hu : A.units < cLine) (X : K.In s.heap) (I : InstAt s.heap x ox C od) (hs : findIn K (.ref C) "__eq__" = some (some (.ref f))) (hf : isFn K (.ref f) = true)
    (h : wpAny (model prog w) A (call (.ref f) [.ref x, b]) (fun v s' => ∃ r, v = .bool r ∧ Q (.done (.ret (.bool (!r)))) s') E s) : wpAny (model prog w) A (Builtin.«object.__ne__» ⟨[.ref x, b], []⟩) Q E s := by
  unfold Builtin.«object.__ne__»
  refine wpAny_bind (wpAny_pure ?_)
  refine wpAny_bind (wpAny_cRoomFor hu ?_)
  refine wpAny_bind (ifBound_K X I hs hf (wpAny_mono h (fun v s' hv => ?_) fun _ _ e => e))
  obtain ⟨r, rfl, q⟩ := hv
  exact wpAny_bind (wpAny_truthy_bool (wpAny_pure q))

theorem call_ne {b : Value} {Q : Value → Shared → Prop} (hu : A.in1.units < cLine) (X : K.In s.heap) (I : InstAt s.heap x ox C od) (ho : subIn K (.ref C) (.type "object") = some true) (hs : findIn K (.ref C) "__eq__" = some (some (.ref f))) (hf : isFn K (.ref f) = true)
    (h : wpAny (model prog w) A.in1 (call (.ref f) [.ref x, b]) (fun v s' => ∃ r, v = .bool r ∧ Q (.bool (!r)) s') E s) : wpAny (model prog w) A (call (.builtin "object.__ne__") [.ref x, b]) Q E s := by
  refine wpAny_call (codeAny_call_builtin slotNe.plain PySem.F.cmpEntry_ne ?_)
  refine PySem.W.check_slot PySem.F.cmpKind_ne PySem.F.cmpSplit_ne (I.type.andThen (looks_subIn X ho)) (PySem.F.cmpArgs_ne _ _) ?_
  refine ne_body hu X I hs hf (wpAny_mono h (fun v s' hv => ?_) fun _ _ e => e)
  obtain ⟨r, rfl, q⟩ := hv
  exact ⟨r, rfl, q⟩
theorem rc_ne {b tb : Value} {Q : Value → Shared → Prop} (hu : A.units + 1 < cLine) (F : Fr h₀ L s.heap m) (X₀ : K.In h₀) (I : InstAt s.heap x ox C od) (hb : Looks (model prog w) s.heap (typeOf b) tb) (hn : notFirst K C tb = true) (ho : subIn K (.ref C) (.type "object") = some true)
    (hne : findIn K (.ref C) "__ne__" = some (some (.builtin "object.__ne__"))) (hs : findIn K (.ref C) "__eq__" = some (some (.ref f))) (hf : isFn K (.ref f) = true)
    (h : wpAny (model prog w) A.in1 (call (.ref f) [.ref x, b]) (fun v s' => ∃ r, v = .bool r ∧ Q (.bool (!r)) s') E s) : wpAny (model prog w) A (richCompare .NotEq (.ref x) b) Q E s := by
  have X := X₀.keeps F.keep
  have one : wpAny (model prog w) A (tryCompare (.ref x) "__ne__" b) (fun r s' => ∃ v, r = some v ∧ Q v s') E s := by
    unfold tryCompare
    refine wpAny_bind (ifBound_ne X I hne (call_ne hu X I ho hs hf (wpAny_mono h (fun v s' hv => ?_) fun _ _ e => e)))
    obtain ⟨r, rfl, q⟩ := hv
    exact ⟨r, rfl, wpAny_pure ⟨_, rfl, q⟩⟩
  unfold richCompare
  simp only [oneThing_ref]
  refine wpAny_holding (wpAny_bind (wpAny_cRoomFor (Nat.lt_of_succ_lt hu) ?_))
  refine wpAny_bind (I.type.here (wpAny_bind (hb.here ?_)))
  split
  · rename_i q
    have e : subIn K tb (.ref C) = some false := by
      rcases Bool.or_eq_true_iff.mp hn with e | e
      · rw [beq_iff_eq.mp e] at q; simp at q
      · exact beq_iff_eq.mp e
    refine wpAny_bind ((looks_subIn X e).here ?_)
    simp only [Bool.false_eq_true, if_false]
    refine wpAny_bind (wpAny_mono one (fun r s' z => ?_) fun _ _ e => e)
    obtain ⟨v, rfl, hq⟩ := z
    exact wpAny_pure hq
  · refine wpAny_bind (wpAny_pure ?_)
    simp only [Bool.false_eq_true, if_false]
    refine wpAny_bind (wpAny_mono one (fun r s' z => ?_) fun _ _ e => e)
    obtain ⟨v, rfl, hq⟩ := z
    exact wpAny_pure hq
end
/-- a function's promise kept below the running body -/
theorem run_sub {X : Cx} {CX : CXT} {k : Nat} {f : Addr} {fd : FuncData} {ps : List Str} {sp : Sp} {E : XK} {A : Around} (F : FnOk X.prog X.w X.K X.mg X.base CX k f fd ps sp) (sb : Sub X k A) (hb : L2.Binds X.K fd ps []) (hx : Passes CX X E)
    {pins : List (Addr × Obj)} {σ : L2.St} {H : Hp} {s : Shared} {Q : VK} {us : List Value} {vs : List V} (I : L2.Inv X pins σ H s) (r : Vals vs us) (h : sp vs H Q E) : wpAny (model X.prog X.w) A (call (.ref f) us) (EP X pins σ Q) X.xe s := by
  have hl := F.len _ _ _ _ h
  have e0 : Env0 X.prog X.w X.K X.mg X.base A X.stack s H := by
    have e := I.env0
    exact ⟨by rw [sb.fr]; exact e.frames, e.mod, e.bs, e.bsz, e.funs, e.frf, e.hok, e.bare⟩
  have hl2 : us.length = ps.length := by rw [← r.length]; exact hl
  refine wpAny_call (codeAny_mono (F.run A X.stack s H ⟨us, []⟩ us vs Q E sb.room e0 (by
    have := hb s us I.kIn (by simpa using hl2)
    simpa using this) r h) fun r s' hq => ?_)
  cases r with
  | error e => exact hx pins σ H s e s' I hq
  | ok fl =>
    cases fl with
    | ret u => exact I.after hq
    | next => exact False.elim hq
    | brk => exact False.elim hq
    | cont => exact False.elim hq
/-- what is known of a class with an own == and no own != -/
structure OwnEq (K : PySem.W.Frag) (C f : Addr) : Prop where
  eq : PySem.W.findIn K (.ref C) "__eq__" = some (some (.ref f))
  fn : PySem.W.isFn K (.ref f) = true
  ne : PySem.W.findIn K (.ref C) "__ne__" = some (some (.builtin "object.__ne__"))
  obj : PySem.W.subIn K (.ref C) (.type "object") = some true
/-- x == y of an instance x of C and any y whose class doesn't descend from C -/
def rOwnEq (K : PySem.W.Frag) (C : Addr) (sp : Sp) (E : XK) : R2 := fun x y H Q => ∃ a dx fs t, x = .ref a ∧ H a = some (.ins C dx fs) ∧ TyX K H y t ∧ PySem.W.notFirst K C t = true ∧ sp [.ref a, y] H Q E
def rOwnNe (K : PySem.W.Frag) (C : Addr) (sp : Sp) (E : XK) : R2 := fun x y H Q => ∃ a dx fs t, x = .ref a ∧ H a = some (.ins C dx fs) ∧ TyX K H y t ∧ PySem.W.notFirst K C t = true ∧ sp [.ref a, y] H (fun v H' => ∃ b, v = .bl b ∧ Q (.bl (!b)) H') E
section
variable {X : Cx} {CX : CXT} {k : Nat} {f C : Addr} {fd : FuncData} {ps : List Str} {sp : Sp} {E : XK}
theorem op_ownEq (O : OwnEq X.K C f) (F : FnOk X.prog X.w X.K X.mg X.base CX k f fd ps sp) (hr : Room k X.A) (hb : L2.Binds X.K fd ps []) (hx : Passes CX X E) : OpR X (compareOp .Eq) (rOwnEq X.K C sp E) := by
  intro pins s σ H x y v u Q I rx ry hq
  obtain ⟨a, dx, fs, t, rfl, ha, ty, nf, h⟩ := hq
  cases rx
  obtain ⟨mA, J, _⟩ := ins_get I.hok ha
  obtain ⟨od, J, _⟩ := J.look
  obtain ⟨m, hF⟩ := I.fr
  obtain ⟨P, Z, hP, _⟩ := kit_of I ry ty
  have run : wpAny (model X.prog X.w) X.A (call (.ref f) [.ref a, u]) (PySem.W.CmpBack (EP X pins σ Q)) X.xe s :=
    wpAny_mono (run_fn (us := [.ref a, u]) (vs := [.ref a, y]) F hr hb .nil hx I (.cons rfl (.cons ry .nil)) h) (fun _ _ q => cmpBack q) fun _ _ e => e
  show wpAny (model X.prog X.w) X.A (richCompare .Eq (.ref a) u) (EP X pins σ Q) X.xe s
  exact PySem.W.cmp_K (op := .Eq) hr.units0 hF I.ok.mod.kin J (Z.ty _ s.heap I.kIn hP) nf O.eq O.fn run
theorem op_ownNe (O : OwnEq X.K C f) (F : FnOk X.prog X.w X.K X.mg X.base CX k f fd ps sp) (hr : Room (k + 1) X.A) (hb : L2.Binds X.K fd ps []) (hx : Passes CX X E) : OpR X (compareOp .NotEq) (rOwnNe X.K C sp E) := by
  intro pins s σ H x y v u Q I rx ry hq
  obtain ⟨a, dx, fs, t, rfl, ha, ty, nf, h⟩ := hq
  cases rx
  obtain ⟨mA, J, _⟩ := ins_get I.hok ha
  obtain ⟨od, J, _⟩ := J.look
  obtain ⟨m, hF⟩ := I.fr
  obtain ⟨P, Z, hP, _⟩ := kit_of I ry ty
  have sb : Sub X k X.A.in1 := ⟨hr.in1, rfl⟩
  have run : wpAny (model X.prog X.w) X.A.in1 (call (.ref f) [.ref a, u]) (fun v s' => ∃ r, v = .bool r ∧ EP X pins σ Q (.bool (!r)) s') X.xe s :=
    wpAny_mono (run_sub (us := [.ref a, u]) (vs := [.ref a, y]) F sb hb hx I (.cons rfl (.cons ry .nil)) h) (fun v s' q => by
      obtain ⟨z, H', I', r, b, rfl, q⟩ := q
      cases r
      exact ⟨b, rfl, .bl (!b), H', I', rfl, q⟩) fun _ _ e => e
  show wpAny (model X.prog X.w) X.A (richCompare .NotEq (.ref a) u) (EP X pins σ Q) X.xe s
  exact rc_ne hr.in1.units0 hF I.ok.mod.kin J (Z.ty _ s.heap I.kIn hP) nf O.obj O.ne O.eq O.fn run
end

theorem dunder_mul : PySem.dunder "mul" = ("__mul__" : Str) := by decide +kernel
/-- what a head says of an own class with *, == and no reflected *, no != -/
def opsB (K : PySem.W.Frag) (owns : List Addr) (C : Addr) : Bool :=
  PySem.W.selfFirst K C && (decide (PySem.W.findIn K (.ref C) (dunderR "mul") = some none) && (decide (PySem.W.findIn K (.ref C) "__ne__" = some (some (.builtin "object.__ne__"))) && (decide (PySem.W.subIn K (.ref C) (.type "object") = some true) &&
  ((["NoneType", "int", "bool", "str", "list", "tuple"].all fun b => decide (PySem.W.subIn K (.type b) (.ref C) = some false)) && (owns.all fun D => decide (PySem.W.subIn K (.ref D) (.ref C) = some (decide (D = C))))))))
structure Ops (K : PySem.W.Frag) (owns : List Addr) (C : Addr) : Prop where
  first : PySem.W.selfFirst K C = true
  rmul : PySem.W.findIn K (.ref C) (dunderR "mul") = some none
  ne : PySem.W.findIn K (.ref C) "__ne__" = some (some (.builtin "object.__ne__"))
  obj : PySem.W.subIn K (.ref C) (.type "object") = some true
  tys : ∀ b ∈ ["NoneType", "int", "bool", "str", "list", "tuple"], PySem.W.subIn K (.type b) (.ref C) = some false
  own : ∀ D ∈ owns, PySem.W.subIn K (.ref D) (.ref C) = some (decide (D = C))
theorem ops_ok {K : PySem.W.Frag} {owns : List Addr} {C : Addr} (h : opsB K owns C = true) : Ops K owns C := by
  unfold opsB at h
  simp only [Bool.and_eq_true, decide_eq_true_eq, List.all_eq_true] at h
  obtain ⟨a, b, c, d, e, f⟩ := h
  exact ⟨a, b, c, d, e, f⟩
section
variable {K : PySem.W.Frag} {owns : List Addr} {C D f g : Addr}
theorem Ops.mul (o : Ops K owns C) (m : Meth K C "__mul__" f) : OwnOp K C "mul" f := ⟨o.first, by rw [dunder_mul]; exact m.at_, m.fn, o.rmul⟩
theorem Ops.eq (o : Ops K owns C) (m : Meth K C "__eq__" f) : OwnEq K C f := ⟨m.at_, m.fn, o.ne, o.obj⟩
theorem right_same : RightOf K C "mul" (.ref C) := .inl rfl
theorem Ops.right (o : Ops K owns C) (o2 : Ops K owns D) (m2 : Meth K D "__mul__" g) (hD : D ∈ owns) (ne : D ≠ C) : RightOf K C "mul" (.ref D) :=
  .inr ⟨true, true, ⟨Bool.eq_false_iff.mpr fun q => ne (by have := beq_iff_eq.mp q; injection this with this; exact this.symm), fun M h X => by
    obtain ⟨cd, rest, hcd, hm⟩ := PySem.W.ksp_first o2.first
    exact PySem.W.fills_K X hcd hm (o2.mul m2).find, by rw [o.own D hD, decide_eq_false ne], fun _ M h X => PySem.W.ksp_inPy X (o2.mul m2).find o2.rmul (.inl rfl), fun _ z => nomatch z⟩⟩
theorem Ops.rightT (o : Ops K owns C) {T : String} {fo ro : Option Value} (hT : T ∈ ["NoneType", "int", "bool", "str", "list", "tuple"]) (h1 : fastLookup T (PySem.dunder "mul") = some fo) (h2 : fastLookup T (dunderR "mul") = some ro) : RightOf K C "mul" (.type T) :=
  .inr ⟨_, false, ⟨Bool.eq_false_iff.mpr fun q => (nomatch beq_iff_eq.mp q), fun M h X => PySem.W.ksp_fillsT X h1 h2, o.tys T hT, fun _ M h X => PySem.W.Looks.of_pure rfl, fun _ _ => ⟨ro, h2⟩⟩⟩
theorem Ops.right_int (o : Ops K owns C) : RightOf K C "mul" (.type "int") := o.rightT (fo := some (.builtin "int.__mul__")) (ro := some (.builtin "int.__rmul__")) (by decide) (by kernel_rfl) (by kernel_rfl)
theorem Ops.right_none (o : Ops K owns C) : RightOf K C "mul" (.type "NoneType") := o.rightT (fo := none) (ro := none) (by decide) (by kernel_rfl) (by kernel_rfl)
theorem Ops.right_tuple (o : Ops K owns C) : RightOf K C "mul" (.type "tuple") := o.rightT (fo := some (.builtin "tuple.__mul__")) (ro := some (.builtin "tuple.__rmul__")) (by decide) (by kernel_rfl) (by kernel_rfl)
theorem Ops.right_list (o : Ops K owns C) : RightOf K C "mul" (.type "list") := o.rightT (fo := some (.builtin "list.__mul__")) (ro := some (.builtin "list.__rmul__")) (by decide) (by kernel_rfl) (by kernel_rfl)
theorem Ops.right_str (o : Ops K owns C) : RightOf K C "mul" (.type "str") := o.rightT (fo := some (.builtin "str.__mul__")) (ro := some (.builtin "str.__rmul__")) (by decide) (by kernel_rfl) (by kernel_rfl)
theorem Ops.notFirst (o : Ops K owns C) (hD : D ∈ owns) : PySem.W.notFirst K C (.ref D) = true := by
  unfold PySem.W.notFirst
  by_cases e : D = C
  · subst e
    simp
  · rw [o.own D hD, decide_eq_false e]
    simp
theorem Ops.notFirstT (o : Ops K owns C) {T : String} (hT : T ∈ ["NoneType", "int", "bool", "str", "list", "tuple"]) : PySem.W.notFirst K C (.type T) = true := by
  unfold PySem.W.notFirst
  rw [o.tys T hT]
  simp
end
end Lf

set_option Elab.async false
set_option linter.all false
set_option maxRecDepth 100000
set_option maxHeartbeats 0
namespace K78
open PySem PySem.Spec PyProof.Rows L2
def top (i : Nat) : Stmt := PySem.Challenge.pw_letterfolds_k78_signatures_of_words.main.body.getD i (.Pass ⟨0, 0, 0, 0⟩)
abbrev s_is_number : Stmt := top 3
def d_is_number : He.DefD := ⟨("is_number", none), "is_number", "is_number", defArgs s_is_number, defBody s_is_number, defScope s_is_number, [], []⟩
abbrev s_is_between : Stmt := top 4
def d_is_between : He.DefD := ⟨("is_between", none), "is_between", "is_between", defArgs s_is_between, defBody s_is_between, defScope s_is_between, [], []⟩
abbrev s_is_word : Stmt := top 5
def d_is_word : He.DefD := ⟨("is_word", none), "is_word", "is_word", defArgs s_is_word, defBody s_is_word, defScope s_is_word, [.non], []⟩
abbrev s_FoldError_told : Stmt := inClass (top 7) 0
def d_FoldError_told : He.DefD := ⟨("FoldError", some "told"), "told", "FoldError.told", defArgs s_FoldError_told, defBody s_FoldError_told, defScope s_FoldError_told, [], []⟩
abbrev s_NoWord_init : Stmt := inClass (top 8) 0
def d_NoWord_init : He.DefD := ⟨("NoWord", some "__init__"), "__init__", "NoWord.__init__", defArgs s_NoWord_init, defBody s_NoWord_init, defScope s_NoWord_init, [], []⟩
abbrev s_NoWord_told : Stmt := inClass (top 8) 1
def d_NoWord_told : He.DefD := ⟨("NoWord", some "told"), "told", "NoWord.told", defArgs s_NoWord_told, defBody s_NoWord_told, defScope s_NoWord_told, [], []⟩
abbrev s_NoLength_init : Stmt := inClass (top 9) 0
def d_NoLength_init : He.DefD := ⟨("NoLength", some "__init__"), "__init__", "NoLength.__init__", defArgs s_NoLength_init, defBody s_NoLength_init, defScope s_NoLength_init, [], []⟩
abbrev s_NoLength_told : Stmt := inClass (top 9) 1
def d_NoLength_told : He.DefD := ⟨("NoLength", some "told"), "told", "NoLength.told", defArgs s_NoLength_told, defBody s_NoLength_told, defScope s_NoLength_told, [], []⟩
abbrev s_signature : Stmt := top 14
def d_signature : He.DefD := ⟨("signature", none), "signature", "signature", defArgs s_signature, defBody s_signature, defScope s_signature, [], []⟩
abbrev s_L_source : Stmt := top 16
def d_L_source : He.DefD := ⟨("_law_source", none), "_law_source", "_law_source", defArgs s_L_source, defBody s_L_source, defScope s_L_source, [], []⟩
abbrev s_L_draw : Stmt := top 17
def d_L_draw : He.DefD := ⟨("_law_draw", none), "_law_draw", "_law_draw", defArgs s_L_draw, defBody s_L_draw, defScope s_L_draw, [], []⟩
abbrev s_L_pick : Stmt := top 18
def d_L_pick : He.DefD := ⟨("_law_pick", none), "_law_pick", "_law_pick", defArgs s_L_pick, defBody s_L_pick, defScope s_L_pick, [], []⟩
abbrev s_L_all_words : Stmt := top 19
def d_L_all_words : He.DefD := ⟨("_law_all_words", none), "_law_all_words", "_law_all_words", defArgs s_L_all_words, defBody s_L_all_words, defScope s_L_all_words, [], []⟩
abbrev s_L_led : Stmt := top 20
def d_L_led : He.DefD := ⟨("_law_led", none), "_law_led", "_law_led", defArgs s_L_led, defBody s_L_led, defScope s_L_led, [], []⟩
abbrev s_L_has : Stmt := top 21
def d_L_has : He.DefD := ⟨("_law_has", none), "_law_has", "_law_has", defArgs s_L_has, defBody s_L_has, defScope s_L_has, [], []⟩
abbrev s_L_is_part : Stmt := top 22
def d_L_is_part : He.DefD := ⟨("_law_is_part", none), "_law_is_part", "_law_is_part", defArgs s_L_is_part, defBody s_L_is_part, defScope s_L_is_part, [], []⟩
abbrev s_L_said : Stmt := top 23
def d_L_said : He.DefD := ⟨("_law_said", none), "_law_said", "_law_said", defArgs s_L_said, defBody s_L_said, defScope s_L_said, [], []⟩
abbrev s_L_right : Stmt := top 24
def d_L_right : He.DefD := ⟨("_law_right", none), "_law_right", "_law_right", defArgs s_L_right, defBody s_L_right, defScope s_L_right, [], []⟩
abbrev s_law : Stmt := top 25
def d_law : He.DefD := ⟨("law", none), "law", "law", defArgs s_law, defBody s_law, defScope s_law, [], []⟩
def fn : List He.DefD := [d_is_number, d_is_between, d_is_word, d_FoldError_told, d_NoWord_init, d_NoWord_told, d_NoLength_init, d_NoLength_told, d_signature, d_L_source, d_L_draw, d_L_pick, d_L_all_words, d_L_led, d_L_has, d_L_is_part, d_L_said, d_L_right, d_law]
def fa : List He.Fa := [.glo "FoldError", .glo "NoWord", .glo "NoLength", .glo "is_number", .glo "is_between", .glo "is_word", .glo "signature", .glo "_law_source", .glo "_law_draw", .glo "_law_pick", .glo "_law_all_words", .glo "_law_led", .glo "_law_has", .glo "_law_is_part", .glo "_law_said", .glo "_law_right", .glo "law", .int "MOST_LETTERS" 4, .int "MOST_WORD" 200, .int "MOST_LENGTH" 4, .str "LETTERS" "abcdef", .str "SIGNS" "abcdefghijklmnopqrst", .free "ValueError", .free "abs", .free "all", .free "bool", .free "int", .free "isinstance", .free "len", .free "list", .free "range", .free "repr", .free "str", .meth "NoWord" "told", .meth "NoLength" "told", .exm "NoWord" "FoldError" true, .exm "NoWord" "NoWord" true, .exm "NoWord" "NoLength" false, .exm "NoLength" "FoldError" true, .exm "NoLength" "NoWord" false, .exm "NoLength" "NoLength" true]
def inis : List (Str × List Str) := [("NoWord", ["word"]), ("NoLength", ["length"])]
def bares : List Str := []
def owns : List Str := []
def opsl : List Str := []
def iniB (K : PySem.W.Frag) (p : Str × List Str) : Bool := Lf.errB K (He.ga K p.1) && (decide (PySem.W.findIn K (.ref (He.ga K p.1)) "__init__" = some (some (.ref (He.ma K (He.ga K p.1) "__init__")))) &&
  (decide (PySem.W.typeIn K (.ref (He.ma K (He.ga K p.1) "__init__")) = some (.type "function")) && (p.2.all fun f => decide (PySem.W.findIn K (.ref (He.ga K p.1)) f = some none))))
def isB (K : PySem.W.Frag) (x : Str) : Bool := decide (PySem.W.kitOne K (.ref (He.ga K x)) (.ref (He.ga K "FoldError")) = some true)
/-- an own class among all: what isinstance says of its instances, and of others -/
def ownB (K : PySem.W.Frag) (x : Str) : Bool := decide (PySem.W.findIn K (.ref (He.ga K x)) "__class__" = some (some (.builtin "object.__class__"))) && (decide (PySem.W.specialIn K (.builtin "object.__class__") "__get__" = some (some (.builtin "getset_descriptor.__get__"))) &&
  (decide (PySem.W.takesIn K (.builtin "object.__class__") = some true) && (decide (PySem.W.mroIn K (He.ga K x) (.type "object") = some true) &&
  ((["int", "bool", "str", "list", "tuple"].all fun b => decide (PySem.W.kitOne K (.ref (He.ga K x)) (.type b) = some false)) && ((["NoneType", "int", "bool", "str", "list", "tuple", "dict"].all fun b => decide (PySem.W.kitOne K (.type b) (.ref (He.ga K x)) = some false)) &&
  owns.all fun y => decide (PySem.W.kitOne K (.ref (He.ga K x)) (.ref (He.ga K y)) = some (decide (x = y))))))))
def ex (K : PySem.W.Frag) : Bool := (inis.all fun p => iniB K p && isB K p.1) && ((bares.all fun x => Lf.errB K (He.ga K x) && isB K x) && ((owns.all fun x => ownB K x) && opsl.all fun x => Lf.opsB K (owns.map fun y => He.ga K y) (He.ga K x)))
def loose : List Str := (["is_number", "is_between", "is_word", "FoldError", "NoWord", "NoLength", "signature", "_law_source", "_law_draw", "_law_pick", "_law_all_words", "_law_led", "_law_has", "_law_is_part", "_law_said", "_law_right", "LETTERS", "SIGNS", "MOST_LETTERS", "MOST_WORD", "MOST_LENGTH"] : List Str)
def tf : List He.Defn := []
end K78

set_option Elab.async false
set_option linter.all false
set_option maxRecDepth 100000
set_option maxHeartbeats 8000000
namespace K78
open PySem PySem.Spec PyProof.Rows L2 Lf
/-- what the text's top left -/
structure Txt (P : Program) (w : World) (K : PySem.W.Frag) (mg : Str → Option Value) (base : Heap) : Prop where
  d : He.SaysD fa fn K
  m : ex K = true
  gl : ∀ (i : Nat) (x : Str), fa[i]? = some (.glo x) → mg x = some (.ref (He.ga K x))
  fr : ∀ (i : Nat) (x : Str), fa[i]? = some (.free x) → mg x = none
  it : ∀ (i : Nat) (x : Str) (v : Int), fa[i]? = some (.int x v) → ∃ t, mg x = some (.int v t)
  st : ∀ (i : Nat) (x v : Str), fa[i]? = some (.str x v) → ∃ t, mg x = some (.str v t)
def spNum (K : PySem.W.Frag) : Sp := fun vs H Q _ => ∃ x o, vs = [x] ∧ NumK K H x o ∧ Q (.bl o.isSome) H
def btw (lo hi : Int) : Option Int → Bool
  | some i => decide (lo ≤ i) && decide (i ≤ hi)
  | none => false
def spBtw (K : PySem.W.Frag) : Sp := fun vs H Q _ => ∃ x o lo hi, vs = [x, .int lo, .int hi] ∧ NumK K H x o ∧ Q (.bl (btw lo hi o)) H
def isWd (cs : List Nat) : Bool := decide (cs.length ≤ 200) && cs.all fun c => decide (c ∈ Sub.abcd)
def okWd : Option Str → Bool
  | some z => isWd z.cps.toList
  | none => false
def spWord (K : PySem.W.Frag) : Sp := fun vs H Q _ => ∃ x o, vs = [x, .int 4, .int 200] ∧ TxtK K H x o ∧ (∀ z, o = some z → z.length ≤ 1000) ∧ ∀ H', Same H H' → Q (.bl (okWd o)) H'
abbrev teIn : TE := tOp (fun x y H Q => ∃ (c : Nat) (z : Str), x = .str ⟨#[c]⟩ ∧ y = .str z ∧ Q (.bl (decide (c ∈ z.cps.toList))) H) (tVar 4) (tVar 3)
theorem cut4 : (cutS ("abcdef" : Str) none (some 4)).cps.toList = Sub.abcd := by decide +kernel
section
variable {P : Program} {w : World} {K : PySem.W.Frag} {mg : Str → Option Value} {base : Heap}
theorem scNum : FnScope ["thing"] ["thing"] (defScope s_is_number) := ⟨rfl, rfl, rfl, by decide +kernel, rfl, by decide +kernel, by decide +kernel⟩
theorem ok_num {f : Addr} {fd : FuncData} {q : Str} (F : FunD K "is_number" q (defArgs s_is_number) (defBody s_is_number) (defScope s_is_number) [] [] f fd) (zI : mg "isinstance" = none) (zi : mg "int" = none) (zb : mg "bool" = none) :
    FnOk P w K mg base CX0 1 f fd ["thing"] (spNum K) := by
  refine F.ok scNum (fun vs H Q E h => ?_) (fun cdv A outer s H vs Q E hr h => ?_)
  · obtain ⟨x, o, rfl, _⟩ := h
    rfl
  · obtain ⟨x, o, rfl, nk, k⟩ := h
    refine ⟨_, PSs.nox (pss_one (ps_ret (pe_and (pe_callB call_isi rfl zI PyProof.Rows.boot_isinstance (pa_cons (pv 0) (pa_cons (pe_bltn (v := .ty "int") rfl zi PyProof.Rows.boot_int rfl) pa_nil)))
      (pe_one (pe_not (pe_callB call_isi rfl zI PyProof.Rows.boot_isinstance (pa_cons (pv 0) (pa_cons (pe_bltn (v := .ty "bool") rfl zb PyProof.Rows.boot_bool rfl) pa_nil)))))))), ?_⟩
    cases nk with
    | int i =>
      refine ⟨_, rfl, _, .ty "int", .type "int", _, true, rfl, .ty _, .base (.int i), kit_ty (show kitB "int" "int" = some true by decide +kernel), _, rfl, ?_⟩
      exact ifT rfl ⟨_, rfl, _, .ty "bool", .type "int", _, false, rfl, .ty _, .base (.int i), kit_ty (show kitB "int" "bool" = some false by decide +kernel), _, rfl, k⟩
    | bl b =>
      refine ⟨_, rfl, _, .ty "int", .type "bool", _, true, rfl, .ty _, .base (.bl b), kit_ty (show kitB "bool" "int" = some true by decide +kernel), _, rfl, ?_⟩
      exact ifT rfl ⟨_, rfl, _, .ty "bool", .type "bool", _, true, rfl, .ty _, .base (.bl b), kit_ty (show kitB "bool" "bool" = some true by decide +kernel), _, rfl, k⟩
    | @oth _ n ty e =>
      refine ⟨_, rfl, _, .ty "int", .type n, _, false, rfl, .ty _, ty, kit_ty e, _, rfl, ?_⟩
      exact ifF rfl k
theorem scBtw : FnScope ["thing", "least", "most"] ["thing", "least", "most"] (defScope s_is_between) := ⟨rfl, rfl, rfl, by decide +kernel, rfl, by decide +kernel, by decide +kernel⟩
theorem ok_btw {f : Addr} {fd : FuncData} {q : Str} (F : FunD K "is_between" q (defArgs s_is_between) (defBody s_is_between) (defScope s_is_between) [] [] f fd) (DN : Def P w K mg base CX0 1 "is_number" ["thing"] (spNum K)) :
    FnOk P w K mg base CX0 2 f fd ["thing", "least", "most"] (spBtw K) := by
  refine F.ok scBtw (fun vs H Q E h => ?_) (fun cdv A outer s H vs Q E hr h => ?_)
  · obtain ⟨x, o, lo, hi, rfl, _⟩ := h
    rfl
  · obtain ⟨x, o, lo, hi, rfl, nk, k⟩ := h
    refine ⟨_, PSs.nox (pss_one (ps_ret (pe_and (pe_def DN hr pass0 rfl (pa_cons (pv 0) pa_nil)) (pe_one (pe_chain op_le op_le (pv 1) (pv 0) (pv 2)))))), ?_⟩
    refine ⟨_, rfl, x, o, rfl, nk, _, rfl, ?_⟩
    cases nk with
    | int i =>
      refine ifT rfl ⟨_, rfl, _, rfl, _, _, rfl, rfl, _, rfl, ?_⟩
      refine ite2 (fun c => ⟨_, rfl, _, _, rfl, rfl, ?_⟩) (fun c => ?_)
      · have z : btw lo hi (some i) = decide (i ≤ hi) := by show (decide (lo ≤ i) && decide (i ≤ hi)) = _; rw [c]; rfl
        rw [z] at k
        exact k
      · have z : btw lo hi (some i) = false := by
          show (decide (lo ≤ i) && decide (i ≤ hi)) = false
          cases h : decide (lo ≤ i) with
          | true => exact absurd h c
          | false => rfl
        rw [z] at k
        exact k
    | bl b => exact ifF rfl k
    | oth ty e => exact ifF rfl k
theorem scWord : FnScope ["thing", "letters", "most", "known", "letter"] ["thing", "letters", "most"] (defScope s_is_word) := ⟨rfl, rfl, rfl, by decide +kernel, rfl, by decide +kernel, by decide +kernel⟩
theorem ok_word {f : Addr} {fd : FuncData} {q : Str} {dv : List V} (F : FunD K "is_word" q (defArgs s_is_word) (defBody s_is_word) (defScope s_is_word) dv [] f fd) {t : Tok} (gL : mg "LETTERS" = some (.str ("abcdef" : Str) t)) (zI : mg "isinstance" = none) (zs : mg "str" = none) (zn : mg "len" = none) (za : mg "all" = none) :
    FnOk P w K mg base CX0 1 f fd ["thing", "letters", "most"] (spWord K) := by
  refine F.ok scWord (fun vs H Q E h => ?_) (fun cdv A outer s H vs Q E hr h => ?_)
  · obtain ⟨x, o, rfl, _⟩ := h
    rfl
  · obtain ⟨x, o, rfl, tk, lz, k⟩ := h
    refine ⟨_, PSs.nox (pss_cons (ps_if (PW.pt (pw_or (pt_not (pt_val (pe_callB call_isi rfl zI PyProof.Rows.boot_isinstance (pa_cons (pv 0) (pa_cons (pe_bltn (v := .ty "str") rfl zs PyProof.Rows.boot_str rfl) pa_nil))))) (pw_or1 (PW.pt (pw_and (pt_cmpR op_notN (pv 2) pe_non (nomark _)) (pw_and1 (pt_cmpR op_gt (pe_callB call_len_str rfl zn boot_len (pa_cons (pv 0) pa_nil)) (pv 2) (nomark _)))))))) (pss_one (ps_ret pe_bl)) pss_nil)
      (pss_cons (ps_set (i := 3) scWord.nd rfl (.inr rfl) (pe_slice sl_str (pe_gstr rfl gL) po_none (po_some (pv 1))))
      (pss_one (ps_ret (pe_callB (cr_all rfl) rfl za (by decide +kernel) (pa_cons (pe_lc (own := [("letter", 4)]) (g := gName 4) (te := teIn) (by rfl) scWord.nd (pi_str (pv 0)) (blkOk_by (own := [("letter", 4)]) (N := ["thing", "letters", "most", "known", "letter"]) (sc := defScope s_is_word) (by decide +kernel)) (fun _ _ _ _ _ => pg_name (i := 4) scWord.nd rfl (Or.inl rfl)) (fun _ _ _ _ _ => pts_nil)
        (fun _ _ _ _ _ => by exact pe_cmpR op_in_sign (pv 4) (pv 3) (by rfl))) pa_nil)))))), ?_⟩
    obtain ⟨n, ty, kt⟩ := tk.ty
    refine ⟨_, rfl, x, .ty "str", _, _, _, rfl, .ty _, ty, kt, _, rfl, ?_⟩
    cases tk with
    | oth _ _ => exact ifT rfl (k H (L2.Same.refl _))
    | str z =>
      refine ifF rfl ?_
      refine ⟨_, rfl, rfl, _, rfl, ?_⟩
      refine ifT rfl ⟨_, rfl, z, rfl, by have := lz z rfl; show z.length ≤ 16777216; omega, _, rfl, _, _, rfl, rfl, _, rfl, ?_⟩
      obtain ⟨cs, rfl⟩ : ∃ cs, z = tx cs := ⟨_, tx_of z⟩
      have l2 := lz _ rfl
      rw [tx_len] at l2 ⊢
      by_cases h : cs.length ≤ 200
      · rw [show decide ((200 : Int) < (cs.length : Nat)) = false from decide_eq_false (by omega)]
        refine ifF rfl ?_
        refine ⟨_, rfl, 4, rfl, ("abcdef" : Str), rfl, by decide, ?_⟩
        refine ⟨_, rfl, tx cs, rfl, fun D nD => ?_⟩
        refine lc_it (walk_str (z := tx cs)) (fun i Hd => But D H Hd ∧ Hd D = some (.lst (((cs.take i).map fun c => decide (c ∈ Sub.abcd)).map V.bl))) ⟨But.upd, upd_same⟩ (fun _ _ _ _ => True.intro) (fun i y Hd H' hi ⟨bd, hD⟩ ⟨e', c, hc, ey⟩ => ?_) (fun Hd ⟨bd, hD⟩ => ?_)
        · subst e' ey
          refine ⟨rfl, yesT ?_⟩
          have hc' : cs[i]? = some c := by
            unfold tx at hc
            rwa [List.getElem?_toArray] at hc
          refine ⟨_, rfl, _, rfl, c, _, rfl, rfl, ?_⟩
          rw [cut4]
          refine ⟨_, hD, ?_, But.trans bd But.upd, ?_⟩
          · rw [List.length_map, List.length_map, List.length_take]
            have := get_lt hc'
            show min i cs.length < 16777216
            omega
          · rw [upd_same, take_snoc hc', List.map_append, List.map_append]
            rfl
        · have sz : (tx cs).cps.size = cs.length := by simp [tx]
          rw [sz, List.take_length] at hD
          refine ⟨D, _, rfl, SqL.of hD, ?_⟩
          have e : (cs.map fun c => decide (c ∈ Sub.abcd)).all id = okWd (some (tx cs)) := by
            show _ = (decide (cs.length ≤ 200) && _)
            rw [decide_eq_true h, Bool.true_and, List.all_map]
            rfl
          rw [e]
          exact k _ (Same.but (L2.Same.refl _) nD bd)
      · rw [show decide ((200 : Int) < (cs.length : Nat)) = true from decide_eq_true (by omega)]
        have e : okWd (some (tx cs)) = false := by
          show (decide (cs.length ≤ 200) && _) = false
          rw [decide_eq_false h]
          rfl
        rw [e] at k
        exact ifT rfl (k H (L2.Same.refl _))
end
end K78

set_option Elab.async false
set_option linter.all false
set_option maxRecDepth 100000
set_option maxHeartbeats 8000000
namespace K78
open PySem PySem.Spec PyProof.Rows L2 Lf
/-- a source of draws of which at most n were mixed -/
def Src (H : Hp) (l : Addr) (n : Nat) : Prop := ∃ a b c : Int, H l = some (.lst [.int a, .int b, .int c]) ∧ 0 ≤ a ∧ (0 ≤ b ∧ b < 2147483587) ∧ 0 ≤ c ∧ c ≤ n
theorem yesT {σ : L2.St} {H : Hp} {A B : Hp → Prop} (h : A H) : tYes σ H fun b H3 => if b = true then A H3 else B H3 := by
  show if true = true then A H else B H
  rw [if_pos rfl]
  exact h
theorem Src.up {H : Hp} {l : Addr} {n m : Nat} (h : Src H l n) (e : n ≤ m) : Src H l m := by
  obtain ⟨a, b, c, h1, h2, h3, h4, h5⟩ := h
  exact ⟨a, b, c, h1, h2, h3, h4, by omega⟩
theorem Src.same {H H' : Hp} {l : Addr} {n : Nat} (h : Src H l n) (e : Same H H') : Src H' l n := by
  obtain ⟨a, b, c, h1, h2⟩ := h
  exact ⟨a, b, c, e _ _ h1, h2⟩
def spSource : Sp := fun vs H Q _ => ∃ n : Int, vs = [.int n] ∧ ∀ l H', H l = none → Same H H' → Src H' l 0 → Q (.ref l) H'
def spDraw : Sp := fun vs H Q _ => ∃ (l : Addr) (n : Nat) (m : Int), vs = [.ref l, .int m] ∧ Src H l n ∧ n ≤ 1000000 ∧ 0 < m ∧ m ≤ 1000 ∧ ∀ (k : Int) H', 0 ≤ k → k < m → But l H H' → Src H' l (n + 1) → Q (.int k) H'
section
variable {P : Program} {w : World} {K : PySem.W.Frag} {mg : Str → Option Value} {base : Heap}
theorem scSource : FnScope ["_law_cell"] ["_law_cell"] (defScope s_L_source) := ⟨rfl, rfl, rfl, by decide +kernel, rfl, by decide +kernel, by decide +kernel⟩
theorem ok_source {f : Addr} {fd : FuncData} {q : Str} (F : FunD K "_law_source" q (defArgs s_L_source) (defBody s_L_source) (defScope s_L_source) [] [] f fd) (zA : mg "abs" = none) (zI : mg "int" = none) :
    FnOk P w K mg base CX0 1 f fd ["_law_cell"] spSource := by
  refine F.ok scSource (fun vs H Q E h => ?_) (fun cdv A outer s H vs Q E hr h => ?_)
  · obtain ⟨n, rfl, _⟩ := h
    rfl
  · obtain ⟨n, rfl, k⟩ := h
    refine ⟨_, PSs.nox (pss_cons (ps_set (i := 0) scSource.nd rfl (.inl rfl) (pe_callB call_abs rfl zA boot_abs (pa_cons (pv 0) pa_nil)))
      (pss_one (ps_ret (pe_lst (pa_cons (pe_op op_mul (pv 0) (pe_callTy call_int1 rfl zI boot_int (pa_cons (pe_cmpR op_ge (pv 0) (pe_op op_pow pe_int pe_int) (nomark _)) pa_nil)))
        (pa_cons (pe_op op_mod (pe_callTy call_int1 rfl zI boot_int (pa_cons (pv 0) pa_nil)) pe_int)
        (pa_cons pe_int pa_nil))))))), ?_⟩
    refine ⟨_, rfl, n, rfl, ?_⟩
    have nn : 0 ≤ (if n < 0 then -n else n) := by split <;> omega
    generalize (if n < 0 then -n else n) = a at nn ⊢
    refine ⟨_, rfl, _, rfl, 10, 18, rfl, rfl, ⟨by decide, by decide, by decide⟩, a, _, rfl, rfl, .inr ⟨_, rfl, a, _, rfl, rfl, .inr ?_, ?_⟩⟩
    · split <;> decide
    refine ⟨_, rfl, .inl ⟨a, rfl, a, 2147483587, rfl, rfl, (show (0 : Int) < 2147483587 by decide), ?_⟩⟩
    refine ⟨(by show 3 ≤ sizeLine; decide), fun l hl => k l _ hl (same_upd hl) ⟨_, _, _, upd_same, ?_, ?_, by decide, by decide⟩⟩
    · split
      · omega
      · simp
    · constructor <;> omega
theorem scDraw : FnScope ["_law_source_here", "_law_many", "_law_digit", "_law_mixed"] ["_law_source_here", "_law_many"] (defScope s_L_draw) := ⟨rfl, rfl, rfl, by decide +kernel, rfl, by decide +kernel, by decide +kernel⟩
theorem ok_draw {f : Addr} {fd : FuncData} {q : Str} (F : FunD K "_law_draw" q (defArgs s_L_draw) (defBody s_L_draw) (defScope s_L_draw) [] [] f fd) (zI : mg "int" = none) :
    FnOk P w K mg base CX0 1 f fd ["_law_source_here", "_law_many"] spDraw := by
  refine F.ok scDraw (fun vs H Q E h => ?_) (fun cdv A outer s H vs Q E hr h => ?_)
  · obtain ⟨l, n, m, rfl, _⟩ := h
    rfl
  · obtain ⟨l, n, m, rfl, ⟨a, b, c, hl, ha, ⟨hb1, hb2⟩, hc1, hc2⟩, n1, m0, m1, k⟩ := h
    have gI (i : Int) := i
    refine ⟨_, PSs.nox (pss_cons (ps_if (pt_cmpR op_gt (pe_ix ix_list (pv 0) pe_int (fun _ _ => rfl)) pe_int (nomark _))
        (pss_cons (ps_set (i := 2) scDraw.nd rfl (.inl rfl) (pe_op op_mod (pe_callTy call_int1 rfl zI boot_int (pa_cons (pe_ix ix_list (pv 0) pe_int (fun _ _ => rfl)) pa_nil)) (pv 1)))
        (pss_cons (ps_asg (pe_op op_fdiv (pe_ix ix_list (pv 0) pe_int (fun _ _ => rfl)) (pv 1)) (pg_sub (pv 0) pe_int set_list))
        (pss_one (ps_ret (pv 2))))) pss_nil)
      (pss_cons (ps_asg (pe_op op_add (pe_ix ix_list (pv 0) pe_int (fun _ _ => rfl)) pe_int) (pg_sub (pv 0) pe_int set_list))
      (pss_cons (ps_set (i := 3) scDraw.nd rfl (.inl rfl) (pe_op op_mod (pe_callTy call_int1 rfl zI boot_int (pa_cons (pe_op op_mul (pe_op op_add (pe_op op_add (pe_ix ix_list (pv 0) pe_int (fun _ _ => rfl)) (pe_op op_mul pe_int (pe_ix ix_list (pv 0) pe_int (fun _ _ => rfl)))) pe_int) pe_int) pa_nil)) pe_int))
      (pss_cons (ps_set (i := 3) scDraw.nd rfl (.inl rfl) (pe_op op_mod (pe_callTy call_int1 rfl zI boot_int (pa_cons (pe_op op_mul (pv 3) (pe_op op_add (pe_op op_fdiv (pv 3) pe_int) pe_int)) pa_nil)) pe_int))
      (pss_one (ps_ret (pe_op op_mod (pe_callTy call_int1 rfl zI boot_int (pa_cons (pe_op op_fdiv (pe_op op_mod (pe_callTy call_int1 rfl zI boot_int (pa_cons (pe_op op_mul (pv 3) (pe_op op_add (pe_op op_fdiv (pv 3) pe_int) pe_int)) pa_nil)) pe_int) pe_int) pa_nil)) (pv 1)))))))), ?_⟩
    have at0 : atI [V.int a, V.int b, V.int c] 0 = some (.int a) := rfl
    refine ⟨_, rfl, l, _, 0, _, rfl, rfl, SqL.of hl, at0, a, 0, rfl, rfl, _, rfl, ?_⟩
    refine ite2 (fun h0 => ?_) (fun h0 => ?_)
    · refine ⟨_, rfl, l, _, 0, _, rfl, rfl, SqL.of hl, at0, .inl ⟨a, rfl, _, rfl, a, m, rfl, rfl, m0, ?_⟩⟩
      refine ⟨_, rfl, l, _, 0, _, rfl, rfl, SqL.of hl, at0, _, rfl, a, m, rfl, rfl, ⟨m0, by omega⟩, ?_⟩
      refine ⟨_, rfl, l, _, 0, 0, rfl, rfl, hl, rfl, ?_⟩
      exact ⟨_, rfl, k _ _ (Int.emod_nonneg _ (by omega)) (Int.emod_lt_of_pos _ m0) But.upd ⟨_, b, c, upd_same, Int.ediv_nonneg ha (by omega), ⟨hb1, hb2⟩, hc1, by omega⟩⟩
    · have at2 : atI [V.int a, V.int b, V.int c] 2 = some (.int c) := rfl
      have at1' : atI [V.int a, V.int b, V.int (c + 1)] 1 = some (.int b) := rfl
      have at2' : atI [V.int a, V.int b, V.int (c + 1)] 2 = some (.int (c + 1)) := rfl
      refine ⟨_, rfl, l, _, 2, _, rfl, rfl, SqL.of hl, at2, c, 1, rfl, rfl, _, rfl, l, _, 2, 2, rfl, rfl, hl, rfl, ?_⟩
      have hl' : L2.upd H l (.lst [V.int a, V.int b, V.int (c + 1)]) l = some (.lst [V.int a, V.int b, V.int (c + 1)]) := upd_same
      have bt : But l H (L2.upd H l (.lst [V.int a, V.int b, V.int (c + 1)])) := But.upd
      refine ⟨_, rfl, l, _, 1, _, rfl, rfl, SqL.of hl', at1', _, rfl, l, _, 2, _, rfl, rfl, SqL.of hl', at2', 7919, (c + 1), rfl, rfl, .inl ⟨by omega, by omega⟩, b, _, rfl, rfl, _, 13, rfl, rfl, _, 48271, rfl, rfl, .inl ⟨by omega, by omega⟩, .inl ⟨_, rfl, _, 2147483629, rfl, rfl, (show (0 : Int) < 2147483629 by decide), ?_⟩⟩
      generalize hz : (b + 7919 * (c + 1) + 13) * 48271 = z
      have z1 : 0 ≤ z % 2147483629 := Int.emod_nonneg _ (by decide)
      have z2 : z % 2147483629 < 2147483629 := Int.emod_lt_of_pos _ (by decide)
      obtain ⟨u, hu⟩ : ∃ u, z % 2147483629 = u := ⟨_, rfl⟩
      rw [hu] at z1 z2
      refine ⟨_, rfl, _, rfl, u, 1019, congrArg V.int hu, rfl, ⟨by decide, by decide⟩, _, 69621, rfl, rfl, u, _, congrArg V.int hu, rfl, .inl ⟨by omega, by omega⟩, .inl ⟨_, rfl, _, 2147483579, rfl, rfl, (show (0 : Int) < 2147483579 by decide), ?_⟩⟩
      generalize hy : u * (u / 1019 + 69621) = y
      have y1 : 0 ≤ y % 2147483579 := Int.emod_nonneg _ (by decide)
      have y2 : y % 2147483579 < 2147483579 := Int.emod_lt_of_pos _ (by decide)
      obtain ⟨v, hv⟩ : ∃ v, y % 2147483579 = v := ⟨_, rfl⟩
      rw [hv] at y1 y2
      refine ⟨_, rfl, _, rfl, v, 2003, congrArg V.int hv, rfl, ⟨by decide, by decide⟩, _, 40692, rfl, rfl, v, _, congrArg V.int hv, rfl, .inl ⟨by omega, by omega⟩, .inl ⟨_, rfl, _, 2147483549, rfl, rfl, (show (0 : Int) < 2147483549 by decide), ?_⟩⟩
      refine ⟨_, 3, rfl, rfl, ⟨by decide, by decide⟩, .inl ⟨_, rfl, _, rfl, _, m, rfl, rfl, m0, ?_⟩⟩
      exact k _ _ (Int.emod_nonneg _ (by omega)) (Int.emod_lt_of_pos _ m0) But.upd ⟨a, b, c + 1, upd_same, ha, ⟨hb1, hb2⟩, by omega, by omega⟩
end
end K78

set_option Elab.async false
set_option linter.all false
set_option maxRecDepth 100000
set_option maxHeartbeats 8000000
namespace K78
open PySem PySem.Spec PyProof.Rows L2 Lf
abbrev sv (w : List Nat) : V := .str (tx w)
abbrev nv (i : Nat) : V := .int (i : Nat)
def spSig (K : PySem.W.Frag) : Sp := fun vs H Q E => ∃ x lv o ol, vs = [x, lv] ∧ TxtK K H x o ∧ (∀ z, o = some z → z.length ≤ 1000) ∧ NumK K H lv ol ∧
  ((∃ (cs : List Nat) (k : Nat), o = some (tx cs) ∧ isWd cs = true ∧ ol = some (k : Int) ∧ k ≤ 4 ∧ ∀ p H', H p = none → Same H H' → H' p = some (.lst ((Sub.sigs cs k).map sv)) → Q (.ref p) H') ∨
   (okWd o = false ∧ ∀ d H', H d = none → Same H H' → H' d = some (.xd [("word", x)]) → E (.ref (He.ga K "NoWord")) (some d) H') ∨
   (okWd o = true ∧ btw 0 4 ol = false ∧ ∀ d H', H d = none → Same H H' → H' d = some (.xd [("length", lv)]) → E (.ref (He.ga K "NoLength")) (some d) H'))
/-- where a sign ends -/
theorem find_nxt {cs : List Nat} {c e : Nat} (he : e ≤ cs.length) : Txt.find3 (tx cs) ⟨#[c]⟩ (e : Nat) + 1 = (match Sub.nxt cs c e with | some u => ((u : Nat) : Int) | none => 0) := by
  have fi : fromIndex (tx cs).length (e : Nat) = e := by
    unfold fromIndex
    rw [if_neg (by omega)]
    omega
  have gd : ∀ v, v < cs.length → (tx cs).cps.getD v 0 = cs.getD v 0 := fun v hv => by
    unfold tx
    simp [Array.getD, hv]
  have ln := tx_len cs
  unfold Sub.nxt
  rcases StrLaws.find3_spec (tx cs) c (e : Nat) with ⟨h1, h2⟩ | ⟨k, h1, h2, h3, h4, h5⟩
  · rw [fi, ln] at h2
    have : (cs.drop e).findIdx? (· == c) = none := by
      rw [List.findIdx?_eq_none_iff]
      intro d hd
      obtain ⟨j, hj, rfl⟩ := List.getElem_of_mem hd
      rw [List.length_drop] at hj
      have z := h2 (e + j) (by omega) (by omega)
      rw [gd _ (by omega), List.getD_eq_getElem?_getD, List.getElem?_eq_getElem (by omega)] at z
      rw [List.getElem_drop]
      exact beq_false_of_ne z
    rw [h1, this]
    rfl
  · rw [fi, ln] at *
    have : (cs.drop e).findIdx? (· == c) = some (k - e) := by
      rw [List.findIdx?_eq_some_iff_getElem]
      refine ⟨by rw [List.length_drop]; omega, ?_, fun j hj => ?_⟩
      · rw [gd _ h3, List.getD_eq_getElem?_getD, List.getElem?_eq_getElem h3] at h4
        rw [List.getElem_drop]
        have e1 : cs[e + (k - e)]'(by omega) = cs[k] := by congr 1; omega
        rw [e1]
        exact beq_iff_eq.mpr h4
      · have z := h5 (e + j) (by omega) (by omega)
        rw [gd _ (by omega), List.getD_eq_getElem?_getD, List.getElem?_eq_getElem (by omega)] at z
        rw [List.getElem_drop]
        intro y
        exact z (beq_iff_eq.mp y)
    rw [h1, this]
    show (k : Int) + 1 = ((k - e + e + 1 : Nat) : Int)
    omega
theorem nxt_le {cs : List Nat} {c e u : Nat} (h : Sub.nxt cs c e = some u) : u ≤ cs.length ∧ 0 < u := by
  unfold Sub.nxt at h
  cases z : (cs.drop e).findIdx? (· == c) with
  | none => rw [z] at h; cases h
  | some k =>
    rw [z] at h
    cases h
    rw [List.findIdx?_eq_some_iff_getElem] at z
    obtain ⟨hk, _⟩ := z
    rw [List.length_drop] at hk
    show k + e + 1 ≤ _ ∧ 0 < k + e + 1
    omega
/-- what one turn of the signs adds -/
def adds (cs : List Nat) (a : Sub.It) (l : List Nat) : List Sub.It := l.filterMap fun c => (Sub.nxt cs c a.2).map fun e => (a.1 ++ [c], e)
theorem adds_snoc (cs : List Nat) (a : Sub.It) (l : List Nat) (c : Nat) : adds cs a (l ++ [c]) = adds cs a l ++ (match Sub.nxt cs c a.2 with | some e => [(a.1 ++ [c], e)] | none => []) := by
  unfold adds
  rw [List.filterMap_append]
  congr 1
  rw [List.filterMap_cons]
  cases Sub.nxt cs c a.2 <;> rfl
theorem cut20 : cutS ("abcdefghijklmnopqrst" : Str) none (some 4) = tx Sub.abcd := by decide +kernel
def Two (H : Hp) (pf pe : Addr) (L : List Sub.It) : Prop := H pf = some (.lst (L.map fun a => sv a.1)) ∧ H pe = some (.lst (L.map fun a => nv a.2)) ∧ pf ≠ pe
theorem Two.same {H H' : Hp} {pf pe : Addr} {L : List Sub.It} (h : Two H pf pe L) (s : Same H H') : Two H' pf pe L := ⟨s _ _ h.1, s _ _ h.2.1, h.2.2⟩
/-- the queue behind some turns -/
def WI (H : Hp) (x lv : V) (cs : List Nat) (k : Nat) (pf pe : Addr) (m : Nat) (σ : L2.St) (Hn : Hp) : Prop := ∃ (v5 v6 : Option V) (L : List Sub.It) (p : Nat), p + m = 400 ∧ σ = [some x, some lv, some (.ref pf), some (.ref pe), some (.int (p : Nat)), v5, v6] ∧ Same H Hn ∧ Two Hn pf pe L ∧ p ≤ L.length ∧
  L = Sub.root :: (L.take p).flatMap (Sub.ch cs k) ∧ p + Sub.pot k (L.drop p) ≤ Sub.wt k ∧ ∀ a ∈ L, a.2 ≤ cs.length
theorem wt_le : ∀ k, k ≤ 4 → Sub.wt k ≤ 341 := by decide
section
variable {P : Program} {w : World} {K : PySem.W.Frag} {mg : Str → Option Value} {base : Heap}
theorem scSig : FnScope ["word", "length", "found", "ends", "place", "sign", "end"] ["word", "length"] (defScope s_signature) := ⟨rfl, rfl, rfl, by decide +kernel, rfl, by decide +kernel, by decide +kernel⟩
theorem ok_sig {f : Addr} {fd : FuncData} {q : Str} (F : FunD K "signature" q (defArgs s_signature) (defBody s_signature) (defScope s_signature) [] [] f fd) (T : Txt P w K mg base)
    (DW : Def P w K mg base CX0 1 "is_word" ["thing", "letters", "most"] (spWord K)) (DB : Def P w K mg base CX0 2 "is_between" ["thing", "least", "most"] (spBtw K))
    (EW : Err1 P w K mg base "NoWord" "word" "refused noword") (EL : Err1 P w K mg base "NoLength" "length" "refused nolength") : FnOk P w K mg base (L2.CX P w) 3 f fd ["word", "length"] (spSig K) := by
  obtain ⟨t1, g1⟩ := T.it 17 "MOST_LETTERS" 4 rfl
  obtain ⟨t2, g2⟩ := T.it 18 "MOST_WORD" 200 rfl
  obtain ⟨t3, g3⟩ := T.it 19 "MOST_LENGTH" 4 rfl
  obtain ⟨t4, g4⟩ := T.st 21 "SIGNS" "abcdefghijklmnopqrst" rfl
  have zn : mg "len" = none := T.fr 28 "len" rfl
  refine F.ok scSig (fun vs H Q E h => ?_) (fun cdv A outer s H vs Q E hr h => ?_)
  · obtain ⟨x, lv, o, ol, rfl, _⟩ := h
    rfl
  · obtain ⟨x, lv, o, ol, rfl, tk, lz, nk, h⟩ := h
    have r1 : Room 1 _ := hr.mono (by decide)
    refine ⟨_, pss_cons (ps_if (pt_not (pt_val (pe_def DW r1 pass0 rfl (pa_cons (pv 0) (pa_cons (pe_gint rfl g1) (pa_cons (pe_gint rfl g2) pa_nil)))))) (pss_one (ps_raise rfl (takes_of rfl rfl rfl rfl) (pmk_err1 EW hr rfl (pv 0)))) pss_nil)
      (pss_cons (ps_if (pt_not (pt_val (pe_def DB hr pass0 rfl (pa_cons (pv 1) (pa_cons pe_int (pa_cons (pe_gint rfl g3) pa_nil)))))) (pss_one (ps_raise rfl (takes_of rfl rfl rfl rfl) (pmk_err1 EL hr rfl (pv 1)))) pss_nil)
      (PSs.nox (pss_cons (ps_set (i := 2) scSig.nd rfl (.inl rfl) (pe_lst (pa_cons pe_str pa_nil)))
      (pss_cons (ps_set (i := 3) scSig.nd rfl (.inl rfl) (pe_lst (pa_cons pe_int pa_nil)))
      (pss_cons (ps_set (i := 4) scSig.nd rfl (.inl rfl) pe_int)
      (pss_cons (ps_while PassesOwn.never (pt_cmpR op_lt (pv 4) (pe_callB call_len_seq rfl zn boot_len (pa_cons (pv 2) pa_nil)) (nomark _))
        (pss_cons (ps_if (pt_cmpR op_lt (pe_callB call_len_str rfl zn boot_len (pa_cons (pe_ix ix_list (pv 2) (pv 4) (fun _ _ => rfl)) pa_nil)) (pv 1) (nomark _))
          (pss_one (ps_for PassesOwn.never rfl (pi_str (pe_slice sl_str (pe_gstr rfl g4) po_none (po_some (pe_gint rfl g1)))) (pg_name (i := 5) scSig.nd rfl (.inl rfl))
            (pss_cons (ps_set (i := 6) scSig.nd rfl (.inl rfl) (pe_op op_add (pe_bm PySem.F.plainAttrs_str PySem.F.slot_str_find PySem.F.type_str_find mt_find3 (pv 0) (pa_cons (pv 5) (pa_cons (pe_ix ix_list (pv 3) (pv 4) (fun _ _ => rfl)) pa_nil))) pe_int))
            (pss_one (ps_if (pt_cmpR op_gt (pv 6) pe_int (nomark _))
              (pss_cons (ps_expr (pe_bm PySem.F.plainAttrs_list PySem.F.slot_list_append PySem.F.type_list_append mt_append (pv 2) (pa_cons (pe_op op_add_str (pe_ix ix_list (pv 2) (pv 4) (fun _ _ => rfl)) (pv 5)) pa_nil)))
              (pss_one (ps_expr (pe_bm PySem.F.plainAttrs_list PySem.F.slot_list_append PySem.F.type_list_append mt_append (pv 3) (pa_cons (pv 6) pa_nil))))) pss_nil))))) pss_nil)
        (pss_one (ps_aug (i := 4) scSig.nd rfl (.inl rfl) pe_int ip_add))))
      (pss_one (ps_ret (pv 2))))))))), ?_⟩
    rcases h with ⟨cs, k, rfl, iw, rfl, k4, fin⟩ | ⟨bad, fin⟩ | ⟨good, bl, fin⟩
    · cases tk
      cases nk
      have l2 : cs.length ≤ 200 := of_decide_eq_true (Bool.and_eq_true_iff.mp iw).1
      refine ⟨_, rfl, _, some (tx cs), rfl, .str _, lz, fun H1 s1 => ⟨_, rfl, ifF (by show (!isWd cs) = false; rw [iw]; rfl) ?_⟩⟩
      refine ⟨_, rfl, _, some (k : Int), 0, 4, rfl, .int _, ⟨_, rfl, ifF (by show (!(decide ((0 : Int) ≤ (k : Nat)) && decide (((k : Nat) : Int) ≤ 4))) = false; rw [decide_eq_true (by omega), decide_eq_true (by omega)]; rfl) ?_⟩⟩
      refine ⟨(by show 1 ≤ sizeLine; decide), fun pf nf => ?_⟩
      have s2 := s1.trans (same_upd (o := .lst [.str ("" : Str)]) nf)
      have hf : L2.upd H1 pf (.lst [.str ("" : Str)]) pf = some (.lst [.str ("" : Str)]) := upd_same
      generalize L2.upd H1 pf (.lst [.str ("" : Str)]) = H2 at s2 hf ⊢
      refine ⟨(by show 1 ≤ sizeLine; decide), fun pe ne => ?_⟩
      have npf := nil_of s1 nf
      have npe := nil_of s2 ne
      have s3 := s2.trans (same_upd (o := .lst [.int 0]) ne)
      have fe : pf ≠ pe := fun z => by rw [z, ne] at hf; cases hf
      have two : Two (L2.upd H2 pe (.lst [.int 0])) pf pe [Sub.root] := ⟨by rw [upd_ne fe]; exact hf, upd_same, fe⟩
      generalize L2.upd H2 pe (.lst [.int 0]) = H3 at s3 two ⊢
      refine ⟨WI H (.str (tx cs)) (.int (k : Nat)) cs k pf pe, ⟨400, none, none, [Sub.root], 0, rfl, rfl, s3, two, Nat.zero_le _, rfl, ?_, fun a ha => by rw [List.mem_singleton.mp ha]; exact Nat.zero_le _⟩, ?_⟩
      · show 0 + (Sub.wt (k - 0) + 0) ≤ Sub.wt k
        rw [Nat.sub_zero]
        omega
      rintro m σ Hn ⟨v5, v6, L, p, pm, rfl, sn, tw, pl, eq, po, en⟩
      have lL : L.length ≤ 341 := Nat.le_trans (Sub.queue_len po) (wt_le k k4)
      refine ⟨_, rfl, _, rfl, pf, _, rfl, .inl (SqL.of tw.1), _, _, rfl, rfl, _, rfl, ?_⟩
      rw [List.length_map]
      by_cases hp : p < L.length
      · rw [decide_eq_true (show ((p : Nat) : Int) < ((L.length : Nat) : Int) by omega)]
        refine ifT rfl ⟨fun σ' H' => ∃ m', m' < m ∧ WI H (.str (tx cs)) (.int (k : Nat)) cs k pf pe m' σ' H', fun σ' H' z => z, ?_⟩
        obtain ⟨a, ha⟩ := lt_get hp
        have ae := en a (List.mem_of_getElem? ha)
        -- what stands behind the signs leads to the next turn
        have next : ∀ {v5 v6 : Option V} {H4 : Hp}, Same H H4 → Two H4 pf pe (L ++ Sub.ch cs k a) → WI H (.str (tx cs)) (.int (k : Nat)) cs k pf pe (m - 1) [some (.str (tx cs)), some (.int (k : Nat)), some (.ref pf), some (.ref pe), some (.int ((p : Nat) + 1)), v5, v6] H4 := by
          intro v5 v6 H4 s4 tw4
          refine ⟨v5, v6, L ++ Sub.ch cs k a, p + 1, by omega, rfl, s4, tw4, by rw [List.length_append]; omega, Sub.queue_step eq ha, Sub.pot_step po ha, fun b hb => ?_⟩
          rcases List.mem_append.mp hb with h | h
          · exact en b h
          · unfold Sub.ch at h
            split at h
            · obtain ⟨c, _, e⟩ := List.mem_filterMap.mp h
              cases z : Sub.nxt cs c a.2 with
              | none => rw [z] at e; cases e
              | some u => rw [z] at e; cases e; exact (nxt_le z).1
            · cases h
        have alen : a.1.length ≤ 341 := by
          have g : ∀ b ∈ L, b.1.length ≤ k := by
            intro b hb
            rw [eq] at hb
            rcases List.mem_cons.mp hb with rfl | h
            · exact Nat.zero_le _
            · obtain ⟨b', _, h⟩ := List.mem_flatMap.mp h
              have l := Sub.ch_len h
              unfold Sub.ch at h
              split at h
              · omega
              · cases h
          have := g a (List.mem_of_getElem? ha)
          omega
        refine ⟨_, rfl, _, rfl, pf, _, _, _, rfl, rfl, SqL.of tw.1, atI_nat (get_map ha), _, rfl, by rw [tx_len]; show _ ≤ 16777216; omega, _, rfl, _, _, rfl, rfl, _, rfl, ?_⟩
        rw [tx_len]
        by_cases hl : a.1.length < k
        · rw [decide_eq_true (show ((a.1.length : Nat) : Int) < ((k : Nat) : Int) by omega)]
          have ech : Sub.ch cs k a = adds cs a Sub.abcd := by
            unfold Sub.ch adds
            rw [if_pos hl]
          refine ifT rfl ⟨4, rfl, _, rfl, by decide, tx Sub.abcd, congrArg V.str cut20, ?_⟩
          refine for_it (walk_str (z := tx Sub.abcd)) (fun i σ Hi => ∃ v5 v6 : Option V, σ = [some (.str (tx cs)), some (.int (k : Nat)), some (.ref pf), some (.ref pe), some (.int (p : Nat)), v5, v6] ∧ Same H Hi ∧ Two Hi pf pe (L ++ adds cs a (Sub.abcd.take i))) ⟨v5, v6, rfl, sn, ?_⟩ (fun _ _ _ _ _ => True.intro) ?_ ?_
          · show Two Hn pf pe (L ++ [])
            rw [List.append_nil]
            exact tw
          · rintro i y σ Hi H' hi ⟨v5, v6, rfl, si, ti⟩ ⟨rfl, c, hc, rfl⟩
            have hc' : Sub.abcd[i]? = some c := by
              unfold tx at hc
              rwa [List.getElem?_toArray] at hc
            have hpi : (L ++ adds cs a (Sub.abcd.take i))[p]? = some a := by rw [List.getElem?_append_left hp]; exact ha
            refine ⟨_, rfl, rfl, _, rfl, _, rfl, _, rfl, pe, _, _, _, rfl, rfl, SqL.of ti.2.1, atI_nat (get_map hpi), tx cs, _, _, rfl, rfl, _, 1, rfl, rfl, ?_⟩
            show gName 6 (V.int (Txt.find3 (tx cs) ⟨#[c]⟩ (a.2 : Nat) + 1)) _ _ _
            rw [find_nxt ae]
            refine ⟨_, rfl, _, 0, rfl, rfl, _, rfl, ?_⟩
            have eadd := adds_snoc cs a (Sub.abcd.take i) c
            rw [← take_snoc hc'] at eadd
            cases hn : Sub.nxt cs c a.2 with
            | none =>
              rw [hn] at eadd
              refine ifF (by decide) ⟨_, _, rfl, si, ?_⟩
              rw [eadd, List.append_nil]
              exact ti
            | some u =>
              rw [hn] at eadd
              replace eadd : adds cs a (Sub.abcd.take (i + 1)) = adds cs a (Sub.abcd.take i) ++ [(a.1 ++ [c], u)] := eadd
              have nu := nxt_le hn
              have i4 : i < 4 := get_lt hc'
              have la : (adds cs a (Sub.abcd.take i)).length ≤ 4 := by
                unfold adds
                refine Nat.le_trans (List.length_filterMap_le _ _) ?_
                rw [List.length_take]
                exact Nat.le_of_lt (Nat.lt_of_le_of_lt (Nat.min_le_left _ _) i4)
              refine ifT (decide_eq_true (show (0 : Int) < ((u : Nat) : Int) by omega)) ?_
              refine ⟨_, rfl, .inl ⟨rfl, _, SqL.of ti.1⟩, _, rfl, _, rfl, pf, _, _, _, rfl, rfl, SqL.of ti.1, atI_nat (get_map hpi), _, rfl, tx a.1, tx [c], rfl, rfl, by rw [tx_len, tx_len]; show a.1.length + 1 ≤ 16777216; omega, pf, _, _, rfl, rfl, ti.1, by rw [List.length_map, List.length_append]; show _ < 16777216; omega, ?_⟩
              have he : L2.upd H' pf (.lst ((L ++ adds cs a (Sub.abcd.take i)).map (fun a => sv a.1) ++ [.str (tx a.1 ++ tx [c])])) pe = some (.lst ((L ++ adds cs a (Sub.abcd.take i)).map fun a => nv a.2)) := by rw [upd_ne fe.symm]; exact ti.2.1
              refine ⟨_, rfl, .inl ⟨rfl, _, SqL.of he⟩, _, rfl, pe, _, _, rfl, rfl, he, by rw [List.length_map, List.length_append]; show _ < 16777216; omega, _, _, rfl, fun b o e => ?_, ?_, upd_same.trans ?_, fe⟩
              · rw [upd_ne (ne_of_none e npe), upd_ne (ne_of_none e npf)]
                exact si b o e
              · rw [upd_ne fe, upd_same, eadd, tx_app]
                simp only [List.map_append, List.map_cons, List.map_nil, List.append_assoc]
              · rw [eadd]
                simp only [List.map_append, List.map_cons, List.map_nil, List.append_assoc]
          · rintro σ Hi ⟨v5, v6, rfl, si, ti⟩
            have e4 : Sub.abcd.take (tx Sub.abcd).cps.size = Sub.abcd := rfl
            rw [e4, ← ech] at ti
            refine ⟨_, rfl, _, _, rfl, rfl, m - 1, by omega, next si ti⟩
        · rw [decide_eq_false (show ¬ ((a.1.length : Nat) : Int) < ((k : Nat) : Int) by omega)]
          have ech : Sub.ch cs k a = [] := by
            unfold Sub.ch
            rw [if_neg hl]
          refine ifF rfl ⟨_, rfl, _, _, rfl, rfl, m - 1, by omega, next sn (by rw [ech, List.append_nil]; exact tw)⟩
      · rw [decide_eq_false (show ¬ ((p : Nat) : Int) < ((L.length : Nat) : Int) by omega)]
        refine ifF rfl ⟨_, rfl, fin pf Hn npf sn ?_⟩
        rw [List.take_of_length_le (by omega)] at eq
        rw [← Sub.queue_sigs eq, List.map_map]
        exact tw.1
    · refine ⟨_, rfl, _, o, rfl, tk, lz, fun H1 s1 => ⟨_, rfl, ifT (by rw [bad]; rfl) ?_⟩⟩
      exact ⟨_, rfl, fun d H' nd sd hd => fin d H' (nil_of s1 nd) (s1.trans sd) hd⟩
    · refine ⟨_, rfl, _, o, rfl, tk, lz, fun H1 s1 => ⟨_, rfl, ifF (by rw [good]; rfl) ?_⟩⟩
      refine ⟨_, rfl, _, ol, 0, 4, rfl, nk.same s1, ⟨_, rfl, ifT (by rw [bl]; rfl) ?_⟩⟩
      exact ⟨_, rfl, fun d H' nd sd hd => fin d H' (nil_of s1 nd) (s1.trans sd) hd⟩
end
end K78

set_option Elab.async false
set_option linter.all false
set_option maxRecDepth 100000
set_option maxHeartbeats 8000000
namespace K78
open PySem PySem.Spec PyProof.Rows L2 Lf
def spPick : Sp := fun vs H Q _ => ∃ (l p : Addr) (n : Nat) (xs : List V), vs = [.ref l, .ref p] ∧ Src H l n ∧ n ≤ 1000000 ∧ H p = some (.lst xs) ∧ p ≠ l ∧ xs ≠ [] ∧ xs.length ≤ 1000 ∧
  ∀ v H', v ∈ xs → But l H H' → Src H' l (n + 1) → Q v H'
def spAll : Sp := fun vs H Q _ => ∃ m : Nat, vs = [.int 4, .int (m : Nat)] ∧ m ≤ 4 ∧ ∀ p H', H p = none → Same H H' → H' p = some (.lst ((Sub.upTo m).map sv)) → Q (.ref p) H'
def spPart : Sp := fun vs H Q _ => ∃ one cs : List Nat, vs = [.str (tx one), .str (tx cs)] ∧ one.length ≤ 1000 ∧ cs.length ≤ 1000 ∧ Q (.bl (decide (Sub.got one cs = one.length))) H
theorem cut4b : cutS ("abcd" : Str) none (some 4) = tx Sub.abcd := by decide +kernel
theorem cut1 (one : List Nat) (k : Nat) : cutS (tx one) (some (k : Int)) (some ((k : Int) + 1)) = tx ((one.drop k).take 1) := by
  unfold cutS
  have e : ((k : Int) + 1) = ((k + 1 : Nat) : Int) := by omega
  rw [e, HT.sIx_nat, HT.sIx_nat, tx_len, tx_list]
  by_cases h : k < one.length
  · rw [Nat.min_eq_left (by omega), Nat.min_eq_left (by omega), Nat.add_sub_cancel_left]
    rfl
  · rw [Nat.min_eq_right (by omega), Nat.min_eq_right (by omega), Nat.sub_self, List.take_zero, List.drop_eq_nil_of_le (by omega)]
    rfl
theorem is_at (one : List Nat) (k c : Nat) : (V.str (tx ((one.drop k).take 1)) = V.str ⟨#[c]⟩) ↔ one[k]? = some c := by
  show (V.str (tx ((one.drop k).take 1)) = V.str (tx [c])) ↔ _
  constructor
  · intro h
    have := tx_inj (V.str.inj h)
    have g : ((one.drop k).take 1)[0]? = some c := by rw [this]; rfl
    rwa [List.getElem?_take_of_lt (by decide), List.getElem?_drop, Nat.add_zero] at g
  · intro h
    have hk := get_lt h
    rw [List.drop_eq_getElem_cons hk]
    rw [List.getElem?_eq_getElem hk] at h
    rw [Option.some.inj h]
    rfl
theorem upTo_len : ∀ i ≤ 4, (Sub.upTo i).length ≤ 341 := by decide +kernel
theorem level_many : ∀ i ≤ 4, (Sub.level i).length ≤ 256 := by decide +kernel
section
variable {P : Program} {w : World} {K : PySem.W.Frag} {mg : Str → Option Value} {base : Heap}
theorem scPick : FnScope ["_law_source_here", "_law_some"] ["_law_source_here", "_law_some"] (defScope s_L_pick) := ⟨rfl, rfl, rfl, by decide +kernel, rfl, by decide +kernel, by decide +kernel⟩
theorem ok_pick {f : Addr} {fd : FuncData} {q : Str} (F : FunD K "_law_pick" q (defArgs s_L_pick) (defBody s_L_pick) (defScope s_L_pick) [] [] f fd) (zn : mg "len" = none) (DD : Def P w K mg base CX0 1 "_law_draw" ["_law_source_here", "_law_many"] spDraw) :
    FnOk P w K mg base CX0 2 f fd ["_law_source_here", "_law_some"] spPick := by
  refine F.ok scPick (fun vs H Q E h => ?_) (fun cdv A outer s H vs Q E hr h => ?_)
  · obtain ⟨l, p, n, xs, rfl, _⟩ := h
    rfl
  · obtain ⟨l, p, n, xs, rfl, src, n1, hp, pl, ne, lx, k⟩ := h
    refine ⟨_, PSs.nox (pss_one (ps_ret (pe_ix ix_list (pv 1) (pe_def DD hr pass0 rfl (pa_cons (pv 0) (pa_cons (pe_callB call_len_seq rfl zn boot_len (pa_cons (pv 1) pa_nil)) pa_nil))) (fun _ _ => rfl)))), ?_⟩
    have l0 : 0 < xs.length := by
      cases xs with
      | nil => exact absurd rfl ne
      | cons a b => exact Nat.succ_pos _
    refine ⟨_, rfl, _, rfl, _, rfl, p, xs, rfl, .inl (SqL.of hp), l, n, (xs.length : Nat), rfl, src, n1, by omega, by omega, fun i H' i0 i1 b' src' => ?_⟩
    obtain ⟨i, rfl⟩ : ∃ j : Nat, i = (j : Nat) := ⟨i.toNat, by omega⟩
    obtain ⟨v, hv⟩ := lt_get (show i < xs.length by omega)
    exact ⟨p, xs, _, v, rfl, rfl, SqL.of (b' _ _ pl hp), atI_nat hv, k v H' (List.mem_of_getElem? hv) b' src'⟩
theorem scPart : FnScope ["_law_one", "_law_word", "_law_at", "_law_sign"] ["_law_one", "_law_word"] (defScope s_L_is_part) := ⟨rfl, rfl, rfl, by decide +kernel, rfl, by decide +kernel, by decide +kernel⟩
theorem ok_part {f : Addr} {fd : FuncData} {q : Str} (F : FunD K "_law_is_part" q (defArgs s_L_is_part) (defBody s_L_is_part) (defScope s_L_is_part) [] [] f fd) (zn : mg "len" = none) (zI : mg "int" = none) :
    FnOk P w K mg base CX0 1 f fd ["_law_one", "_law_word"] spPart := by
  refine F.ok scPart (fun vs H Q E h => ?_) (fun cdv A outer s H vs Q E hr h => ?_)
  · obtain ⟨one, cs, rfl, _⟩ := h
    rfl
  · obtain ⟨one, cs, rfl, l1, l2, k⟩ := h
    refine ⟨_, PSs.nox (pss_cons (ps_set (i := 2) scPart.nd rfl (.inl rfl) pe_int)
      (pss_cons (ps_for PassesOwn.never rfl (pi_str (pv 1)) (pg_name (i := 3) scPart.nd rfl (.inl rfl))
        (pss_one (ps_set (i := 2) scPart.nd rfl (.inl rfl) (pe_op op_add (pv 2) (pe_callTy call_int1 rfl zI boot_int (pa_cons (pe_and (pe_cmpR op_lt (pv 2) (pe_callB call_len_str rfl zn boot_len (pa_cons (pv 0) pa_nil)) (nomark _)) (pe_one (pe_cmpR op_eq (pe_slice sl_str (pv 0) (po_some (pv 2)) (po_some (pe_op op_add (pv 2) pe_int))) (pv 3) (nomark _)))) pa_nil))))))
      (pss_one (ps_ret (pe_cmpR op_eq (pv 2) (pe_callB call_len_str rfl zn boot_len (pa_cons (pv 0) pa_nil)) (nomark _)))))), ?_⟩
    refine ⟨_, rfl, tx cs, rfl, ?_⟩
    refine for_it (walk_str (z := tx cs)) (fun i σ Hi => ∃ v3 : Option V, σ = [some (.str (tx one)), some (.str (tx cs)), some (.int (Sub.got one (cs.take i) : Nat)), v3] ∧ Hi = H) ⟨none, rfl, rfl⟩ (fun _ _ _ _ _ => True.intro) ?_ ?_
    · rintro i y σ Hi H' hi ⟨v3, rfl, rfl⟩ ⟨rfl, c, hc, rfl⟩
      have hc' : cs[i]? = some c := by
        unfold tx at hc
        rwa [List.getElem?_toArray] at hc
      have gl := Sub.got_le one (cs.take i)
      have gs : Sub.got one (cs.take (i + 1)) = if one[Sub.got one (cs.take i)]? = some c then Sub.got one (cs.take i) + 1 else Sub.got one (cs.take i) := by
        rw [take_snoc hc']
        unfold Sub.got
        rw [List.foldl_append]
        rfl
      generalize hg : Sub.got one (cs.take i) = g at gl gs ⊢
      refine ⟨_, rfl, _, rfl, _, rfl, tx one, rfl, by rw [tx_len]; show _ ≤ 16777216; omega, _, _, rfl, rfl, _, rfl, ?_⟩
      rw [tx_len]
      by_cases hlt : g < one.length
      · rw [decide_eq_true (show ((g : Nat) : Int) < ((one.length : Nat) : Int) by omega)]
        refine ifT rfl ⟨_, rfl, _, rfl, _, rfl, _, rfl, _, 1, rfl, rfl, _, rfl, tx one, rfl, by rw [tx_len]; show _ ≤ 16777216; omega, ?_⟩
        rw [cut1]
        refine ⟨_, rfl, rfl, .inr ⟨_, rfl, _, _, rfl, rfl, some (V.str ⟨#[c]⟩), ?_, rfl⟩⟩
        rw [gs]
        by_cases h : one[g]? = some c
        · rw [if_pos h, decide_eq_true ((is_at one g c).mpr h)]
          rfl
        · rw [if_neg h, decide_eq_false (fun z => h ((is_at one g c).mp z))]
          rfl
      · rw [decide_eq_false (show ¬ ((g : Nat) : Int) < ((one.length : Nat) : Int) by omega)]
        refine ifF rfl (.inr ⟨_, rfl, _, _, rfl, rfl, some (V.str ⟨#[c]⟩), ?_, rfl⟩)
        rw [gs, List.getElem?_eq_none (by omega), if_neg (fun z => nomatch z)]
        rfl
    · rintro σ Hi ⟨v3, rfl, rfl⟩
      have e4 : (tx cs).cps.size = cs.length := by simp [tx]
      rw [e4, List.take_length]
      refine ⟨_, rfl, _, rfl, tx one, rfl, by rw [tx_len]; show _ ≤ 16777216; omega, rfl, ?_⟩
      rw [tx_len]
      have e : decide (V.int (Sub.got one cs : Nat) = V.int (one.length : Nat)) = decide (Sub.got one cs = one.length) := by
        apply decide_eq_decide.mpr
        constructor
        · intro h
          have := V.int.inj h
          omega
        · intro h
          rw [h]
      rw [e]
      exact k
end
end K78

set_option Elab.async false
set_option linter.all false
set_option maxRecDepth 100000
set_option maxHeartbeats 8000000
namespace K78
open PySem PySem.Spec PyProof.Rows L2 Lf
abbrev teApp : TE := tOp (fun x y H Q => ∃ i j, x = .str i ∧ y = .str j ∧ i.length + j.length ≤ sizeLine ∧ Q (.str (i ++ j)) H) (tVar 6) (tVar 7)
abbrev NA : List Str := ["_law_letters", "_law_most", "_law_found", "_law_ends", "_law_turn", "_law_later", "_law_word", "_law_sign"]
section
variable {P : Program} {w : World} {K : PySem.W.Frag} {mg : Str → Option Value} {base : Heap}
theorem scAll : FnScope NA ["_law_letters", "_law_most"] (defScope s_L_all_words) := ⟨rfl, rfl, rfl, by decide +kernel, rfl, by decide +kernel, by decide +kernel⟩
theorem ok_all {f : Addr} {fd : FuncData} {q : Str} (F : FunD K "_law_all_words" q (defArgs s_L_all_words) (defBody s_L_all_words) (defScope s_L_all_words) [] [] f fd) (zr : mg "range" = none) :
    FnOk P w K mg base CX0 1 f fd ["_law_letters", "_law_most"] spAll := by
  refine F.ok scAll (fun vs H Q E h => ?_) (fun cdv A outer s H vs Q E hr h => ?_)
  · obtain ⟨m, rfl, _⟩ := h
    rfl
  · obtain ⟨m, rfl, m4, k⟩ := h
    refine ⟨_, PSs.nox (pss_cons (ps_par (i := 2) (j := 3) rfl scAll.nd rfl rfl (by decide) rfl rfl (pa_cons (pe_lst (pa_cons pe_str pa_nil)) (pa_cons (pe_lst (pa_cons pe_str pa_nil)) pa_nil)) (by rfl))
      (pss_cons (ps_for PassesOwn.never rfl (pi_range1 rfl zr (pa_cons (pv 1) pa_nil)) (pg_name (i := 4) scAll.nd rfl (.inl rfl))
        (pss_cons (ps_set (i := 5) scAll.nd rfl (.inl rfl) (pe_lst pa_nil))
        (pss_cons (ps_for PassesOwn.never rfl (pi_list (pv 3)) (pg_name (i := 6) scAll.nd rfl (.inr rfl))
          (pss_one (ps_expr (pe_bm PySem.F.plainAttrs_list PySem.F.slot_list_extend PySem.F.type_list_extend mt_extend (pv 5) (pa_cons (pe_lc (own := [("_law_sign", 7)]) (g := gName 7) (te := teApp) (by rfl) scAll.nd (pi_str (pe_slice sl_str pe_str po_none (po_some (pv 0)))) (blkOk_by (own := [("_law_sign", 7)]) (N := NA) (sc := defScope s_L_all_words) (by decide +kernel)) (fun _ _ _ _ _ => pg_name (i := 7) scAll.nd rfl (Or.inl rfl)) (fun _ _ _ _ _ => pts_nil)
            (fun _ _ _ _ _ => by exact pe_op op_add_str (pv 6) (pv 7))) pa_nil)))))
        (pss_one (ps_par (i := 2) (j := 3) rfl scAll.nd rfl rfl (by decide) rfl rfl (pa_cons (pe_op op_cat (pv 2) (pv 5)) (pa_cons (pv 5) pa_nil)) (by rfl))))))
      (pss_one (ps_ret (pv 2))))), ?_⟩
    refine ⟨(by show 1 ≤ sizeLine; decide), fun pf nf => ?_⟩
    have s1 := same_upd (o := .lst [.str ("" : Str)]) nf
    have hf : L2.upd H pf (.lst [.str ("" : Str)]) pf = some (.lst ((Sub.upTo 0).map sv)) := upd_same
    generalize L2.upd H pf (.lst [.str ("" : Str)]) = H1 at s1 hf ⊢
    refine ⟨(by show 1 ≤ sizeLine; decide), fun pe ne => ?_⟩
    have s2 := same_upd (o := .lst [.str ("" : Str)]) ne
    have he : L2.upd H1 pe (.lst [.str ("" : Str)]) pe = some (.lst ((Sub.level 0).map sv)) := upd_same
    have hf2 := s2 _ _ hf
    have s3 := s1.trans s2
    generalize L2.upd H1 pe (.lst [.str ("" : Str)]) = H2 at s3 hf2 he ⊢
    refine ⟨_, _, rfl, _, rfl, (m : Nat), rfl, by omega, by omega, ?_⟩
    refine for_range (lo := 0) (n := m) (fun i σ Hi => ∃ (pf pe : Addr) (v4 v5 v6 : Option V), σ = [some (.int 4), some (.int (m : Nat)), some (.ref pf), some (.ref pe), v4, v5, v6, none] ∧ Same H Hi ∧ Hi pf = some (.lst ((Sub.upTo i).map sv)) ∧ Hi pe = some (.lst ((Sub.level i).map sv)) ∧ H pf = none)
      ⟨pf, pe, none, none, none, rfl, s3, hf2, he, nf⟩ ?_ ?_
    · rintro i σ Hi hi ⟨pf, pe, v4, v5, v6, rfl, si, hf, he, nf⟩
      have lv := level_many i (by omega)
      have lu := upTo_len i (by omega)
      refine ⟨(by show 0 ≤ sizeLine; decide), fun pl nl => ?_⟩
      have s4 := si.trans (same_upd (o := .lst []) nl)
      have npl := nil_of si nl
      have hf' := same_upd (o := .lst []) nl _ _ hf
      have he' := same_upd (o := .lst []) nl _ _ he
      have hl : L2.upd Hi pl (.lst []) pl = some (.lst ((((Sub.level i).take 0).flatMap fun w => Sub.abcd.map fun c => w ++ [c]).map sv)) := upd_same
      have nle : pe ≠ pl := fun z => by rw [z, nl] at he; cases he
      have nlf : pf ≠ pl := fun z => by rw [z, nl] at hf; cases hf
      generalize L2.upd Hi pl (.lst []) = H3 at s4 hf' he' hl ⊢
      refine ⟨_, rfl, pe, rfl, ⟨_, SqL.of he'⟩, ?_⟩
      refine for_list (K := K) (a := pe) (xs := (Sub.level i).map sv) (fun j σ Hj => ∃ v6 : Option V, σ = [some (.int 4), some (.int (m : Nat)), some (.ref pf), some (.ref pe), some (.int (0 + (i : Nat))), some (.ref pl), v6, none] ∧ Same H Hj ∧ Hj pf = some (.lst ((Sub.upTo i).map sv)) ∧ Hj pe = some (.lst ((Sub.level i).map sv)) ∧ Hj pl = some (.lst ((((Sub.level i).take j).flatMap fun w => Sub.abcd.map fun c => w ++ [c]).map sv)))
        ⟨v6, rfl, s4, hf', he', hl⟩ (fun j σ Hj _ ⟨_, _, _, _, e, _⟩ => SqL.of e) ?_ ?_
      · rintro j y σ Hj hj ⟨v6, rfl, sj, hfj, hej, hlj⟩
        obtain ⟨x, hx, rfl⟩ := map_get hj
        have xl : x.length = i := Sub.level_len (List.mem_of_getElem? hx)
        have jl := get_lt hx
        refine ⟨_, rfl, .inl ⟨rfl, _, SqL.of hlj⟩, _, rfl, 4, rfl, ("abcd" : Str), rfl, by decide, tx Sub.abcd, congrArg V.str cut4b, fun D nD => ?_⟩
        refine lc_it (walk_str (z := tx Sub.abcd)) (fun t Hd => But D Hj Hd ∧ Hd D = some (.lst (((Sub.abcd.take t).map fun c => x ++ [c]).map sv))) ⟨But.upd, upd_same⟩ (fun _ _ _ _ => True.intro) (fun t y Hd H' ht ⟨bd, hD⟩ ⟨e', c, hc, ey⟩ => ?_) (fun Hd ⟨bd, hD⟩ => ?_)
        · subst e' ey
          have hc' : Sub.abcd[t]? = some c := by
            unfold tx at hc
            rwa [List.getElem?_toArray] at hc
          have t4 : t < 4 := get_lt hc'
          refine ⟨rfl, yesT ?_⟩
          refine ⟨_, rfl, _, rfl, tx x, tx [c], rfl, rfl, by rw [tx_len, tx_len]; show x.length + 1 ≤ 16777216; omega, ?_⟩
          refine ⟨_, hD, ?_, But.trans bd But.upd, ?_⟩
          · rw [List.length_map, List.length_map, List.length_take]
            show min t 4 < 16777216
            omega
          · rw [upd_same, tx_app, take_snoc hc', List.map_append, List.map_append]
            rfl
        · have hl2 := bd _ _ (fun z => by rw [z, nD] at hlj; cases hlj) hlj
          have nDl : D ≠ pl := fun z => by rw [z, hlj] at nD; cases nD
          refine ⟨pl, D, _, _, rfl, rfl, hl2, hD, ?_, ?_⟩
          · have fl : ∀ l : List (List Nat), (l.flatMap fun w => Sub.abcd.map fun c => w ++ [c]).length = 4 * l.length := by
              intro l
              induction l with
              | nil => rfl
              | cons a l ih => rw [List.flatMap_cons, List.length_append, ih, List.length_map, List.length_cons]; show 4 + _ = _; omega
            rw [List.length_map, List.length_map, List.length_map, fl, List.length_take]
            show 4 * min j _ + (Sub.abcd.take _).length ≤ 16777216
            have : (Sub.abcd.take (tx Sub.abcd).cps.size).length ≤ 4 := by rw [List.length_take]; exact Nat.min_le_right _ _
            omega
          · have sd := Same.but (L2.Same.refl _) nD bd
            refine ⟨_, rfl, fun b o e => ?_, ?_, ?_, ?_⟩
            · rw [upd_ne (ne_of_none e npl)]
              exact sd _ _ (sj b o e)
            · rw [upd_ne nlf]
              exact sd _ _ hfj
            · rw [upd_ne nle]
              exact sd _ _ hej
            · have e4 : Sub.abcd.take (tx Sub.abcd).cps.size = Sub.abcd := rfl
              rw [upd_same, take_snoc hx, List.flatMap_append, List.map_append, e4]
              show _ = some (HO.lst (_ ++ ((Sub.abcd.map fun c => x ++ [c]) ++ []).map sv))
              rw [List.append_nil]
      · rintro σ Hj ⟨v6, rfl, sj, hfj, hej, hlj⟩
        rw [List.length_map, List.take_length] at hlj
        refine ⟨_, rfl, _, rfl, pf, pl, _, _, rfl, rfl, hfj, hlj, ?_, fun pn nn => ?_⟩
        · rw [List.length_map, List.length_map]
          have := level_many (i + 1) (by omega)
          show (Sub.upTo i).length + (Sub.level (i + 1)).length ≤ 16777216
          omega
        · refine ⟨_, rfl, _, _, rfl, pn, pl, _, _, _, rfl, sj.trans (same_upd nn), ?_, same_upd nn _ _ hlj, nil_of sj nn⟩
          rw [upd_same, ← List.map_append]
          rfl
    · rintro σ Hi ⟨pf, pe, v4, v5, v6, rfl, si, hf, he, nf⟩
      exact ⟨_, rfl, k pf Hi nf si hf⟩
end
end K78

set_option Elab.async false
set_option linter.all false
set_option maxRecDepth 100000
set_option maxHeartbeats 0
namespace K78
open PySem PySem.Spec PyProof.Rows L2
section
variable {P : Program} {w : World} {K : PySem.W.Frag} {mg : Str → Option Value} {base : Heap}
theorem Txt.ini (T : Txt P w K mg base) (i : Nat) {p : Str × List Str} (h : inis[i]? = some p := by rfl) : iniB K p = true ∧ isB K p.1 = true := by
  have z := (He.ba T.m).1
  exact He.ba (List.all_eq_true.mp z p (List.mem_of_getElem? h))
structure IniK (K : PySem.W.Frag) (p : Str × List Str) : Prop where
  c : Lf.ErrC K (He.ga K p.1)
  i : PySem.W.findIn K (.ref (He.ga K p.1)) "__init__" = some (some (.ref (He.ma K (He.ga K p.1) "__init__")))
  t : PySem.W.typeIn K (.ref (He.ma K (He.ga K p.1) "__init__")) = some (.type "function")
  f : ∀ f ∈ p.2, PySem.W.findIn K (.ref (He.ga K p.1)) f = some none
theorem iniB_ok {p : Str × List Str} (h : iniB K p = true) : IniK K p := by
  obtain ⟨h1, h⟩ := He.ba h
  obtain ⟨h2, h⟩ := He.ba h
  obtain ⟨h3, h4⟩ := He.ba h
  exact ⟨Lf.errB_ok h1, of_decide_eq_true h2, of_decide_eq_true h3, fun f hf => of_decide_eq_true (List.all_eq_true.mp h4 f hf)⟩
theorem tl_NoWord (T : Txt P w K mg base) : Lf.Tells P w K mg base (He.ga K "NoWord") "refused noword" := by
  obtain ⟨fd, F⟩ := T.d.def_ 5 (d := d_NoWord_told) rfl
  have m : Meth K (He.ga K "NoWord") "told" (He.ma K (He.ga K "NoWord") "told") := He.meth_ok (T.d.fact 33 (f := .meth "NoWord" "told") rfl)
  have sc : FnScope ["self"] ["self"] d_NoWord_told.scope := ⟨rfl, rfl, rfl, by decide +kernel, rfl, by decide +kernel, by decide +kernel⟩
  have o : FnOk P w K mg base CX0 1 (He.fAd K d_NoWord_told.at_) fd ["self"] (Lf.spTold "refused noword") := Lf.told_ok F sc
  have b : L2.Binds K fd ["self"] [] := F.bindsN fun _ _ _ _ _ _ us hl => match us, hl with | [_], _ => rfl
  exact ⟨_, fd, m, o, b⟩
theorem er_NoWord (T : Txt P w K mg base) : Lf.Err1 P w K mg base "NoWord" "word" "refused noword" := by
  have k : IniK K ("NoWord", ["word"]) := iniB_ok (T.ini 0).1
  obtain ⟨fd, F⟩ := T.d.def_ 4 (d := d_NoWord_init) rfl
  have sc : FnScope ["self", "word"] ["self", "word"] d_NoWord_init.scope := ⟨rfl, rfl, rfl, by decide +kernel, rfl, by decide +kernel, by decide +kernel⟩
  have n0 : PySem.W.findIn K (.ref (He.ga K "NoWord")) "word" = some none := k.f _ (by simp)
  have o : FnOk P w K mg base CX0 1 (He.fAd K d_NoWord_init.at_) fd ["self", "word"] (Lf.spIni1 (He.ga K "NoWord") "word") := Lf.ini1_ok k.c.o n0 F sc
  have b : L2.Binds K fd ["self", "word"] [] := F.bindsN fun _ _ _ _ _ _ us hl => match us, hl with | [_, _], _ => rfl
  have g : mg "NoWord" = some (.ref (He.ga K "NoWord")) := T.gl 1 "NoWord" rfl
  exact ⟨g, k.c, n0, tl_NoWord T, _, fd, k.i, k.t, o, b⟩
theorem tl_NoLength (T : Txt P w K mg base) : Lf.Tells P w K mg base (He.ga K "NoLength") "refused nolength" := by
  obtain ⟨fd, F⟩ := T.d.def_ 7 (d := d_NoLength_told) rfl
  have m : Meth K (He.ga K "NoLength") "told" (He.ma K (He.ga K "NoLength") "told") := He.meth_ok (T.d.fact 34 (f := .meth "NoLength" "told") rfl)
  have sc : FnScope ["self"] ["self"] d_NoLength_told.scope := ⟨rfl, rfl, rfl, by decide +kernel, rfl, by decide +kernel, by decide +kernel⟩
  have o : FnOk P w K mg base CX0 1 (He.fAd K d_NoLength_told.at_) fd ["self"] (Lf.spTold "refused nolength") := Lf.told_ok F sc
  have b : L2.Binds K fd ["self"] [] := F.bindsN fun _ _ _ _ _ _ us hl => match us, hl with | [_], _ => rfl
  exact ⟨_, fd, m, o, b⟩
theorem er_NoLength (T : Txt P w K mg base) : Lf.Err1 P w K mg base "NoLength" "length" "refused nolength" := by
  have k : IniK K ("NoLength", ["length"]) := iniB_ok (T.ini 1).1
  obtain ⟨fd, F⟩ := T.d.def_ 6 (d := d_NoLength_init) rfl
  have sc : FnScope ["self", "length"] ["self", "length"] d_NoLength_init.scope := ⟨rfl, rfl, rfl, by decide +kernel, rfl, by decide +kernel, by decide +kernel⟩
  have n0 : PySem.W.findIn K (.ref (He.ga K "NoLength")) "length" = some none := k.f _ (by simp)
  have o : FnOk P w K mg base CX0 1 (He.fAd K d_NoLength_init.at_) fd ["self", "length"] (Lf.spIni1 (He.ga K "NoLength") "length") := Lf.ini1_ok k.c.o n0 F sc
  have b : L2.Binds K fd ["self", "length"] [] := F.bindsN fun _ _ _ _ _ _ us hl => match us, hl with | [_, _], _ => rfl
  have g : mg "NoLength" = some (.ref (He.ga K "NoLength")) := T.gl 2 "NoLength" rfl
  exact ⟨g, k.c, n0, tl_NoLength T, _, fd, k.i, k.t, o, b⟩
end
end K78

set_option Elab.async false
set_option linter.all false
set_option maxRecDepth 100000
set_option maxHeartbeats 8000000
namespace K78
open PySem PySem.Spec PyProof.Rows L2 Lf
def spSaid (K : PySem.W.Frag) : Sp := fun vs H Q _ => ∃ x lv o ol, vs = [x, lv] ∧ TxtK K H x o ∧ (∀ z, o = some z → z.length ≤ 1000) ∧ NumK K H lv ol ∧
  ((∃ (cs : List Nat) (k : Nat), o = some (tx cs) ∧ isWd cs = true ∧ ol = some (k : Int) ∧ k ≤ 4 ∧ ∀ p H', H p = none → Same H H' → H' p = some (.lst ((Sub.sigs cs k).map sv)) → Q (.ref p) H') ∨
   (okWd o = false ∧ ∃ d, Rp K H x d ∧ ∀ t H', H t = none → Same H H' → H' t = some (.tup [.str "word", .str d.shown]) → Q (.ref t) H') ∨
   (okWd o = true ∧ btw 0 4 ol = false ∧ ∃ d, Rp K H lv d ∧ ∀ t H', H t = none → Same H H' → H' t = some (.tup [.str "length", .str d.shown]) → Q (.ref t) H'))
/-- what stands behind a clause: a pair of a text and what repr tells of the field -/
def tsPair (K : PySem.W.Frag) (C : Addr) (fl wd : Str) : Addr → Value → Option Addr → TS := fun a cls d D σ H =>
  cls = .ref C ∧ σ[2]? = some (some (.ref a)) ∧ ∃ (dd : Addr) (v : V) (da : PyData), d = some dd ∧ H dd = some (.xd [(fl, v)]) ∧ Rp K H v da ∧ ∀ t, H t = none → D.rt (.ref t) (upd H t (.tup [.str wd, .str da.shown]))
section
variable {P : Program} {w : World} {K : PySem.W.Frag} {mg : Str → Option Value} {base : Heap}
theorem scSaid : FnScope ["_law_word", "_law_length", "e"] ["_law_word", "_law_length"] (defScope s_L_said) := ⟨rfl, rfl, rfl, by decide +kernel, rfl, by decide +kernel, by decide +kernel⟩
theorem ok_said {f : Addr} {fd : FuncData} {q : Str} (F : FunD K "_law_said" q (defArgs s_L_said) (defBody s_L_said) (defScope s_L_said) [] [] f fd) (T : Txt P w K mg base)
    {fs : Addr} {fds : FuncData} (gs : mg "signature" = some (.ref fs)) (ks : PySem.W.keepIn K (.ref fs) = true) (FS : FnOk P w K mg base (L2.CX P w) 3 fs fds ["word", "length"] (spSig K)) (bS : Binds K fds ["word", "length"] []) :
    FnG P w K mg base CX0 4 f fd ["_law_word", "_law_length"] (spSaid K) := by
  have EW := er_NoWord T
  have EL := er_NoLength T
  have zr : mg "repr" = none := T.fr 31 "repr" rfl
  have x1 : PySem.W.exmOne K (.ref (He.ga K "NoWord")) (.ref (He.ga K "NoWord")) = some true := He.exm_ok (T.d.fact 36 (f := .exm "NoWord" "NoWord" true) rfl)
  have x2 : PySem.W.exmOne K (.ref (He.ga K "NoLength")) (.ref (He.ga K "NoWord")) = some false := He.exm_ok (T.d.fact 39 (f := .exm "NoLength" "NoWord" false) rfl)
  have x3 : PySem.W.exmOne K (.ref (He.ga K "NoLength")) (.ref (He.ga K "NoLength")) = some true := He.exm_ok (T.d.fact 40 (f := .exm "NoLength" "NoLength" true) rfl)
  refine okG F scSaid (fun vs H Q E h => ?_) (fun cdv A outer s H vs Q E hgd hr h => ?_)
  · obtain ⟨x, lv, o, ol, rfl, _⟩ := h
    rfl
  · obtain ⟨x, lv, o, ol, rfl, tk, lz, nk, h⟩ := h
    have hu : (A.deeper (envOfC q (defScope s_L_said) s.heap.objs.size f cdv)).units + 9 < cLine := by have := hr.un; omega
    refine ⟨_, PSs.nox (pss_one (ps_tryA (X := (cxOf CX0 P w K mg base ["_law_word", "_law_length", "e"] q (defScope s_L_said) f cdv A outer s H E).nox)
      (l := [(.ref (He.ga K "NoWord"), some 2, tsPair K (He.ga K "NoWord") "word" "word"), (.ref (He.ga K "NoLength"), some 2, tsPair K (He.ga K "NoLength") "length" "length"), (.ref (He.ga K "FoldError"), none, fun _ _ _ => fun D _ H => D.rt (.str "other") H)])
      rfl rfl scSaid.nd LamX.takes0 (fun W pn xe tk _ => pss_one (ps_ret (pe_callS FS hr rfl gs ks bS (fun σ => passAt tk σ) (pa_cons (pv 0) (pa_cons (pv 1) pa_nil)))))
      (.as (i := 2) ⟨rfl, by decide +kernel, .inl EW.g⟩ rfl rfl (fun a o cls d pn z fl => ?s1)
      (.as (i := 2) ⟨rfl, by decide +kernel, .inl EL.g⟩ rfl rfl (fun a o cls d pn z fl => ?s2)
      (.plain ⟨rfl, by decide +kernel, .inl (T.gl 0 "FoldError" rfl)⟩ (fun a o cls d pn _ _ => pss_one (ps_ret pe_str)) .nil))))), ?fin⟩
    case s1 =>
      refine pss_some fun D σ H' h' => ?_
      obtain ⟨rfl, h2, dd, v, da, rfl, hdd, rp, k⟩ := h'
      exact ⟨_, pss_one (ps_ret (pe_tup (pa_cons pe_str (pa_cons (pe_callB (call_reprD (by exact hgd) (by exact hu)) rfl zr boot_repr (pa_cons (pe_xf (X := (cxOf CX0 P w K mg base ["_law_word", "_law_length", "e"] q (defScope s_L_said) f cdv A outer s H E).nox) EW.c.x EW.no z fl (pv 2)) pa_nil)) pa_nil)))),
        ⟨_, h2, rfl, rfl, dd, _, v, rfl, hdd, rfl, v, da, rfl, rp.dp, rp.sh, rp.nd, rp.de, rp.le, (by show 2 ≤ sizeLine; decide), fun t ht => k t ht⟩⟩
    case s2 =>
      refine pss_some fun D σ H' h' => ?_
      obtain ⟨rfl, h2, dd, v, da, rfl, hdd, rp, k⟩ := h'
      exact ⟨_, pss_one (ps_ret (pe_tup (pa_cons pe_str (pa_cons (pe_callB (call_reprD (by exact hgd) (by exact hu)) rfl zr boot_repr (pa_cons (pe_xf (X := (cxOf CX0 P w K mg base ["_law_word", "_law_length", "e"] q (defScope s_L_said) f cdv A outer s H E).nox) EL.c.x EL.no z fl (pv 2)) pa_nil)) pa_nil)))),
        ⟨_, h2, rfl, rfl, dd, _, v, rfl, hdd, rfl, v, da, rfl, rp.dp, rp.sh, rp.nd, rp.de, rp.le, (by show 2 ≤ sizeLine; decide), fun t ht => k t ht⟩⟩
    case fin =>
      refine ⟨_, rfl, _, rfl, x, lv, o, ol, rfl, tk, lz, nk, ?_⟩
      rcases h with h | ⟨bad, da, rp, k⟩ | ⟨good, bl, da, rp, k⟩
      · exact .inl h
      · exact .inr (.inl ⟨bad, fun d H' nd sd hd => fun ln => ⟨true, x1, fun _ a na => ⟨rfl, rfl, d, x, da, rfl, hd, rp.same sd, fun t nt => k t _ (nil_of sd nt) (sd.trans (same_upd nt)) upd_same⟩, fun z => nomatch z⟩⟩)
      · exact .inr (.inr ⟨good, bl, fun d H' nd sd hd => fun ln => ⟨false, x2, fun z => (nomatch z), fun _ => ⟨true, x3, fun _ a na => ⟨rfl, rfl, d, lv, da, rfl, hd, rp.same sd, fun t nt => k t _ (nil_of sd nt) (sd.trans (same_upd nt)) upd_same⟩, fun z => nomatch z⟩⟩⟩)
end
end K78

set_option Elab.async false
set_option linter.all false
set_option maxRecDepth 100000
set_option maxHeartbeats 8000000
namespace K78
open PySem PySem.Spec PyProof.Rows L2 Lf
def spRight : Sp := fun vs H Q _ => ∃ (l : Addr) (n : Nat), vs = [.ref l] ∧ Src H l n ∧ n + 300 ≤ 1000000 ∧ ∀ H', But l H H' → Src H' l (n + 300) → Q (.bl true) H'
abbrev NR : List Str := ["_law_source_here", "_law_letters", "_law_many", "_law_word", "_law_turn", "_law_some", "_law_size", "_law_due", "_law_one", "_law_found", "_law_odd"]
abbrev rLst : List V → Hp → VK → Prop := fun xs H Q => ∃ cs : List Nat, xs = [.str (tx cs)] ∧ cs.length ≤ sizeLine ∧ ∀ l, H l = none → Q (.ref l) (L2.upd H l (.lst (cs.map fun c => V.str (tx [c]))))
abbrev teP : TE := fun σ H Q => (tCons (tVar 0) (tCons (tCB rLst (tCons (tSl rSlS (tC (.str ("abcd" : Str))) tNoPart (tPart (tVar 1))) tNil)) tNil)) σ H fun vs H1 => spPick vs H1 Q E0
abbrev ttD : TT := tAnd (tTest (tOp (rI0 fun i j => V.bl (decide (i ≤ j))) (tCB (fun xs H Q => ∃ z, xs = [V.str z] ∧ z.length ≤ sizeLine ∧ Q (V.int z.length) H) (tCons (tVar 8) tNil)) (tVar 6))) (tB fun σ H Q => (tCons (tVar 8) (tCons (tVar 3) tNil)) σ H fun vs H1 => spPart vs H1 Q E0)
theorem strs_dp {K : PySem.W.Frag} {H : Hp} : ∀ {l : List (List Nat)}, DpAll K H (l.map sv) (l.map fun w => PyData.str (tx w))
  | [] => .nil
  | n :: l => .cons (.str _) strs_dp
theorem strs_shape : ∀ {l : List (List Nat)}, (∀ w ∈ l, ∀ c ∈ w, c < 128) → PyData.canLayAll0 (l.map fun w => PyData.str (tx w)) = true ∧ PyData.depthAll (l.map fun w => PyData.str (tx w)) = 0
  | [], _ => by simp [PyData.canLayAll0, PyData.depthAll]
  | w :: l, h => by
    have b := strs_shape (l := l) fun v hv => h v (List.mem_cons_of_mem _ hv)
    have o : PyData.strOk (tx w) = true := all_of fun c hc => by
      have := h w List.mem_cons_self c hc
      omega
    simp [PyData.canLayAll0, PyData.depthAll, PyData.canLay0, PyData.depth, b.1, b.2, o]
theorem strs_sh {l : List (List Nat)} (h : ∀ w ∈ l, ∀ c ∈ w, c < 128) : SeqAt.shaped (.list (l.map fun w => PyData.str (tx w))) = true := by
  unfold SeqAt.shaped
  simp [PyData.canLay0, PyData.depth, (strs_shape h).1, (strs_shape h).2]
theorem level_abcd : ∀ {n : Nat} {w : List Nat}, w ∈ Sub.level n → ∀ c ∈ w, c < 128
  | 0, w, h => by rw [List.mem_singleton.mp h]; intro c hc; cases hc
  | n + 1, w, h => by
    obtain ⟨v, hv, hw⟩ := List.mem_flatMap.mp h
    obtain ⟨c, hc, rfl⟩ := List.mem_map.mp hw
    intro d hd
    rcases List.mem_append.mp hd with z | z
    · exact level_abcd hv d z
    · rw [List.mem_singleton.mp z]
      exact (show ∀ c ∈ Sub.abcd, c < 128 by decide) c hc
theorem upTo_abcd : ∀ {n : Nat} {w : List Nat}, w ∈ Sub.upTo n → ∀ c ∈ w, c < 128
  | 0, w, h => level_abcd (n := 0) h
  | n + 1, w, h => by
    rcases List.mem_append.mp h with z | z
    · exact upTo_abcd z
    · exact level_abcd z
theorem sigs_abcd {cs : List Nat} {k : Nat} : ∀ w ∈ Sub.sigs cs k, ∀ c ∈ w, c < 128 := fun w hw => upTo_abcd (List.mem_filter.mp hw).1
theorem join_tx : ∀ (acc : List Nat), Txt.join ("" : Str) (acc.map fun c => tx [c]) = tx acc := by
  intro acc
  rw [TL.join_eq]
  induction acc with
  | nil => rfl
  | cons c r ih =>
    cases r with
    | nil => rfl
    | cons d r =>
      show tx [c] ++ ("" : Str) ++ Str.join "" ((d :: r).map fun c => tx [c]) = _
      rw [ih]
      show tx [c] ++ tx [] ++ tx (d :: r) = _
      rw [tx_app, tx_app]
      rfl
theorem cutk : ∀ k, k ≤ 4 → cutS ("abcd" : Str) none (some ((k : Nat) : Int)) = tx (Sub.abcd.take k) := by decide +kernel
theorem if_tC {c : Bool} {a b : V} {σ : L2.St} {H : Hp} {Q : VK} (h : Q (if c = true then a else b) H) : if c = true then tC a σ H Q else tC b σ H Q := by
  cases c <;> exact h
theorem but_put {l p : Addr} {H H1 : Hp} {o : HO} (b : But l H H1) (np : H1 p = none ∨ H p = none) (pl : p ≠ l) : But l H (L2.upd H1 p o) := fun x u nx e => by
  have hn : H p = none := by
    rcases np with z | z
    · exact But.nil b pl z
    · exact z
  rw [upd_ne (ne_of_none e hn)]
  exact b x u nx e
theorem src_ne {H : Hp} {l p : Addr} {n : Nat} (h : Src H l n) (np : H p = none) : p ≠ l := fun z => by
  obtain ⟨a, b, c, e, _⟩ := h
  rw [z, e] at np
  cases np
theorem src_upd {H : Hp} {l p : Addr} {n : Nat} {o : HO} (h : Src H l n) (pl : p ≠ l) : Src (L2.upd H p o) l n := by
  obtain ⟨a, b, c, e, r⟩ := h
  exact ⟨a, b, c, by rw [upd_ne pl.symm]; exact e, r⟩
theorem odd1 {K : PySem.W.Frag} {H : Hp} {a : Addr} (ha : H a = some (.lst [.int 2])) : ∀ v ∈ [V.int (-1), .int 5, .non, .bl true, .str ("1" : Str), .int (10 ^ (20 : Int).toNat), .ref a], ∃ ol d, NumK K H v ol ∧ btw 0 4 ol = false ∧ Rp K H v d := by
  intro v hv
  simp only [List.mem_cons, List.not_mem_nil, or_false] at hv
  rcases hv with rfl | rfl | rfl | rfl | rfl | rfl | rfl
  · exact ⟨_, .int (-1), .int _, by decide, ⟨.int _, by decide +kernel, by decide +kernel, by decide +kernel, by decide +kernel, by decide +kernel⟩⟩
  · exact ⟨_, .int 5, .int _, by decide, ⟨.int _, by decide +kernel, by decide +kernel, by decide +kernel, by decide +kernel, by decide +kernel⟩⟩
  · exact ⟨_, .none, .oth (.base .non) (show kitB "NoneType" "int" = some false by decide +kernel), rfl, ⟨.non, by decide +kernel, by decide +kernel, by decide +kernel, by decide +kernel, by decide +kernel⟩⟩
  · exact ⟨_, .bool true, .bl _, rfl, ⟨.bl _, by decide +kernel, by decide +kernel, by decide +kernel, by decide +kernel, by decide +kernel⟩⟩
  · exact ⟨_, .str ("1" : Str), .oth (.base (.str _)) (show kitB "str" "int" = some false by decide +kernel), rfl, ⟨.str _, by decide +kernel, by decide +kernel, by decide +kernel, by decide +kernel, by decide +kernel⟩⟩
  · exact ⟨_, .int (10 ^ (20 : Int).toNat), .int _, by decide, ⟨.int _, by decide +kernel, by decide +kernel, by decide +kernel, by decide +kernel, by decide +kernel⟩⟩
  · exact ⟨_, .list [.int 2], .oth (.base (.lst ha)) (show kitB "list" "int" = some false by decide +kernel), rfl, ⟨.lst (SqL.of ha) (.cons (.int _) .nil), by decide +kernel, by decide +kernel, by decide +kernel, by decide +kernel, by decide +kernel⟩⟩
theorem txt2 {K : PySem.W.Frag} {H : Hp} {cs : List Nat} (h : ∀ c ∈ cs, c < 128) (l : cs.length ≤ 500) (w : isWd cs = false) : ∃ o d, TxtK K H (.str (tx cs)) o ∧ okWd o = false ∧ (∀ z, o = some z → z.length ≤ 1000) ∧ Rp K H (.str (tx cs)) d :=
  ⟨_, _, .str _, w, fun z e => by cases e; rw [tx_len]; omega, rp_txt h (by omega)⟩
theorem wd_sign {cs : List Nat} {c : Nat} (h : c ∉ Sub.abcd) : isWd (cs ++ [c]) = false := by
  unfold isWd
  rw [List.all_append]
  have : ([c].all fun c => decide (c ∈ Sub.abcd)) = false := by
    show (decide (c ∈ Sub.abcd) && true) = false
    rw [decide_eq_false h]
    rfl
  rw [this, Bool.and_false, Bool.and_false]
theorem wd_long {cs : List Nat} (h : 200 < cs.length) : isWd cs = false := by
  unfold isWd
  rw [decide_eq_false (by omega)]
  rfl
abbrev aaa : List Nat := (List.replicate 201 [97]).flatten
theorem odd2 {K : PySem.W.Frag} {H : Hp} {a t : Addr} {acc : List Nat} (ha : H a = some (.lst [.str ("a" : Str)])) (ht : H t = some (.tup [.str ("a" : Str)])) (hc : ∀ c ∈ acc, c < 128) (hl : acc.length ≤ 200) :
    ∀ v ∈ [V.non, .int 5, .ref a, .str ("e" : Str), .str (tx acc ++ ("e" : Str)), .str ("A" : Str), .str (tx aaa), .str (tx acc ++ (" " : Str)), .bl true, .ref t, .str (tx acc ++ tx aaa)], ∃ o d, TxtK K H v o ∧ okWd o = false ∧ (∀ z, o = some z → z.length ≤ 1000) ∧ Rp K H v d := by
  have la : aaa.length = 201 := by decide +kernel
  have ca : ∀ c ∈ aaa, c < 128 := by decide +kernel
  have both : ∀ {u : List Nat}, (∀ c ∈ u, c < 128) → ∀ c ∈ acc ++ u, c < 128 := fun {u} hu c h => by
    rcases List.mem_append.mp h with z | z
    · exact hc c z
    · exact hu c z
  intro v hv
  simp only [List.mem_cons, List.not_mem_nil, or_false] at hv
  rcases hv with rfl | rfl | rfl | rfl | rfl | rfl | rfl | rfl | rfl | rfl | rfl
  · exact ⟨_, .none, .oth (.base .non) (show kitB "NoneType" "str" = some false by decide +kernel), rfl, (fun z e => nomatch e), ⟨.non, by decide +kernel, by decide +kernel, by decide +kernel, by decide +kernel, by decide +kernel⟩⟩
  · exact ⟨_, .int 5, .oth (.base (.int _)) (show kitB "int" "str" = some false by decide +kernel), rfl, (fun z e => nomatch e), ⟨.int _, by decide +kernel, by decide +kernel, by decide +kernel, by decide +kernel, by decide +kernel⟩⟩
  · exact ⟨_, .list [.str ("a" : Str)], .oth (.base (.lst ha)) (show kitB "list" "str" = some false by decide +kernel), rfl, (fun z e => nomatch e), ⟨.lst (SqL.of ha) (.cons (.str _) .nil), by decide +kernel, by decide +kernel, by decide +kernel, by decide +kernel, by decide +kernel⟩⟩
  · rw [show ("e" : Str) = tx [101] by decide +kernel]
    exact txt2 (by decide) (by decide) (by decide)
  · rw [show ("e" : Str) = tx [101] by decide +kernel, tx_app]
    exact txt2 (both (by decide)) (by rw [List.length_append]; show _ + 1 ≤ 500; omega) (wd_sign (by decide))
  · rw [show ("A" : Str) = tx [65] by decide +kernel]
    exact txt2 (by decide) (by decide) (by decide)
  · exact txt2 ca (by omega) (wd_long (by omega))
  · rw [show (" " : Str) = tx [32] by decide +kernel, tx_app]
    exact txt2 (both (by decide)) (by rw [List.length_append]; show _ + 1 ≤ 500; omega) (wd_sign (by decide))
  · exact ⟨_, .bool true, .oth (.base (.bl _)) (show kitB "bool" "str" = some false by decide +kernel), rfl, (fun z e => nomatch e), ⟨.bl _, by decide +kernel, by decide +kernel, by decide +kernel, by decide +kernel, by decide +kernel⟩⟩
  · exact ⟨_, .tuple [.str ("a" : Str)], .oth (.base (.tup ht)) (show kitB "tuple" "str" = some false by decide +kernel), rfl, (fun z e => nomatch e), ⟨.tup (SqT.of ht) (.cons (.str _) .nil), by decide +kernel, by decide +kernel, by decide +kernel, by decide +kernel, by decide +kernel⟩⟩
  · rw [tx_app]
    exact txt2 (both ca) (by rw [List.length_append]; omega) (wd_long (by rw [List.length_append]; omega))
theorem num2 {K : PySem.W.Frag} {H : Hp} : ∀ v ∈ [V.int 0, .int 4, .int (-1), .non], ∃ ol, NumK K H v ol := by
  intro v hv
  simp only [List.mem_cons, List.not_mem_nil, or_false] at hv
  rcases hv with rfl | rfl | rfl | rfl
  · exact ⟨_, .int _⟩
  · exact ⟨_, .int _⟩
  · exact ⟨_, .int _⟩
  · exact ⟨_, .oth (.base .non) (show kitB "NoneType" "int" = some false by decide +kernel)⟩
section
variable {P : Program} {w : World} {K : PySem.W.Frag} {mg : Str → Option Value} {base : Heap}
theorem scRight : FnScope NR ["_law_source_here"] (defScope s_L_right) := ⟨rfl, rfl, rfl, by decide +kernel, rfl, by decide +kernel, by decide +kernel⟩
theorem ok_right {f : Addr} {fd : FuncData} {q : Str} (F : FunD K "_law_right" q (defArgs s_L_right) (defBody s_L_right) (defScope s_L_right) [] [] f fd) (T : Txt P w K mg base)
    (DD : Def P w K mg base CX0 1 "_law_draw" ["_law_source_here", "_law_many"] spDraw) (DP : Def P w K mg base CX0 2 "_law_pick" ["_law_source_here", "_law_some"] spPick)
    (DA : Def P w K mg base CX0 1 "_law_all_words" ["_law_letters", "_law_most"] spAll) (DI : Def P w K mg base CX0 1 "_law_is_part" ["_law_one", "_law_word"] spPart)
    (DS : DefG P w K mg base CX0 4 "_law_said" ["_law_word", "_law_length"] (spSaid K)) : FnG P w K mg base CX0 5 f fd ["_law_source_here"] spRight := by
  have zr : mg "range" = none := T.fr 30 "range" rfl
  have zR : mg "repr" = none := T.fr 31 "repr" rfl
  have zl : mg "list" = none := T.fr 29 "list" rfl
  have zI : mg "isinstance" = none := T.fr 27 "isinstance" rfl
  have zn : mg "len" = none := T.fr 28 "len" rfl
  refine okG F scRight (fun vs H Q E h => ?_) (fun cdv A outer s H vs Q E hgd hr h => ?_)
  · obtain ⟨l, n, rfl, _⟩ := h
    rfl
  · obtain ⟨l, n, rfl, src, n1, fin⟩ := h
    have R1 : Room 1 _ := hr.mono (by decide)
    have R2 : Room 2 _ := hr.mono (by decide)
    have hu : (A.deeper (envOfC q (defScope s_L_right) s.heap.objs.size f cdv)).units + 64 < cLine := hr.units
    have hu9 : (A.deeper (envOfC q (defScope s_L_right) s.heap.objs.size f cdv)).units + 9 < cLine := by omega
    refine ⟨_, PSs.nox (pss_cons (ps_set (i := 1) scRight.nd rfl (.inr rfl) (pe_op op_add pe_int (pe_def DD R1 pass0 rfl (pa_cons (pv 0) (pa_cons pe_int pa_nil)))))
      (pss_cons (ps_set (i := 2) scRight.nd rfl (.inl rfl) (pe_def DP R2 pass0 rfl (pa_cons (pv 0) (pa_cons (pe_lst (pa_cons pe_int (pa_cons pe_int (pa_cons pe_int (pa_cons pe_int (pa_cons pe_int (pa_cons pe_int (pa_cons pe_int (pa_cons pe_int (pa_cons pe_int pa_nil)))))))))) pa_nil))))
      (pss_cons (ps_set (i := 3) scRight.nd rfl (.inr rfl) (pe_join pe_str (pe_lc (own := [("_law_turn", 4)]) (g := gName 4) (te := teP) (by rfl) scRight.nd (pi_range1 rfl zr (pa_cons (pv 2) pa_nil)) (blkOk_by (own := [("_law_turn", 4)]) (N := NR) (sc := defScope s_L_right) (by decide +kernel)) (fun _ _ _ _ _ => pg_name (i := 4) scRight.nd rfl (Or.inl rfl)) (fun _ _ _ _ _ => pts_nil)
        (fun _ _ _ _ _ => by exact pe_def DP R2 pass0 rfl (pa_cons (pv 0) (pa_cons (pe_callTy (call_listStr rfl) rfl zl boot_list (pa_cons (pe_slice sl_str pe_str po_none (po_some (pv 1))) pa_nil)) pa_nil))))))
      (pss_cons (ps_set (i := 5) scRight.nd rfl (.inl rfl) (pe_def DA R1 pass0 rfl (pa_cons pe_int (pa_cons (pe_ifExp (pt_cmpR op_lt (pv 2) pe_int (nomark _)) pe_int pe_int) pa_nil))))
      (pss_cons (ps_for PassesOwn.never rfl (pi_range1 rfl zr (pa_cons (pe_ifExp (pt_cmpR op_lt (pv 2) pe_int (nomark _)) pe_int pe_int) pa_nil)) (pg_name (i := 6) scRight.nd rfl (.inr rfl))
        (pss_cons (ps_setLc (i := 7) (own := [("_law_one", 8)]) (g := gName 8) (tt := ttD) (te := tVar 8) rfl scRight.nd rfl rfl (by rfl) (pi_list (pv 5)) (blkOk_by (own := [("_law_one", 8)]) (N := NR) (sc := defScope s_L_right) (by decide +kernel)) (fun _ _ _ _ _ => pg_name (i := 8) scRight.nd rfl (Or.inl rfl))
          (fun _ _ _ _ _ => by exact pts_one (PW.pt (pw_and (pt_cmpR op_le (pe_callB call_len_str rfl zn boot_len (pa_cons (pv 8) pa_nil)) (pv 6) (nomark _)) (pw_and1 (pt_val (pe_def DI R1 pass0 rfl (pa_cons (pv 8) (pa_cons (pv 3) pa_nil)))))))) (fun _ _ _ _ _ => pv 8))
        (pss_cons (ps_set (i := 9) scRight.nd rfl (.inl rfl) (pe_defG DS hgd hr pass0 rfl (pa_cons (pv 3) (pa_cons (pv 6) pa_nil))))
        (pss_cons (ps_if (PW.pt (pw_or (pt_cmpR (op_neD hu) (pv 9) (pv 7) (nomark _)) (pw_or1 (pt_not (pt_val (pe_callB call_isi rfl zI PyProof.Rows.boot_isinstance (pa_cons (pv 9) (pa_cons (pe_bltn (v := .ty "list") rfl zl PyProof.Rows.boot_list rfl) pa_nil)))))))) (pss_one (ps_ret pe_bl)) pss_nil)
        (pss_cons (ps_expr (pe_bm PySem.F.plainAttrs_list PySem.F.slot_list_append PySem.F.type_list_append mt_append (pv 9) (pa_cons pe_non pa_nil)))
        (pss_one (ps_if (pt_cmpR (op_neD hu) (pe_defG DS hgd hr pass0 rfl (pa_cons (pv 3) (pa_cons (pv 6) pa_nil))) (pv 7) (nomark _)) (pss_one (ps_ret pe_bl)) pss_nil)))))))
      (pss_cons (ps_for PassesOwn.never rfl (pi_tup (pe_tup (pa_cons (pe_un un_neg pe_int) (pa_cons pe_int (pa_cons pe_non (pa_cons pe_bl (pa_cons pe_str (pa_cons (pe_op op_pow pe_int pe_int) (pa_cons (pe_lst (pa_cons pe_int pa_nil)) pa_nil))))))))) (pg_name (i := 10) scRight.nd rfl (.inl rfl))
        (pss_one (ps_if (pt_cmpR (op_neD hu) (pe_defG DS hgd hr pass0 rfl (pa_cons (pv 3) (pa_cons (pv 10) pa_nil))) (pe_tup (pa_cons pe_str (pa_cons (pe_callB (call_reprD (by exact hgd) (by exact hu9)) rfl zR boot_repr (pa_cons (pv 10) pa_nil)) pa_nil))) (nomark _)) (pss_one (ps_ret pe_bl)) pss_nil)))
      (pss_cons (ps_for PassesOwn.never rfl (pi_tup (pe_tup (pa_cons pe_non (pa_cons pe_int (pa_cons (pe_lst (pa_cons pe_str pa_nil)) (pa_cons pe_str (pa_cons (pe_op op_add_str (pv 3) pe_str) (pa_cons pe_str (pa_cons (pe_op op_mul_str pe_str pe_int) (pa_cons (pe_op op_add_str (pv 3) pe_str) (pa_cons pe_bl (pa_cons (pe_tup (pa_cons pe_str pa_nil)) (pa_cons (pe_op op_add_str (pv 3) (pe_op op_mul_str pe_str pe_int)) pa_nil))))))))))))) (pg_name (i := 10) scRight.nd rfl (.inl rfl))
        (pss_one (ps_if (pt_cmpR (op_neD hu) (pe_defG DS hgd hr pass0 rfl (pa_cons (pv 10) (pa_cons (pe_def DP R2 pass0 rfl (pa_cons (pv 0) (pa_cons (pe_lst (pa_cons pe_int (pa_cons pe_int (pa_cons (pe_un un_neg pe_int) (pa_cons pe_non pa_nil))))) pa_nil))) pa_nil))) (pe_tup (pa_cons pe_str (pa_cons (pe_callB (call_reprD (by exact hgd) (by exact hu9)) rfl zR boot_repr (pa_cons (pv 10) pa_nil)) pa_nil))) (nomark _)) (pss_one (ps_ret pe_bl)) pss_nil)))
      (pss_one (ps_ret pe_bl))))))))), ?_⟩
    refine ⟨_, rfl, l, n, 4, rfl, src, by omega, by omega, by omega, fun x H1 x0 x1 b1 src1 => ?_⟩
    obtain ⟨x, rfl⟩ : ∃ x' : Nat, x = (x' : Nat) := ⟨x.toNat, by omega⟩
    refine ⟨1, _, rfl, rfl, ?_⟩
    refine ⟨_, rfl, (by show 9 ≤ sizeLine; decide), fun p np => ?_⟩
    have pl := src_ne src1 np
    refine ⟨l, p, n + 1, _, rfl, src_upd src1 pl, by omega, upd_same, pl, (fun z => nomatch z), (by decide), fun v H2 hv b2 src2 => ?_⟩
    obtain ⟨many, rfl, hm⟩ : ∃ m : Nat, v = .int (m : Nat) ∧ m ≤ 200 := by
      simp only [List.mem_cons, List.not_mem_nil, or_false] at hv
      rcases hv with rfl | rfl | rfl | rfl | rfl | rfl | rfl | rfl | rfl
      · exact ⟨0, rfl, by decide⟩
      · exact ⟨1, rfl, by decide⟩
      · exact ⟨2, rfl, by decide⟩
      · exact ⟨3, rfl, by decide⟩
      · exact ⟨5, rfl, by decide⟩
      · exact ⟨8, rfl, by decide⟩
      · exact ⟨13, rfl, by decide⟩
      · exact ⟨40, rfl, by decide⟩
      · exact ⟨200, rfl, by decide⟩
    have b3 : But l H H2 := But.trans (but_put b1 (.inl np) pl) b2
    clear b1 b2 src1
    refine ⟨⟨_, rfl⟩, _, rfl, (many : Nat), rfl, by omega, by omega, fun D nD => ?_⟩
    have Dl := src_ne src2 nD
    refine lc_range (lo := 0) (n := many) (fun i Hc => (∀ b o, b ≠ l → b ≠ D → H2 b = some o → Hc b = some o) ∧ Src Hc l (n + 2 + i) ∧ ∃ acc : List Nat, Hc D = some (.lst (acc.map fun c => V.str (tx [c]))) ∧ acc.length = i ∧ ∀ c ∈ acc, c ∈ Sub.abcd)
      ⟨fun b o _ nb e => by rw [upd_ne nb]; exact e, src_upd src2 Dl, [], upd_same, rfl, fun z hz => by cases hz⟩ (fun i Hc hi ⟨bc, sc, acc, hD, la, oa⟩ => ?_) (fun Hc ⟨bc, sc, acc, hD, la, oa⟩ => ?_)
    · refine ⟨rfl, yesT ?_⟩
      have ex : ((1 : Int) + (x : Nat)) = ((1 + x : Nat) : Int) := by omega
      refine ⟨_, rfl, _, rfl, (1 : Int) + (x : Nat), rfl, ("abcd" : Str), rfl, by decide, Sub.abcd.take (1 + x), by rw [ex, cutk _ (by omega)], by rw [List.length_take]; exact Nat.le_trans (Nat.min_le_right _ _) (by decide), fun p2 np2 => ?_⟩
      have p2l := src_ne sc np2
      refine ⟨l, p2, n + 2 + i, _, rfl, src_upd sc p2l, by omega, upd_same, p2l, ?_, ?_, fun v H' hv b' src' => ?_⟩
      · intro z
        have := congrArg List.length z
        rw [List.length_map, List.length_take] at this
        have e4 : Sub.abcd.length = 4 := rfl
        rw [e4, List.length_nil] at this
        omega
      · rw [List.length_map, List.length_take]
        exact Nat.le_trans (Nat.min_le_right _ _) (by decide)
      · obtain ⟨c, hc, rfl⟩ := List.mem_map.mp hv
        have hc' := List.mem_of_mem_take hc
        have np2D : D ≠ p2 := fun z => by rw [← z, hD] at np2; cases np2
        have hD' : H' D = some (.lst (acc.map fun c => V.str (tx [c]))) := b' _ _ Dl (by rw [upd_ne np2D]; exact hD)
        refine ⟨_, hD', by rw [List.length_map, la]; show i < 16777216; omega, fun b o nl nb e => ?_, src_upd src' Dl, acc ++ [c], by rw [upd_same]; simp, by simp [la], fun z hz => ?_⟩
        · have e1 := bc _ _ nl nb e
          rw [upd_ne nb]
          exact b' _ _ nl (by rw [upd_ne (ne_of_none e1 np2)]; exact e1)
        · rcases List.mem_append.mp hz with h | h
          · exact oa z h
          · rw [List.mem_singleton.mp h]
            exact hc'
    · -- the word
      have bD : But l H Hc := fun b o nl e => bc _ _ nl (ne_of_none (b3 _ _ nl e) nD) (b3 _ _ nl e)
      clear b3 nD bc src2
      have cw : ∀ c ∈ acc, c < 128 := fun c hc => (show ∀ c ∈ Sub.abcd, c < 128 by decide) c (oa c hc)
      have iw : isWd acc = true := by
        unfold isWd
        rw [decide_eq_true (by omega), Bool.true_and, List.all_eq_true]
        exact fun c hc => decide_eq_true (oa c hc)
      refine ⟨_, D, acc.map fun c => tx [c], rfl, rfl, .inl (by rw [List.map_map]; exact SqL.of hD), ?_, ?_⟩
      · rw [List.map_map, List.length_map, la]
        have : ((acc.map ((fun z : Str => z.length) ∘ fun c => tx [c])).sum) = acc.length := by
          clear cw iw oa la hD
          induction acc with
          | nil => rfl
          | cons c r ih => rw [List.map_cons, List.sum_cons, ih, List.length_cons]; show 1 + _ = _; omega
        show (acc.map _).sum + many * 0 ≤ _
        rw [this]
        omega
      rw [join_tx]
      generalize hn : n + 2 + many = n' at sc
      have n'1 : n' + 20 ≤ n + 300 := by omega
      clear hD Dl
      obtain ⟨most, emost⟩ : ∃ most : Nat, most = if many < 9 then 4 else 3 := ⟨_, rfl⟩
      have m4 : most ≤ 4 := by rw [emost]; split <;> decide
      refine ⟨_, rfl, many, 9, rfl, rfl, _, rfl, if_tC ⟨most, ?_, m4, fun ps H3 nps s3 hps => ?_⟩⟩
      · by_cases h9 : many < 9
        · rw [decide_eq_true (by omega), if_pos rfl, emost, if_pos h9]
          rfl
        · rw [decide_eq_false (by omega), if_neg (by decide), emost, if_neg h9]
          rfl
      have psl : ps ≠ l := src_ne sc nps
      have sc3 := sc.same s3
      have b4 := But.trans bD (But.of s3)
      refine ⟨_, rfl, many, 9, rfl, rfl, _, rfl, if_tC ⟨((most + 1 : Nat) : Int), ?_, by omega, by omega, ?_⟩⟩
      · by_cases h9 : many < 9
        · rw [decide_eq_true (by omega), if_pos rfl, emost, if_pos h9]
          rfl
        · rw [decide_eq_false (by omega), if_neg (by decide), emost, if_neg h9]
          rfl
      clear sc bD s3 nps
      refine for_range (lo := 0) (n := most + 1) (fun i σ Hi => ∃ v6 v7 v9 : Option V, σ = [some (.ref l), some (.int (1 + (x : Nat))), some (.int (many : Nat)), some (.str (tx acc)), none, some (.ref ps), v6, v7, none, v9, none] ∧ But l H Hi ∧ Src Hi l n' ∧ Hi ps = some (.lst ((Sub.upTo most).map sv)))
        ⟨none, none, none, rfl, b4, sc3, hps⟩ (fun i σ Hi hi ⟨v6, v7, v9, eσ, bi, si, pi⟩ => ?_) (fun σ Hi ⟨v6, v7, v9, eσ, bi, si, pi⟩ => ?_)
      · subst eσ
        have ei : ((0 : Int) + (i : Nat)) = (i : Nat) := by omega
        rw [ei]
        have lm := upTo_len most m4
        refine ⟨_, rfl, ps, rfl, ⟨_, SqL.of pi⟩, fun D nD => ?_⟩
        have Dl := src_ne si nD
        have nps : ps ≠ D := fun z => by rw [z, nD] at pi; cases pi
        refine lc_list (K := K) (a := ps) (xs := (Sub.upTo most).map sv) (fun j Hd => But D Hi Hd ∧ Hd D = some (.lst ((((Sub.upTo most).take j).filter fun w => decide (w.length ≤ i) && Sub.isSub acc w).map sv))) ⟨But.upd, upd_same⟩ (fun j Hd _ ⟨bd, _⟩ => SqL.of (bd _ _ nps pi)) (fun j z Hd hz ⟨bd, hD⟩ => ?_) (fun Hd ⟨bd, hD⟩ => ?_)
        · obtain ⟨w', hw, rfl⟩ := map_get hz
          have wl : w'.length ≤ 4 := by
            have g : ∀ n ≤ 4, ∀ w ∈ Sub.upTo n, w.length ≤ 4 := by decide +kernel
            exact g most m4 w' (List.mem_of_getElem? hw)
          have fl : ∀ (k : Nat) (l : List (List Nat)) (f : List Nat → Bool), l.length ≤ k → (l.filter f).length ≤ k := fun k l f h => Nat.le_trans (List.length_filter_le _ _) h
          have tl : ((Sub.upTo most).take j).length ≤ 341 := by rw [List.length_take]; exact Nat.le_trans (Nat.min_le_right _ _) lm
          have put : ∀ b : Bool, (decide (w'.length ≤ i) && Sub.isSub acc w') = b → (if b = true then (Hd D = some (.lst ((((Sub.upTo most).take j).filter fun w => decide (w.length ≤ i) && Sub.isSub acc w).map sv)) ∧ ((((Sub.upTo most).take j).filter fun w => decide (w.length ≤ i) && Sub.isSub acc w).map sv).length < sizeLine ∧ But D Hi (L2.upd Hd D (.lst (((((Sub.upTo most).take j).filter fun w => decide (w.length ≤ i) && Sub.isSub acc w).map sv) ++ [sv w']))) ∧ L2.upd Hd D (.lst (((((Sub.upTo most).take j).filter fun w => decide (w.length ≤ i) && Sub.isSub acc w).map sv) ++ [sv w'])) D = some (.lst ((((Sub.upTo most).take (j + 1)).filter fun w => decide (w.length ≤ i) && Sub.isSub acc w).map sv))) else (But D Hi Hd ∧ Hd D = some (.lst ((((Sub.upTo most).take (j + 1)).filter fun w => decide (w.length ≤ i) && Sub.isSub acc w).map sv)))) := by
            intro b hb
            rw [take_snoc hw, List.filter_append, List.filter_cons, List.filter_nil, hb]
            cases b with
            | true =>
              rw [if_pos rfl, if_pos rfl]
              refine ⟨hD, ?_, But.trans bd But.upd, ?_⟩
              · rw [List.length_map]
                have := fl 341 _ (fun w => decide (w.length ≤ i) && Sub.isSub acc w) tl
                show _ < 16777216
                omega
              · rw [upd_same, List.map_append]
                rfl
            | false =>
              rw [if_neg (by decide), if_neg (by decide), List.append_nil]
              exact ⟨bd, hD⟩
          refine ⟨rfl, _, rfl, tx w', rfl, by rw [tx_len]; show w'.length ≤ 16777216; omega, _, rfl, _, _, rfl, rfl, _, rfl, ?_⟩
          rw [tx_len]
          by_cases hl : w'.length ≤ i
          · rw [decide_eq_true (show ((w'.length : Nat) : Int) ≤ ((i : Nat) : Int) by omega)]
            refine ifT rfl ⟨_, rfl, _, rfl, w', acc, rfl, by omega, by omega, _, rfl, ?_⟩
            rw [Sub.got_end]
            have pb := put _ rfl
            rw [decide_eq_true hl, Bool.true_and] at pb
            cases hs : Sub.isSub acc w' with
            | true =>
              have hs' : (Sub.endFrom acc w' 0).isSome = true := hs
              rw [hs']
              rw [hs, if_pos rfl] at pb
              exact ifT rfl ⟨_, rfl, _, pb.1, pb.2.1, pb.2.2.1, pb.2.2.2⟩
            | false =>
              have hs' : (Sub.endFrom acc w' 0).isSome = false := hs
              rw [hs']
              rw [hs, if_neg (by decide)] at pb
              exact ifF rfl pb
          · rw [decide_eq_false (show ¬ ((w'.length : Nat) : Int) ≤ ((i : Nat) : Int) by omega)]
            have pb := put false (by rw [decide_eq_false hl]; rfl)
            rw [if_neg (by decide)] at pb
            exact ifF rfl (ifF rfl pb)
        · rw [List.length_map, List.take_length, Sub.due_eq acc i most (by omega)] at hD
          have bD : But l H Hd := fun b o nl e => by
            have e1 := bi b o nl e
            exact bd b o (ne_of_none e1 nD) e1
          have sD : Src Hd l n' := by
            obtain ⟨a, b, c, e, r⟩ := si
            exact ⟨a, b, c, bd _ _ Dl.symm e, r⟩
          have pD := bd _ _ nps pi
          have numI : NumK K Hd (.int (i : Nat)) (some ((i : Nat) : Int)) := .int _
          refine ⟨_, rfl, _, rfl, _, _, some (tx acc), some ((i : Nat) : Int), rfl, .str _, (fun z e => by cases e; rw [tx_len]; omega), .int _, .inl ⟨acc, i, rfl, iw, rfl, by omega, fun p H5 np5 s5 hp5 => ?_⟩⟩
          have hD5 := s5 _ _ hD
          have sh := strs_sh (sigs_abcd (cs := acc) (k := i))
          refine ⟨_, rfl, _, rfl, _, _, .lst (SqL.of hp5) strs_dp, .lst (SqL.of hD5) strs_dp, sh, sh, _, rfl, ?_⟩
          refine ifF (eqv_same sh) ?_
          refine ⟨_, rfl, _, .ty "list", .type "list", .type "list", true, rfl, .ty _, .base (.lst hp5), kit_ty (show kitB "list" "list" = some true by decide +kernel), _, rfl, ?_⟩
          refine ifF rfl ?_
          have pl5 := src_ne sD np5
          have pps : ps ≠ p := fun z => by rw [z, np5] at pD; cases pD
          have pD5 : D ≠ p := fun z => by rw [z, np5] at hD; cases hD
          have ll : (Sub.sigs acc i).length ≤ 341 := by
            rw [← Sub.due_eq acc i most (by omega)]
            exact Nat.le_trans (List.length_filter_le _ _) lm
          refine ⟨_, rfl, .inl ⟨rfl, _, SqL.of hp5⟩, p, _, _, rfl, rfl, hp5, by rw [List.length_map]; show _ < 16777216; omega, ?_⟩
          have b6 : But l H (L2.upd H5 p (.lst ((Sub.sigs acc i).map sv ++ [.non]))) := fun b o nl e => by
            have e1 := bD b o nl e
            rw [upd_ne (ne_of_none e1 np5)]
            exact s5 _ _ e1
          have s6 : Src (L2.upd H5 p (.lst ((Sub.sigs acc i).map sv ++ [.non]))) l n' := src_upd (sD.same s5) pl5
          have h6 : L2.upd H5 p (.lst ((Sub.sigs acc i).map sv ++ [.non])) D = some (.lst ((Sub.sigs acc i).map sv)) := by rw [upd_ne pD5]; exact hD5
          have p6 : L2.upd H5 p (.lst ((Sub.sigs acc i).map sv ++ [.non])) ps = some (.lst ((Sub.upTo most).map sv)) := by rw [upd_ne pps]; exact s5 _ _ pD
          generalize L2.upd H5 p (.lst ((Sub.sigs acc i).map sv ++ [.non])) = H6 at b6 s6 h6 p6 ⊢
          refine ⟨_, rfl, _, rfl, _, _, some (tx acc), some ((i : Nat) : Int), rfl, .str _, (fun z e => by cases e; rw [tx_len]; omega), .int _, .inl ⟨acc, i, rfl, iw, rfl, by omega, fun p2 H7 np7 s7 hp7 => ?_⟩⟩
          refine ⟨_, rfl, _, _, .lst (SqL.of hp7) strs_dp, .lst (SqL.of (s7 _ _ h6)) strs_dp, sh, sh, _, rfl, ?_⟩
          refine ifF (eqv_same sh) ?_
          exact ⟨_, _, _, rfl, But.trans b6 (But.of s7), s6.same s7, s7 _ _ p6⟩
      · subst eσ
        have ok1 : okWd (some (tx acc)) = true := iw
        have len1 : ∀ z, some (tx acc) = some z → z.length ≤ 1000 := fun z e => by cases e; rw [tx_len]; omega
        refine ⟨1, rfl, 10, 20, rfl, rfl, ⟨by decide, by decide, by decide⟩, (by show 1 ≤ sizeLine; decide), fun a na => ⟨(by show 7 ≤ sizeLine; decide), fun tt ntt => ⟨tt, rfl, ⟨_, SqT.of upd_same⟩, ?_⟩⟩⟩
        have al := src_ne si na
        have s1 := src_upd (o := .lst [.int 2]) si al
        have tl := src_ne s1 ntt
        have s2 := src_upd (o := .tup [(fun i : Int => V.int (-i)) 1, .int 5, .non, .bl true, .str ("1" : Str), (fun i j : Int => V.int (i ^ j.toNat)) 10 20, .ref a]) s1 tl
        have b2 : But l H _ := but_put (o := .tup [(fun i : Int => V.int (-i)) 1, .int 5, .non, .bl true, .str ("1" : Str), (fun i j : Int => V.int (i ^ j.toNat)) 10 20, .ref a]) (but_put (o := .lst [.int 2]) bi (.inl na) al) (.inl ntt) tl
        have at1 : a ≠ tt := fun z => by rw [← z, upd_same] at ntt; cases ntt
        have ha : L2.upd (L2.upd Hi a (.lst [.int 2])) tt (.tup [(fun i : Int => V.int (-i)) 1, .int 5, .non, .bl true, .str ("1" : Str), (fun i j : Int => V.int (i ^ j.toNat)) 10 20, .ref a]) a = some (.lst [.int 2]) := by rw [upd_ne at1]; exact upd_same
        have ht : L2.upd (L2.upd Hi a (.lst [.int 2])) tt (.tup [(fun i : Int => V.int (-i)) 1, .int 5, .non, .bl true, .str ("1" : Str), (fun i j : Int => V.int (i ^ j.toNat)) 10 20, .ref a]) tt = some (.tup [(fun i : Int => V.int (-i)) 1, .int 5, .non, .bl true, .str ("1" : Str), (fun i j : Int => V.int (i ^ j.toNat)) 10 20, .ref a]) := upd_same
        generalize L2.upd (L2.upd Hi a (.lst [.int 2])) tt (.tup [(fun i : Int => V.int (-i)) 1, .int 5, .non, .bl true, .str ("1" : Str), (fun i j : Int => V.int (i ^ j.toNat)) 10 20, .ref a]) = H1 at s2 b2 ha ht ⊢
        replace ht : H1 tt = some (.tup [V.int (-1), .int 5, .non, .bl true, .str ("1" : Str), .int (10 ^ (20 : Int).toNat), .ref a]) := ht
        refine for_it (walk_tup (K := K) (a := tt) (xs := [V.int (-1), .int 5, .non, .bl true, .str ("1" : Str), .int (10 ^ (20 : Int).toNat), .ref a])) (fun i σ Hi => ∃ v10 : Option V, σ = [some (.ref l), some (.int (1 + (x : Nat))), some (.int (many : Nat)), some (.str (tx acc)), none, some (.ref ps), v6, v7, none, v9, v10] ∧ But l H Hi ∧ Src Hi l n' ∧ Same H1 Hi)
          ⟨none, rfl, b2, s2, L2.Same.refl _⟩ (fun i σ Hi _ ⟨_, _, _, _, e⟩ => SqT.of (e _ _ ht)) ?_ ?_
        · rintro i y σ Hj H' hi ⟨v10, rfl, bj, sj, ej⟩ ⟨rfl, hy⟩
          obtain ⟨ol, d, nk, bl, rp⟩ := odd1 (K := K) (ej _ _ ha) y (List.mem_of_getElem? hy)
          refine ⟨_, rfl, _, rfl, _, _, some (tx acc), ol, rfl, .str _, len1, nk, .inr (.inr ⟨ok1, bl, d, rp, fun t1 H7 nt1 s7 h7 => ?_⟩)⟩
          refine ⟨_, rfl, _, d, rfl, (rp.same s7).dp, rp.sh, rp.nd, rp.de, rp.le, (by show 2 ≤ sizeLine; decide), fun t2 nt2 => ?_⟩
          have sh := pair_shaped (show PyData.strOk "length" = true by decide +kernel) rp.ok
          refine ⟨_, _, dp_pair (same_upd nt2 _ _ h7), dp_pair upd_same, sh, sh, _, rfl, ?_⟩
          refine ifF (eqv_same sh) ?_
          have s8 := s7.trans (same_upd (o := .tup [.str "length", .str d.shown]) nt2)
          exact ⟨_, rfl, But.trans bj (But.of s8), sj.same s8, ej.trans s8⟩
        · rintro σ Hj ⟨v10, rfl, bj, sj, ej⟩
          clear ej ha ht b2 s2 at1 tl s1 al ntt na
          have ea : V.str ("a" : Str) = V.str (tx [97]) := congrArg V.str (show ("a" : Str) = tx [97] by decide +kernel)
          have fit : ∀ z : Str, z.length ≤ 201 → (tx acc).length + z.length ≤ sizeLine := fun z hz => by rw [tx_len]; show _ ≤ 16777216; omega
          have la : aaa.length = 201 := by decide +kernel
          refine ⟨(by show 1 ≤ sizeLine; decide), fun a na => ⟨_, rfl, tx acc, ("e" : Str), rfl, rfl, fit _ (by decide), [97], 201, ea, rfl, by decide, by decide, by decide, by decide, _, rfl, tx acc, (" " : Str), rfl, rfl, fit _ (by decide), (by show 1 ≤ sizeLine; decide), fun t1 nt1 =>
            ⟨_, rfl, [97], 201, ea, rfl, by decide, by decide, by decide, by decide, tx acc, tx aaa, rfl, rfl, fit _ (by rw [tx_len, la]; decide), (by show 11 ≤ sizeLine; decide), fun tt ntt => ⟨tt, rfl, ⟨_, SqT.of upd_same⟩, ?_⟩⟩⟩⟩
          have al := src_ne sj na
          have s1 := src_upd (o := .lst [.str ("a" : Str)]) sj al
          have t1l := src_ne s1 nt1
          have s2 := src_upd (o := .tup [.str ("a" : Str)]) s1 t1l
          have ttl := src_ne s2 ntt
          have s3 := src_upd (o := .tup [V.non, .int 5, .ref a, .str ("e" : Str), .str (tx acc ++ ("e" : Str)), .str ("A" : Str), .str (tx aaa), .str (tx acc ++ (" " : Str)), .bl true, .ref t1, .str (tx acc ++ tx aaa)]) s2 ttl
          have b3 : But l H _ := but_put (o := .tup [V.non, .int 5, .ref a, .str ("e" : Str), .str (tx acc ++ ("e" : Str)), .str ("A" : Str), .str (tx aaa), .str (tx acc ++ (" " : Str)), .bl true, .ref t1, .str (tx acc ++ tx aaa)]) (but_put (o := .tup [.str ("a" : Str)]) (but_put (o := .lst [.str ("a" : Str)]) bj (.inl na) al) (.inl nt1) t1l) (.inl ntt) ttl
          have e1 := same_upd (o := .tup [.str ("a" : Str)]) nt1
          have e2 := same_upd (o := .tup [V.non, .int 5, .ref a, .str ("e" : Str), .str (tx acc ++ ("e" : Str)), .str ("A" : Str), .str (tx aaa), .str (tx acc ++ (" " : Str)), .bl true, .ref t1, .str (tx acc ++ tx aaa)]) ntt
          have ha := e2 _ _ (e1 _ _ upd_same)
          have ht1 := e2 _ _ (show L2.upd (L2.upd Hj a (.lst [.str ("a" : Str)])) t1 (.tup [.str ("a" : Str)]) t1 = some (.tup [.str ("a" : Str)]) from upd_same)
          have ht : L2.upd (L2.upd (L2.upd Hj a (.lst [.str ("a" : Str)])) t1 (.tup [.str ("a" : Str)])) tt (.tup [V.non, .int 5, .ref a, .str ("e" : Str), .str (tx acc ++ ("e" : Str)), .str ("A" : Str), .str (tx aaa), .str (tx acc ++ (" " : Str)), .bl true, .ref t1, .str (tx acc ++ tx aaa)]) tt = some (.tup [V.non, .int 5, .ref a, .str ("e" : Str), .str (tx acc ++ ("e" : Str)), .str ("A" : Str), .str (tx aaa), .str (tx acc ++ (" " : Str)), .bl true, .ref t1, .str (tx acc ++ tx aaa)]) := upd_same
          generalize L2.upd (L2.upd (L2.upd Hj a (.lst [.str ("a" : Str)])) t1 (.tup [.str ("a" : Str)])) tt (.tup [V.non, .int 5, .ref a, .str ("e" : Str), .str (tx acc ++ ("e" : Str)), .str ("A" : Str), .str (tx aaa), .str (tx acc ++ (" " : Str)), .bl true, .ref t1, .str (tx acc ++ tx aaa)]) = H1 at s3 b3 ha ht1 ht ⊢
          clear e1 e2 s1 s2 na nt1 ntt sj bj
          refine for_it (walk_tup (K := K) (a := tt) (xs := [V.non, .int 5, .ref a, .str ("e" : Str), .str (tx acc ++ ("e" : Str)), .str ("A" : Str), .str (tx aaa), .str (tx acc ++ (" " : Str)), .bl true, .ref t1, .str (tx acc ++ tx aaa)])) (fun i σ Hi => ∃ v10 : Option V, σ = [some (.ref l), some (.int (1 + (x : Nat))), some (.int (many : Nat)), some (.str (tx acc)), none, some (.ref ps), v6, v7, none, v9, v10] ∧ But l H Hi ∧ Src Hi l (n' + i) ∧ But l H1 Hi)
            ⟨v10, rfl, b3, s3, fun b o _ e => e⟩ (fun i σ Hi _ ⟨_, _, _, _, e⟩ => SqT.of (e _ _ ttl ht)) ?_ ?_
          · rintro i y σ Hk H' hi ⟨v10, rfl, bk, sk, ek⟩ ⟨rfl, hy⟩
            have hi11 : i < 11 := hi
            refine ⟨_, rfl, _, rfl, 1, rfl, (by show 4 ≤ sizeLine; decide), fun p np => ?_⟩
            have pl := src_ne sk np
            refine ⟨l, p, n' + i, _, rfl, src_upd sk pl, by omega, upd_same, pl, (fun z => nomatch z), (by decide), fun v H2 hv b2 src2 => ?_⟩
            have c2 : But l H' H2 := fun b o nl e => b2 _ _ nl (by rw [upd_ne (ne_of_none e np)]; exact e)
            have k2 := But.trans ek c2
            obtain ⟨o, d, tk, bad, lz, rp⟩ := odd2 (K := K) (k2 _ _ al ha) (k2 _ _ t1l ht1) cw (show acc.length ≤ 200 by omega) y (List.mem_of_getElem? hy)
            obtain ⟨ol, nk⟩ := num2 (K := K) (H := H2) v hv
            refine ⟨_, _, o, ol, rfl, tk, lz, nk, .inr (.inl ⟨bad, d, rp, fun t5 H7 nt5 s7 h7 => ?_⟩)⟩
            refine ⟨_, rfl, _, d, rfl, (rp.same s7).dp, rp.sh, rp.nd, rp.de, rp.le, (by show 2 ≤ sizeLine; decide), fun t6 nt6 => ?_⟩
            have sh := pair_shaped (show PyData.strOk "word" = true by decide +kernel) rp.ok
            refine ⟨_, _, dp_pair (same_upd nt6 _ _ h7), dp_pair upd_same, sh, sh, _, rfl, ?_⟩
            refine ifF (eqv_same sh) ?_
            have s8 := s7.trans (same_upd (o := .tup [.str "word", .str d.shown]) nt6)
            exact ⟨_, rfl, But.trans (But.trans bk c2) (But.of s8), src2.same s8, But.trans k2 (But.of s8)⟩
          · rintro σ Hk ⟨v10, rfl, bk, sk, ek⟩
            exact fin _ bk (sk.up (by show n' + 11 ≤ n + 300; omega))
end
end K78

set_option Elab.async false
set_option linter.all false
set_option maxRecDepth 100000
set_option maxHeartbeats 8000000
namespace K78
open PySem PySem.Spec PyProof.Rows L2 Lf
def spLaw (K : PySem.W.Frag) : Sp := fun vs H Q _ => ∃ (a : Addr) (ns : List Int), vs = [.ref a] ∧ SqL K H a (ns.map V.int) ∧ ns.length ≤ 63 ∧ ∀ H', Q (.bl true) H'
section
variable {P : Program} {w : World} {K : PySem.W.Frag} {mg : Str → Option Value} {base : Heap}
theorem scLaw : FnScope ["_law_script", "_law_cell", "_law_source_here", "_law_turn"] ["_law_script"] (defScope s_law) := ⟨rfl, rfl, rfl, by decide +kernel, rfl, by decide +kernel, by decide +kernel⟩
theorem ok_law {f : Addr} {fd : FuncData} {q : Str} (F : FunD K "law" q (defArgs s_law) (defBody s_law) (defScope s_law) [] [] f fd) (T : Txt P w K mg base)
    (DS : Def P w K mg base CX0 1 "_law_source" ["_law_cell"] spSource) (DR : DefG P w K mg base CX0 5 "_law_right" ["_law_source_here"] spRight) :
    FnG P w K mg base CX0 6 f fd ["_law_script"] (spLaw K) := by
  have zr : mg "range" = none := T.fr 30 "range" rfl
  refine okG F scLaw (fun vs H Q E h => ?_) (fun cdv A outer s H vs Q E hgd hr h => ?_)
  · obtain ⟨a, ns, rfl, _⟩ := h
    rfl
  · obtain ⟨a, ns, rfl, hS, hlen, fin⟩ := h
    have R1 : Room 1 _ := hr.mono (by decide)
    refine ⟨_, PSs.nox (pss_cons (ps_for PassesOwn.never rfl (pi_list (pe_slice sl_list (pe_op op_catL (pv 0) (pe_lst (pa_cons pe_int pa_nil))) po_none (po_some pe_int))) (pg_name (i := 1) scLaw.nd rfl (.inl rfl))
        (pss_cons (ps_set (i := 2) scLaw.nd rfl (.inl rfl) (pe_def DS R1 pass0 rfl (pa_cons (pv 1) pa_nil)))
        (pss_one (ps_for PassesOwn.never rfl (pi_range1 rfl zr (pa_cons pe_int pa_nil)) (pg_name (i := 3) scLaw.nd rfl (.inl rfl))
          (pss_one (ps_if (pt_not (pt_val (pe_defG DR hgd hr pass0 rfl (pa_cons (pv 2) pa_nil)))) (pss_one (ps_ret pe_bl)) pss_nil))))))
      (pss_one (ps_ret pe_bl))), ?_⟩
    refine ⟨_, rfl, (by show 1 ≤ sizeLine; decide), fun z hz => ⟨a, z, _, _, rfl, rfl, L2.Same.seq (same_upd hz) hS, SqL.of upd_same, ?_, fun l0 h0 => ?_⟩⟩
    · rw [List.length_map]
      show ns.length + 1 ≤ 16777216
      omega
    refine ⟨4, rfl, l0, _, rfl, SqL.of upd_same, fun l1 h1 => ⟨l1, rfl, ⟨_, SqL.of upd_same⟩, ?_⟩⟩
    generalize hHs : L2.upd (L2.upd (L2.upd H z _) l0 _) l1 _ = Hs
    have at1 : Hs l1 = some (.lst (cutV (ns.map V.int ++ [.int 0]) none (some 4))) := by rw [← hHs]; exact upd_same
    clear hHs
    refine for_list (K := K) (a := l1) (xs := cutV (ns.map V.int ++ [.int 0]) none (some 4)) (fun i σ H' => ∃ v1 v2 v3 : Option V, σ = [some (.ref a), v1, v2, v3] ∧ Same Hs H')
      ⟨none, none, none, rfl, L2.Same.refl _⟩ (fun i σ H' _ ⟨_, _, _, _, e⟩ => SqL.of (e _ _ at1)) ?_ (fun σ H' _ => ?_)
    · rintro i y σ H1 hi ⟨v1, v2, v3, rfl, e1⟩
      obtain ⟨n, rfl⟩ : ∃ n, y = V.int n := by
        have hm := List.mem_of_getElem? hi
        have hm2 := List.mem_of_mem_drop (List.mem_of_mem_take hm)
        rcases List.mem_append.mp hm2 with q | q
        · obtain ⟨n, _, e⟩ := List.mem_map.mp q
          exact ⟨n, e.symm⟩
        · exact ⟨0, List.mem_singleton.mp q⟩
      refine ⟨_, rfl, n, rfl, fun l H2 nl s2 src2 => ?_⟩
      have e2 : Same Hs H2 := e1.trans s2
      have off : ∀ b o, Hs b = some o → b ≠ l := fun b o h => ne_of_none (e1 _ _ h) nl
      refine ⟨3, rfl, by decide, by decide, ?_⟩
      refine for_range (lo := 0) (n := 3) (fun j σ H' => ∃ v3 : Option V, σ = [some (.ref a), some (.int n), some (.ref l), v3] ∧ Same Hs H' ∧ Src H' l (300 * j)) ⟨v3, rfl, e2, src2⟩ (fun j σ H3 hj ⟨v3, eσ, e3, src3⟩ => ?_) (fun σ H3 ⟨v3, eσ, e3, src3⟩ => ?_)
      · subst eσ
        refine ⟨_, rfl, l, 300 * j, rfl, src3, by omega, fun H5 b5 src5 => ?_⟩
        refine ⟨_, rfl, ifF rfl ⟨_, rfl, fun b o e => b5 _ _ (off b o e) (e3 _ _ e), src5.up (by omega)⟩⟩
      · subst eσ
        exact ⟨_, _, _, rfl, e3⟩
    · exact fin _
end
end K78

set_option Elab.async false
set_option linter.all false
set_option maxRecDepth 100000
set_option maxHeartbeats 4000000
/-! A head by three kernel runs: the looks, the view, the facts; the facts over the objects at the addresses as. -/
namespace Lf
open PySem PySem.W PySem.Calls PyProof.Rows
/-- classes, dicts, functions and the rest, in this order -/
def isCl : Obj → Bool
  | ⟨_, _, .cls _, _⟩ => true
  | _ => false
def isDi : Obj → Bool
  | ⟨_, _, .dict _ _, _⟩ => true
  | _ => false
def isFu : Obj → Bool
  | ⟨_, _, .func _, _⟩ => true
  | _ => false
def isFi : Obj → Bool
  | ⟨_, _, .fields vs, _⟩ => !vs.isEmpty
  | _ => false
/-- tuples: the defaults of defs -/
def isTu : Obj → Bool
  | ⟨.type "tuple", _, .seq _ _, _⟩ => true
  | _ => false
def sorted4 (l : Frag) : Frag := l.filter (fun q => isCl q.2) ++ (l.filter (fun q => isDi q.2) ++ (l.filter (fun q => isFu q.2) ++ (l.filter (fun q => isFi q.2) ++ l.filter fun q => isTu q.2)))
theorem sorted4_sub {l : Frag} {q : Addr × Obj} (h : q ∈ sorted4 l) : q ∈ l := by
  unfold sorted4 at h
  simp only [List.mem_append, List.mem_filter] at h
  rcases h with h | h | h | h | h <;> exact h.1
def frR (g : Addr → Option Obj) (as : List Addr) : Frag := sorted4 (He.frG g as)
theorem frR_in {as : List Addr} {h : Heap} : (frR h.get? as).In h := fun _ _ e => He.frG_mem (sorted4_sub (He.lookup_mem e))
theorem frR_none {g : Addr → Option Obj} {as : List Addr} {a : Addr} {o : Obj} (h : g a = some o) (ht : He.emptyTab o = true) : (frR g as).lookup a = none := by
  cases e : (frR g as).lookup a with
  | none => rfl
  | some u =>
    have m := He.lookup_mem e
    have z := He.frG_mem (sorted4_sub m)
    rw [h] at z
    obtain rfl := Option.some.inj z
    rw [He.emptyTab_eq ht] at m
    unfold frR sorted4 at m
    simp only [List.mem_append, List.mem_filter] at m
    rcases m with m | m | m | m | m <;> exact absurd m.2 (by decide)
/-- what is told: the facts, the Bool, the defs' code tables: empty, not among the objects looked at -/
structure SaysR (fa : List He.Fa) (fn : List He.DefD) (tf : List He.Defn) (ex : Frag → Bool) (h : Heap) (K : Frag) : Prop where
  d : He.SaysD fa fn K
  m : ex K = true
  hd : ∀ p ∈ tf, codeHdIn K (He.cT K p).1 (He.cT K p).2 = true
  out : ∀ p ∈ tf, K.lookup (He.cT K p).2 = none
  empty : ∀ p ∈ tf, h.get? (He.cT K p).2 = some { cls := .none, data := .fields #[] }
def obsR (as : List Addr) (fa : List He.Fa) (fn : List He.DefD) (tf : List He.Defn) (ex : Frag → Bool) (g : Addr → Option Obj) : He.AlD × Bool :=
  (He.obsD fa fn (frR g as), ex (frR g as) && He.tabsB g tf (frR g as))
theorem saysR_of {as : List Addr} {fa : List He.Fa} {fn : List He.DefD} {tf : List He.Defn} {ex : Frag → Bool} {h : Heap} (e : obsR as fa fn tf ex h.get? = (He.valD fn, true)) : SaysR fa fn tf ex h (frR h.get? as) := by
  obtain ⟨h1, h2⟩ := He.ba (show (ex (frR h.get? as) && He.tabsB h.get? tf (frR h.get? as)) = true from congrArg Prod.snd e)
  have key : ∀ p ∈ tf, codeHdIn (frR h.get? as) (He.cT (frR h.get? as) p).1 (He.cT (frR h.get? as) p).2 = true ∧ ∃ o, h.get? (He.cT (frR h.get? as) p).2 = some o ∧ He.emptyTab o = true := fun p hp => by
    obtain ⟨k1, k2⟩ := He.ba (List.all_eq_true.mp h2 p hp)
    refine ⟨k1, ?_⟩
    cases q : h.get? (He.cT (frR h.get? as) p).2 with
    | none => rw [q] at k2; cases k2
    | some o => rw [q] at k2; exact ⟨o, rfl, k2⟩
  refine ⟨congrArg Prod.fst e, h1, fun p hp => (key p hp).1, fun p hp => ?_, fun p hp => ?_⟩
  · obtain ⟨_, o, q, z⟩ := key p hp
    exact frR_none q z
  · obtain ⟨_, o, q, z⟩ := key p hp
    rw [q, He.emptyTab_eq z]
def hookR (as : List Addr) (fa : List He.Fa) (fn : List He.DefD) (tf : List He.Defn) (ex : Frag → Bool) : Hook where
  α := He.AlD × Bool
  obs := fun s => obsR as fa fn tf ex s.heap.get?
  val := fun _ => (He.valD fn, true)
  says := fun _ h => ∃ K : Frag, K.In h ∧ SaysR fa fn tf ex h K
  of := fun _ _ e => ⟨_, frR_in, saysR_of e⟩
  keeps := fun _ _ _ ⟨K, hK, c⟩ k => ⟨K, Frag.In.keeps hK k, ⟨c.d, c.m, c.hd, c.out, fun p hp => k _ _ (c.empty p hp)⟩⟩
theorem obsR_eq {as : List Addr} {fa : List He.Fa} {fn : List He.DefD} {tf : List He.Defn} {ex : Frag → Bool} {g : Addr → Option Obj} {s : Shared} (h : ∀ a, g a = s.heap.get? a) : obsR as fa fn tf ex g = (hookR as fa fn tf ex).obs s := by
  have e : g = s.heap.get? := funext h
  rw [e] <;> rfl
theorem three {α A B C : Type} {o : Option α} {f : α → A} {g : α → B} {h : α → C} {a : A} {b : B} {c : C} (x : o.map f = some a) (y : o.map g = some b) (z : o.map h = some c) : o.map (fun s => (f s, g s, h s)) = some (a, b, c) := by
  cases o with
  | none => cases x
  | some s =>
    have x1 : f s = a := Option.some.inj x
    have y1 : g s = b := Option.some.inj y
    have z1 : h s = c := Option.some.inj z
    show some (f s, g s, h s) = _
    rw [x1, y1, z1]
/-- the state behind the top -/
noncomputable def endOf (r : OpenRow) (M : Nat) (w : World) (os : OsState) : Option SharedT := HandSHeadRun.endF (HandSHeadRun.stepQ (HandSHeadRun.denQ HandSHeadRun.tabQ) r.prog w) M r.prog w os
noncomputable def looksOf (r : OpenRow) (w : World) (s : SharedT) : Bool := HandSHeadRun.looksF r.prog (boot_heap w.params) s.abs
noncomputable def viewOf (r : OpenRow) (q : Program) (loose : List PySem.Str) (s : SharedT) := HandSHeadRun.seenQ q loose (importedModules r.prog.main.body) (fun s => xlAt q [] s && recOk r.toRowW.records s) s.abs
theorem run_three {r : OpenRow} {q : Program} {H : Hook} {ob : SharedT → H.α} {M : Nat} {loose : List PySem.Str} {w : World} (a : ∀ os, (endOf r M w os).map (looksOf r w) = some true)
    (b : ∀ os, (endOf r M w os).map (viewOf r q loose) = some (openGood q loose)) (c : ∀ os, (endOf r M w os).map ob = some (H.val w)) : HandSHeadRun.RunEq r q H ob M loose w := fun os => three (a os) (b os) (c os)
end Lf

set_option Elab.async false
set_option linter.all false
set_option maxRecDepth 100000
set_option maxHeartbeats 0
namespace K78
open PySem PySem.Spec PyProof.Rows L2
abbrev R : PySem.W.OpenRow := PySem.W.OpenLaw.row PySem.Challenge.rw_letterfolds_k78_signatures_of_words
abbrev vw : Program := PySem.W.view R.prog [25]
def as : List Addr := List.range 1600
abbrev hk : PySem.W.Hook := Lf.hookR as fa fn tf ex
def ob (s : PySem.W.SharedT) : He.AlD × Bool := Lf.obsR as fa fn tf ex (HandSHeadRun.getT s)
theorem ob_eq (s : PySem.W.SharedT) : ob s = hk.obs s.abs := Lf.obsR_eq (HandSHeadRun.getT_eq s)
theorem runA (w : World) (os : OsState) : (Lf.endOf R 20000 w os).map (Lf.looksOf R w) = some true := by kernel_rfl
theorem runB (w : World) (os : OsState) : (Lf.endOf R 20000 w os).map (Lf.viewOf R vw loose) = some (PySem.W.openGood vw loose) := by kernel_rfl
theorem runC (w : World) (os : OsState) : (Lf.endOf R 20000 w os).map ob = some (hk.val w) := by kernel_rfl
theorem run (w : World) : HandSHeadRun.RunEq R vw hk ob 20000 loose w := Lf.run_three (runA w) (runB w) (runC w)
end K78

set_option Elab.async false
set_option linter.all false
set_option maxRecDepth 100000
set_option maxHeartbeats 4000000
/-! The end for a law that is promised only where no repr is under way. -/
namespace Lf
open PySem PySem.Spec PyProof.Rows L2
section
variable {P : Program} {w : World} {K : PySem.W.Frag} {mg mb : Str → Option Value} {CX : CXT} {k : Nat} {fa a : Addr} {fd : FuncData} {x : Str} {sp : Sp} {s₁ : Shared} {vs : List Value} {ns : List Int}
/-- the caller's world, with at most the script tracked -/
theorem env_law {H : Hp} (KX : K.In s₁.heap) (hns : s₁.heap.Ns mainGlobals mg) (hb : s₁.heap.Ns builtinsNs mb) (hbb : ∀ x : Str, x ≠ "__name__" → mb x = bootBuiltins x) (hlim : s₁.heap.NoLimit) (hg : s₁.gens = #[])
    (ha : s₁.heap.get? a = some { cls := .type "list", data := .seq vs.toArray }) (hok : HOk P w H s₁.heap) (hA : ∀ b, H b ≠ none → b = a ∧ K.lookup a = none) :
    K.In (hidT s₁.heap H) ∧ (hidT s₁.heap H).Ns mainGlobals mg ∧ Env0 P w K mg (hidT s₁.heap H) callerA [] s₁ H := by
  have free : ∀ {b : Addr} {o : Obj}, s₁.heap.get? b = some o → o.data ≠ .seq vs.toArray → H b = none := fun {b o} e d => by
    cases q : H b with
    | none => rfl
    | some u =>
      obtain ⟨rfl, _⟩ := hA b (by rw [q]; simp)
      rw [ha] at e
      cases e
      exact absurd rfl d
  have names : ∀ {b : Addr} {m : Str → Option Value}, s₁.heap.Ns b m → (hidT s₁.heap H).Ns b m := fun {b m} h => by
    obtain ⟨o, es, ep, e, d, r⟩ := h
    exact ⟨o, es, ep, hidT_get e (free e (by rw [d]; simp)), d, r⟩
  have kin : K.In (hidT s₁.heap H) := fun b o e => hidT_get (KX b o e) (by
    cases q : H b with
    | none => rfl
    | some u =>
      obtain ⟨rfl, z⟩ := hA b (by rw [q]; simp)
      rw [z] at e
      cases e)
  obtain ⟨mc, l1, l2⟩ := hlim
  exact ⟨kin, names hns, rfl, ⟨kin, names hns, ⟨mb, names hb, hbb⟩, mc, names l1, l2⟩, fun b o e => of_hidT e, Nat.le_of_eq (hidT_size _ _), trivial, fun b hb => absurd (show b ∈ ([] : List Addr) from hb) (by simp), hok, .of_eq hg⟩
theorem law_callG (KX : K.In s₁.heap) (hns : s₁.heap.Ns mainGlobals mg) (hb : s₁.heap.Ns builtinsNs mb) (hbb : ∀ x : Str, x ≠ "__name__" → mb x = bootBuiltins x) (hlim : s₁.heap.NoLimit) (hg : s₁.gens = #[])
    (ha : s₁.heap.get? a = some { cls := .type "list", data := .seq vs.toArray }) (hi : IntsAre vs ns) (hl : ns.length ≤ sizeLine) (hr : Room k callerA)
    (F : ∀ base : Heap, K.In base → base.Ns mainGlobals mg → FnG P w K mg base CX k fa fd [x] sp) (hbind : ∀ (s : Shared) (u : Value), BindsTo s fd ⟨[u], []⟩ [(x, u)])
    (hsp : ∀ H : Hp, Only H → SqL K H a (ns.map V.int) → sp [.ref a] H (fun v _ => v = .bl true) fun _ _ _ => False)
    (hCX : ∀ H e s', CX [] H s₁ (fun _ _ _ => False) e s' → False) :
    codeAny (model P w) callerA (.call (.ref fa) ⟨[.ref a], []⟩) (fun r s' => r = .ok (.ret (.bool true)) ∧ OldK s₁.heap s'.heap ∧ s'.os = s₁.os ∧ AllBare s'.gens) s₁ := by
  obtain ⟨H, hO, hS, hok, hA⟩ : ∃ H : Hp, Only H ∧ SqL K H a (ns.map V.int) ∧ HOk P w H s₁.heap ∧ ∀ b, H b ≠ none → b = a ∧ K.lookup a = none := by
    have rv := vals_ints hi
    cases hk : K.lookup a with
    | some o =>
      have e := KX a o hk
      rw [ha] at e
      cases e
      exact ⟨fun _ => none, fun _ => .inl rfl, .inr ⟨_, vs.toArray, _, hk, rfl, rfl, rfl, by rw [List.size_toArray, hi.length]; exact hl, by simpa using rv⟩, (fun b u z => by cases (show (none : Option HO) = some u from z)), fun b z => absurd rfl z⟩
    | none =>
      refine ⟨L2.upd (fun _ => none) a (.frz { cls := .type "list", data := .seq vs.toArray } (.lst (ns.map V.int))), fun b => ?_, .inl (.inr ⟨_, upd_same⟩), fun b u z => ?_, fun b z => ?_⟩
      · by_cases e : b = a
        · subst e
          exact .inr ⟨_, _, upd_same⟩
        · exact .inl (upd_ne e)
      · by_cases e : b = a
        · subst e
          rw [upd_same] at z
          cases z
          exact ⟨ha, by rw [List.length_map]; exact hl, vs, _, rv, ha⟩
        · rw [upd_ne e] at z
          cases z
      · by_cases e : b = a
        · exact ⟨e, rfl⟩
        · exact absurd (upd_ne e) z
  obtain ⟨kin, nm, e0⟩ := env_law KX hns hb hbb hlim hg ha hok hA
  refine codeAny_mono ((F _ kin nm).run callerA [] s₁ H ⟨[.ref a], []⟩ [.ref a] [.ref a] _ _ rfl hr e0 (hbind s₁ (.ref a)) (.cons rfl .nil) (hsp H hO hS)) fun r s' h => ?_
  cases r with
  | error e => exact (hCX H e s' h).elim
  | ok fl =>
    cases fl with
    | next => exact False.elim h
    | brk => exact False.elim h
    | cont => exact False.elim h
    | ret u =>
      obtain ⟨v, H', os, bare, un, hok', r', q⟩ := h
      cases (show v = .bl true from q)
      cases (show u = Value.bool true from r')
      refine ⟨rfl, OldK.of_keep fun b o e => ?_, os, bare⟩
      cases q : H b with
      | none => exact un.keep b o e q (by intro z; exact absurd (show b ∈ ([] : List Addr) from z) (by simp)) (by simp)
      | some u =>
        rcases hO b with z | ⟨ob, xs, z⟩
        · rw [q] at z
          cases z
        · have e1 := (hok b _ z).1
          rw [e] at e1
          cases e1
          exact (hok' b _ (un.frzs b _ _ z)).1
end
theorem walk_ofG {l : PySem.W.OpenLaw} {n k : Nat} {q : Program} {loose : List Str} {XP : (Str → Option Value) → Heap → Prop} {YP : World → Heap → Prop} {d : DefRec} {CX : CXT} {x : Str}
    (hn : l.most = some n) (hn2 : n ≤ sizeLine) (hdf : d.params.defaults = []) (hr : Room k callerA)
    (F : ∀ (w : World) (mg : Str → Option Value) (fa : Addr) (h : Heap), YP w h → h.Ns mainGlobals mg → mg d.name = some (.ref fa) →
      ∃ (K : PySem.W.Frag) (fd : FuncData) (sp : Sp), K.In h ∧ (∀ (s : Shared) (u : Value), BindsTo s fd ⟨[u], []⟩ [(x, u)]) ∧
        (∀ (H : Hp) (a : Addr) (ns : List Int), ns.length ≤ n → Only H → SqL K H a (ns.map V.int) → sp [.ref a] H (fun v _ => v = .bl true) fun _ _ _ => False) ∧
        ∀ base : Heap, K.In base → base.Ns mainGlobals mg → FnG l.prog w K mg base CX k fa fd [x] sp)
    (hCX : ∀ (H : Hp) (s : Shared) (e : Value) (s' : Shared), CX [] H s (fun _ _ _ => False) e s' → False) :
    PySem.W.WalkO q loose XP YP l.row.toRowW d [] (fun f vs => PySem.call f vs) := by
  refine Att.attach_call hn hdf fun w s₀ s₁ mg mb fa o pm cd doc a vs ns G Y ho hd hcd hmg hobj hints hlen hg => ?_
  obtain ⟨K, fd, sp, KX, hb, hsp, hF⟩ := F w mg fa _ Y G.T.g hmg
  exact law_callG KX G.T.g G.T.b G.T.builtins G.T.nolimit hg hobj hints (Nat.le_trans hlen hn2) hr hF hb (fun H hO hS => hsp H a ns hlen hO hS) fun H e s' => hCX H s₁ e s'
end Lf

set_option Elab.async false
set_option linter.all false
set_option maxRecDepth 100000
set_option maxHeartbeats 8000000
namespace K78
open PySem PySem.Spec PyProof.Rows L2 Lf
theorem facts {P : Program} {w : World} {K : PySem.W.Frag} {h : Heap} {mg : Str → Option Value} {f : Addr} (X : K.In h) (G : h.Ns mainGlobals mg) (hfa : mg ("law" : Str) = some (.ref f)) (c : He.SaysD fa fn K) (m : ex K = true) :
    ∃ fd : FuncData, (∀ (s : Shared) (v : Value), BindsTo s fd ⟨[v], []⟩ [("_law_script", v)]) ∧ ∀ base : Heap, K.In base → base.Ns mainGlobals mg → FnG P w K mg base CX0 6 f fd ["_law_script"] (spLaw K) := by
  obtain ⟨fd_is_number, F_is_number⟩ := c.def_ 0 (d := d_is_number) rfl
  obtain ⟨fd_is_between, F_is_between⟩ := c.def_ 1 (d := d_is_between) rfl
  obtain ⟨fd_is_word, F_is_word⟩ := c.def_ 2 (d := d_is_word) rfl
  obtain ⟨fd_signature, F_signature⟩ := c.def_ 8 (d := d_signature) rfl
  obtain ⟨fd_L_source, F_L_source⟩ := c.def_ 9 (d := d_L_source) rfl
  obtain ⟨fd_L_draw, F_L_draw⟩ := c.def_ 10 (d := d_L_draw) rfl
  obtain ⟨fd_L_pick, F_L_pick⟩ := c.def_ 11 (d := d_L_pick) rfl
  obtain ⟨fd_L_all_words, F_L_all_words⟩ := c.def_ 12 (d := d_L_all_words) rfl
  obtain ⟨fd_L_is_part, F_L_is_part⟩ := c.def_ 15 (d := d_L_is_part) rfl
  obtain ⟨fd_L_said, F_L_said⟩ := c.def_ 16 (d := d_L_said) rfl
  obtain ⟨fd_L_right, F_L_right⟩ := c.def_ 17 (d := d_L_right) rfl
  obtain ⟨fd, F⟩ := c.def_ 18 (d := d_law) rfl
  have gl : ∀ (i : Nat) (x : Str), fa[i]? = some (.glo x) → mg x = some (.ref (He.ga K x)) := fun i x e => He.glo_ok X G (c.fact i e)
  have fr : ∀ (i : Nat) (x : Str), fa[i]? = some (.free x) → mg x = none := fun i x e => He.free_ok X G (c.fact i e)
  have it : ∀ (i : Nat) (x : Str) (v : Int), fa[i]? = some (.int x v) → ∃ t, mg x = some (.int v t) := fun i x v e => He.int_ok X G (c.fact i e)
  have st : ∀ (i : Nat) (x v : Str), fa[i]? = some (.str x v) → ∃ t, mg x = some (.str v t) := fun i x v e => He.str_ok X G (c.fact i e)
  have e := hfa.symm.trans (gl 16 "law" rfl)
  cases e
  have b := FunD.bindsA (ps := ["_law_script"]) F fun _ _ _ _ _ _ us hl => match us, hl with | [_], _ => rfl
  refine ⟨fd, fun s v => b s [v] rfl, fun base _ _ => ?_⟩
  have T : Txt P w K mg base := ⟨c, m, gl, fr, it, st⟩
  have z_ValueError : mg "ValueError" = none := T.fr 22 "ValueError" rfl
  have z_abs : mg "abs" = none := T.fr 23 "abs" rfl
  have z_all : mg "all" = none := T.fr 24 "all" rfl
  have z_bool : mg "bool" = none := T.fr 25 "bool" rfl
  have z_int : mg "int" = none := T.fr 26 "int" rfl
  have z_isinstance : mg "isinstance" = none := T.fr 27 "isinstance" rfl
  have z_len : mg "len" = none := T.fr 28 "len" rfl
  have z_list : mg "list" = none := T.fr 29 "list" rfl
  have z_range : mg "range" = none := T.fr 30 "range" rfl
  have z_repr : mg "repr" = none := T.fr 31 "repr" rfl
  have z_str : mg "str" = none := T.fr 32 "str" rfl
  obtain ⟨t_LETTERS, g_LETTERS⟩ := T.st 20 "LETTERS" "abcdef" rfl
  obtain ⟨t_SIGNS, g_SIGNS⟩ := T.st 21 "SIGNS" "abcdefghijklmnopqrst" rfl
  have D_is_number : Def P w K mg base CX0 1 "is_number" ["thing"] (spNum K) := ⟨_, fd_is_number, T.gl 3 "is_number" rfl, F_is_number.kp, ok_num F_is_number z_isinstance z_int z_bool, F_is_number.bindsN fun _ _ _ _ _ _ us hl => match us, hl with | [_], _ => rfl⟩
  have D_is_between : Def P w K mg base CX0 2 "is_between" ["thing", "least", "most"] (spBtw K) := ⟨_, fd_is_between, T.gl 4 "is_between" rfl, F_is_between.kp, ok_btw F_is_between D_is_number, F_is_between.bindsN fun _ _ _ _ _ _ us hl => match us, hl with | [_, _, _], _ => rfl⟩
  obtain ⟨ds_w, vs_w, bs_w⟩ := F_is_word.binds1 (ps := ["thing", "letters", "most"]) 3 1 (by intro z; cases z) rfl fun T kV doc pm an cdv ct us its hl hi => match us, its, hl, hi with | [_, _, _], [_], _, _ => ⟨_, rfl, rfl⟩
  cases vs_w
  have D_is_word : Def P w K mg base CX0 1 "is_word" ["thing", "letters", "most"] (spWord K) := ⟨_, fd_is_word, T.gl 5 "is_word" rfl, F_is_word.kp, ok_word F_is_word g_LETTERS z_isinstance z_str z_len z_all, bs_w⟩
  have FS := ok_sig F_signature T D_is_word D_is_between (er_NoWord T) (er_NoLength T)
  have bS : L2.Binds K fd_signature ["word", "length"] [] := F_signature.bindsN fun _ _ _ _ _ _ us hl => match us, hl with | [_, _], _ => rfl
  have D_L_source : Def P w K mg base CX0 1 "_law_source" ["_law_cell"] spSource := ⟨_, fd_L_source, T.gl 7 "_law_source" rfl, F_L_source.kp, ok_source F_L_source z_abs z_int, F_L_source.bindsN fun _ _ _ _ _ _ us hl => match us, hl with | [_], _ => rfl⟩
  have D_L_draw : Def P w K mg base CX0 1 "_law_draw" ["_law_source_here", "_law_many"] spDraw := ⟨_, fd_L_draw, T.gl 8 "_law_draw" rfl, F_L_draw.kp, ok_draw F_L_draw z_int, F_L_draw.bindsN fun _ _ _ _ _ _ us hl => match us, hl with | [_, _], _ => rfl⟩
  have D_L_pick : Def P w K mg base CX0 2 "_law_pick" ["_law_source_here", "_law_some"] spPick := ⟨_, fd_L_pick, T.gl 9 "_law_pick" rfl, F_L_pick.kp, ok_pick F_L_pick z_len D_L_draw, F_L_pick.bindsN fun _ _ _ _ _ _ us hl => match us, hl with | [_, _], _ => rfl⟩
  have D_L_all_words : Def P w K mg base CX0 1 "_law_all_words" ["_law_letters", "_law_most"] spAll := ⟨_, fd_L_all_words, T.gl 10 "_law_all_words" rfl, F_L_all_words.kp, ok_all F_L_all_words z_range, F_L_all_words.bindsN fun _ _ _ _ _ _ us hl => match us, hl with | [_, _], _ => rfl⟩
  have D_L_is_part : Def P w K mg base CX0 1 "_law_is_part" ["_law_one", "_law_word"] spPart := ⟨_, fd_L_is_part, T.gl 13 "_law_is_part" rfl, F_L_is_part.kp, ok_part F_L_is_part z_len z_int, F_L_is_part.bindsN fun _ _ _ _ _ _ us hl => match us, hl with | [_, _], _ => rfl⟩
  have D_L_said : DefG P w K mg base CX0 4 "_law_said" ["_law_word", "_law_length"] (spSaid K) := ⟨_, fd_L_said, T.gl 14 "_law_said" rfl, F_L_said.kp, ok_said F_L_said T (T.gl 6 "signature" rfl) F_signature.kp FS bS, F_L_said.bindsN fun _ _ _ _ _ _ us hl => match us, hl with | [_, _], _ => rfl⟩
  have D_L_right : DefG P w K mg base CX0 5 "_law_right" ["_law_source_here"] spRight := ⟨_, fd_L_right, T.gl 15 "_law_right" rfl, F_L_right.kp, ok_right F_L_right T D_L_draw D_L_pick D_L_all_words D_L_is_part D_L_said, F_L_right.bindsN fun _ _ _ _ _ _ us hl => match us, hl with | [_], _ => rfl⟩
  exact ok_law F T D_L_source D_L_right
end K78
open PySem PySem.W PySem.Calls PyProof.Rows
theorem PySem.Challenge.cw_letterfolds_k78_signatures_of_words_holds : PySem.Challenge.rw_letterfolds_k78_signatures_of_words.Holds := by
  w_on; o_law
  refine HandSHeadRun.head_any (r := K78.R) (q := K78.vw) (H := K78.hk) (ob := K78.ob) (M := 20000) (loose := K78.loose) (d := HandSHeadRun.topDef K78.R.prog 25) (kwd := []) K78.ob_eq
    (by kernel_rfl) (fun s => by kernel_rfl) K78.run (by kernel_rfl) (by kernel_rfl) (by kernel_rfl) (by rfl) (by first | assumption | decide +kernel) (by decide +kernel) ⟨rfl, rfl, rfl, rfl, rfl, by decide +kernel⟩ ?hw ?hc
  case hw => w_witness2
  case hc =>
    refine Lf.walk_ofG (l := PySem.Challenge.rw_letterfolds_k78_signatures_of_words) (n := 63) (k := 6) (x := "_law_script") (CX := L2.CX0) rfl (by decide) (by kernel_rfl) ⟨rfl, by decide, by decide⟩ ?F (fun _ _ _ _ z => z)
    intro w mg fa h Y G hmg0
    obtain ⟨K, KX, S⟩ := Y
    have hmg : mg ("law" : PySem.Str) = some (.ref fa) := by
      have e : (HandSHeadRun.topDef K78.R.prog 25).name = ("law" : PySem.Str) := by kernel_rfl
      rw [← e]
      exact hmg0
    obtain ⟨fd, hb, hF⟩ := K78.facts (P := PySem.Challenge.rw_letterfolds_k78_signatures_of_words.prog) (w := w) KX G hmg S.d S.m
    exact ⟨K, fd, K78.spLaw K, KX, hb, fun H a ns hl _ hS => ⟨a, ns, rfl, hS, hl, fun _ => rfl⟩, hF⟩
