import PyProof.Rows.All
import Wide.All
import OpenK.AllK
import Wide.FinOn
import KE.KExcIs
import KE.KExcMore
import HandS.ForMost
import HandS.ForExc
import HandS.ExcInit
import HandS.ExcField
import HandS.ExcIs
import HandS.ExcValue
import HandS.IsInst
import HandS.HeadHook4
import HandS.Strs
import KE.GoesEnum
import HandS.Walk
import KE.KOpsOwn
import HandS.OwnEq
import HandS.HotCalls
import HandS.TryMany
import KE.KStateDown
import HandS.Head2
import HandS.HeadEnd
import HandS.Conv
import HandS.Lambda
import HandS.NoneIn
import HandS.EndTab
import HandS.HeadWalk
import PySem.Challenge.RW_letterfolds_k06_products_of_maps
set_option Elab.async false
set_option linter.all false
set_option maxRecDepth 100000
set_option maxHeartbeats 4000000
/-! Facts of error classes. -/
namespace Lf
open PySem PySem.Spec PyProof.Rows L2
/-- what isinstance of an error of the class at C wants -/
structure IsC (K : PySem.W.Frag) (C : Addr) : Prop where
  cl : (PySem.W.clsIn K C).isSome = true
  ga : PySem.W.findIn K (.ref C) "__getattribute__" = some (some (.builtin "BaseException.__getattribute__"))
  gg : PySem.W.findIn K (.ref C) "__getattr__" = some none
  sb : PySem.W.subIn K (.ref C) (.type "BaseException") = some true
  ca : PySem.W.findIn K (.ref C) "__class__" = some (some (.builtin "object.__class__"))
  sg : PySem.W.specialIn K (.builtin "object.__class__") "__get__" = some (some (.builtin "getset_descriptor.__get__"))
  tk : PySem.W.takesIn K (.builtin "object.__class__") = some true
  ob : PySem.W.mroIn K C (.type "object") = some true
/-! ### the classes by one look at the written part -/
/-- an exception class over ValueError -/
def oexB (K : PySem.W.Frag) (C : Addr) : Bool := match K.lookup C with
  | some ⟨.type t, _, .cls cd, sl⟩ => (match cd.mro, sl.toList with
    | .ref D :: bm, [_, _, _, _, some (.builtin n), _] => decide (t = "type") && (decide (D = C) && (decide (n = "ValueError.__new__") && (!cd.hasDel && (cd.hasDict && PySem.HandSPX.refsVE bm))))
    | _, _ => false)
  | _ => false
theorem oexB_ok {K : PySem.W.Frag} {C : Addr} (h : oexB K C = true) : ∃ nm q N bs bm sn sub ab col dd k0 k1 k2 k3 k5,
    K.lookup C = some (excClassObj nm q C N bs bm true sn sub ab col dd k0 k1 k2 k3 k5 "ValueError.__new__") ∧ PySem.HandSPX.refsVE bm = true := by
  unfold oexB at h
  split at h
  · rename_i t dd cd sl lk
    split at h
    · rename_i D bm k0 k1 k2 k3 n k5 hm hs
      simp only [Bool.and_eq_true, decide_eq_true_eq, Bool.not_eq_true'] at h
      obtain ⟨rfl, rfl, rfl, h4, h5, h6⟩ := h
      obtain ⟨nm, bs, mro, ns, qn, hd, sn, sub, ab, col, del⟩ := cd
      dsimp only at hm h4 h5
      subst hm h4 h5
      obtain ⟨l⟩ := sl
      dsimp only at hs
      subst hs
      exact ⟨nm, qn, ns, bs, bm, sn, sub, ab, col, dd, k0, k1, k2, k3, k5, lk, h6⟩
    · cases h
  · cases h
def errB (K : PySem.W.Frag) (C : Addr) : Bool :=
  oexB K C && (decide (PySem.W.findIn K (.ref C) "__setattr__" = some (some (.builtin "object.__setattr__"))) && (decide (PySem.W.subIn K (.ref C) (.type "BaseException") = some true) &&
  (decide (PySem.W.typeIn K (.ref C) = some (.type "type")) && (PySem.W.keepIn K (.ref C) && (PySem.W.hasDictIn K C &&
  (decide (PySem.W.findIn K (.ref C) "__getattribute__" = some (some (.builtin "BaseException.__getattribute__"))) && (decide (PySem.W.findIn K (.ref C) "__getattr__" = some none) &&
  (decide (PySem.W.findIn K (.ref C) "__class__" = some (some (.builtin "object.__class__"))) && (decide (PySem.W.specialIn K (.builtin "object.__class__") "__get__" = some (some (.builtin "getset_descriptor.__get__"))) &&
  (decide (PySem.W.takesIn K (.builtin "object.__class__") = some true) && decide (PySem.W.mroIn K C (.type "object") = some true)))))))))))
structure ErrC (K : PySem.W.Frag) (C : Addr) : Prop where
  o : OexC K C
  x : XfC K C
  i : IsC K C
theorem errB_ok {K : PySem.W.Frag} {C : Addr} (h : errB K C = true) : ErrC K C := by
  unfold errB at h
  simp only [Bool.and_eq_true, decide_eq_true_eq] at h
  obtain ⟨h1, h2, h3, h4, h5, h6, h7, h8, h9, h10, h11, h12⟩ := h
  have hc : (PySem.W.clsIn K C).isSome = true := by
    obtain ⟨nm, q, N, bs, bm, sn, sub, ab, col, dd, k0, k1, k2, k3, k5, lk, _⟩ := oexB_ok h1
    unfold PySem.W.clsIn
    rw [lk] <;> rfl
  exact ⟨⟨oexB_ok h1, h2, h3, h4, h5⟩, ⟨h7, h8, h3, h6⟩, ⟨hc, h7, h8, h3, h9, h10, h11, h12⟩⟩
end Lf

set_option Elab.async false
set_option linter.all false
set_option maxRecDepth 100000
set_option maxHeartbeats 4000000
/-! Errors of the program's own as values: made, read, asked, told. -/
namespace Lf
open PySem PySem.Spec PyProof.Rows L2

/-! ### made -/
/-- C(e, ..) as a value, C's own __init__ keeping sp -/
def tNew (C : Addr) (sp : Sp) (ta : TA) : TE := fun σ H Q => ta σ H fun vs H1 =>
  vs.length ≤ 1000 ∧ ∀ a, H1 a = none → sp (.ref a :: vs) (upd H1 a (exo a C none)) (fun v H2 => v = .non ∧ Q (.ref a) H2) E0
section
variable {X : Cx} {CX : CXT} {x : Str} {C fI : Addr} {k : Nat} {fd : FuncData} {ps : List Str} {sp : Sp} {e : Expr} {es : List Expr} {ta : TA} {p pos : Pos}
theorem pe_new (T : OexC X.K C) (iC : PySem.W.findIn X.K (.ref C) "__init__" = some (some (.ref fI)))
    (tI : PySem.W.typeIn X.K (.ref fI) = some (.type "function"))
    (F1 : FnOk X.prog X.w X.K X.mg X.base CX k fI fd ps sp) (hr : Room (k + 1) X.A) (hb : Binds X.K fd ps [])
    (hx : Passes CX X E0) (hg : Gl X x) (hm : X.mg x = some (.ref C)) (ha : PA X (e :: es) ta)
    (hdb : (x == ("__debug__" : Str)) = false := by decide +kernel)
    (he : starEach (e :: es) X.env = (false, eval e X.env) :: starEach es X.env := by rfl)
    (hpl : (backTo pos (starEach es X.env)).any (·.1) = false := by rfl) :
    PE X (.Call (.Name x p) (e :: es) [] pos) (tNew C sp ta) := by
  refine ⟨fun pins s σ H Q I h => ?_⟩
  obtain ⟨nm, q, N, bs, bm, sn, sub, ab, col, dd, k0, k1, k2, k3, k5, hC, hbm⟩ := T.cls
  refine wpAny_Call_Name_kw (ld_glob I hg hm ?_ hdb)
  refine PySem.W.callWith_K (h₀ := X.base) I.ok.mod.kin T.kC
    (thn (ha.run pos pins s σ H _ I h) fun us s1 hh => ?_) he hpl
  obtain ⟨vs, H1, I1, r1, hz, q1⟩ := hh
  refine ⟨I1.kIn, ?_⟩
  show wpAny _ _ (call (.ref C) us) _ _ _
  obtain ⟨hp, g, dr, tk, os⟩ := s1
  let a := hp.objs.size + 1
  have hsz : hp.objs.size ≤ a := Nat.le_succ _
  have hq := q1 a (I1.hok.fresh hsz)
  let hp' := (hp.push (PySem.W.kdv_tup us)).push (PySem.HandSPX.excO C hp.objs.size)
  have kk : ∀ b o, hp.get? b = some o → hp'.get? b = some o := fun b o z =>
    Heap.get?_push_of_some _ (Heap.get?_push_of_some _ z)
  have hget : ((hp.push (PySem.W.kdv_tup us)).push (PySem.HandSPX.excO C hp.objs.size)).get? (hp.objs.size + 1) =
    some (PySem.HandSPX.excO C hp.objs.size) := by heap_get
  have I2 : Inv X pins σ (upd H1 a (exo a C none)) ⟨hp', g, dr, tk, os⟩ :=
    I1.laid (t' := tk) (a := a) (o := exo a C none) (h' := hp') kk hsz (exo_ok (show hp'.get? a = _ from hget))
  have r2 : Vals (V.ref a :: vs) (Value.ref a :: us) := .cons rfl r1
  have hl : (Value.ref a :: us).length = ps.length := by
    have z := r2.length
    rw [F1.len _ _ _ _ hq] at z
    exact z.symm
  have hus : us.length ≤ sizeLine := by
    rw [← Paired.length r1, sizeLine_eq]
    omega
  have hb2 := hb ⟨hp', g, dr, tk, os⟩ (Value.ref a :: us) I2.kIn (by simpa using hl)
  rw [List.append_nil] at hb2
  refine wpAny_call (PySem.HandSPX.call_own F.excBase_ValueError (fun Y => PySem.HandSPX.refsVE_contains Y bm hbm) (I1.kIn _ _ hC)
    (PySem.W.looks_findIn I1.kIn iC) (fun self => PySem.W.bind_fn I1.kIn self tI) hus
    (codeAny_mono (F1.run _ X.stack _ _ ⟨Value.ref a :: us, []⟩ (Value.ref a :: us) _ _ E0 (hr.make C us []) (I2.env0.make C us []) hb2 r2 hq) fun r s' hq' => ?_))
  cases r with
  | error er => exact hx pins σ _ _ er s' I2 hq'
  | ok fl =>
    cases fl with
    | ret u =>
      obtain ⟨v, H2, os2, bare2, un2, hok2, rv, ev, q2⟩ := hq'
      subst ev
      exact ⟨rv, .ref a, H2, I2.call' (ch := []) os2 un2 hok2 bare2 (fun b z => nomatch z), rfl, q2⟩
    | next => exact False.elim hq'
    | brk => exact False.elim hq'
    | cont => exact False.elim hq'
end

/-! ### an error that stands -/
/-- at a an error of the class at C: its dict d, if it has one -/
def XAt (H : Hp) (a C : Addr) (d : Option Addr) : Prop := H a = some (exo a C d) ∨ (d = none ∧ H a = some (ExO (.ref C) a))
theorem XAt.obj {X : Cx} {pins : List (Addr × Obj)} {σ : L2.St} {H : Hp} {s : Shared} {a C : Addr} {d : Option Addr} (I : Inv X pins σ H s) (h : XAt H a C d) :
    ∃ oe vs, s.heap.get? a = some oe ∧ Zc (.ref C) d oe ∧ oe.data = .fields vs := by
  rcases h with h | ⟨rfl, h⟩
  · obtain ⟨t1, ho⟩ := exo_at I.hok h
    exact ⟨_, _, ho, ⟨rfl, rfl⟩, rfl⟩
  · obtain ⟨⟨oe, vs, ho, hz, hd, _⟩, _, _⟩ := I.hok a _ h
    exact ⟨oe, vs, ho, hz, hd⟩
theorem XAt.mono {H H' : Hp} {a C : Addr} {d : Option Addr} (h : XAt H a C d) (e : Same H H') : XAt H' a C d := by
  rcases h with h | ⟨z, h⟩
  · exact .inl (e _ _ h)
  · exact .inr ⟨z, e _ _ h⟩

/-! ### a field -/
def tXo (K : PySem.W.Frag) (f : Str) (te : TE) : TE := fun σ H Q => te σ H fun x H1 => ∃ (a C d : Addr) (fs : List (Str × V)) (v : V),
  x = .ref a ∧ XfC K C ∧ PySem.W.findIn K (.ref C) f = some none ∧ XAt H1 a C (some d) ∧ H1 d = some (exd d fs) ∧ fs.lookup f = some v ∧ Q v H1
theorem pe_xo {X : Cx} {e : Expr} {te : TE} {pos : Pos} {n : Str} (he : PE X e te)
    (hb : attributeBase e n X.env (eval e X.env) = eval e X.env := by rfl) : PE X (.Attribute e n pos) (tXo X.K n te) := by
  refine ⟨fun pins s σ H Q I h => ?_⟩
  refine attr_of hb (thn (he.run pins s σ H _ I h) fun u s1 hh => ?_)
  obtain ⟨x, H1, I1, rx, a, C, d, fs, v, ex, T, hno, ea, ed, l, q⟩ := hh
  subst ex
  obtain rfl : u = Value.ref a := rx
  obtain ⟨oe, vs, ho, hz, hd⟩ := ea.obj I1
  obtain ⟨mA, hns, hr⟩ := exd_at I1.hok ed
  obtain ⟨od, ho2, hl⟩ := lookIn_ns hns
  obtain ⟨u, hu, ru⟩ := RelO.some_of (v := v) (o := mA n) (by rw [← l]; exact hr n)
  have J : PySem.W.InstAt s1.heap a oe C (some od) := ⟨ho, hz.1, by unfold PySem.W.notCls; rw [hd] <;> rfl, by rw [hz.2]; exact ho2⟩
  exact HandSPX.exc_get I1.kIn J T.ga T.gg T.exC (PySem.W.findObj_own T.hdC hno rfl (by rw [hl, hu])) (handed_of ru)
    ⟨v, H1, I1.tok _, ru, q⟩

/-! ### isinstance -/
/-- its dict, if it has one, is an error's -/
def XDict (H : Hp) (d : Option Addr) : Prop := ∀ dx, d = some dx → ∃ fs, H dx = some (exd dx fs)
theorem XAt.inst {X : Cx} {pins : List (Addr × Obj)} {σ : L2.St} {H : Hp} {s : Shared} {a C : Addr} {d : Option Addr} (I : Inv X pins σ H s) (h : XAt H a C d) (hd : XDict H d) :
    ∃ ox od, PySem.W.InstAt s.heap a ox C od := by
  obtain ⟨oe, vs, ho, hz, hv⟩ := h.obj I
  have nc : PySem.W.notCls oe = true := by unfold PySem.W.notCls; rw [hv] <;> rfl
  cases d with
  | none => exact ⟨oe, none, ho, hz.1, nc, by rw [hz.2]; trivial⟩
  | some dx =>
    obtain ⟨fs, e⟩ := hd dx rfl
    obtain ⟨mA, hns, _⟩ := exd_at I.hok e
    obtain ⟨od, ho2, _⟩ := lookIn_ns hns
    exact ⟨oe, some od, ho, hz.1, nc, by rw [hz.2]; exact ho2⟩
def rIsX (K : PySem.W.Frag) : List V → Hp → VK → Prop := fun xs H Q => ∃ (a C : Addr) (d : Option Addr) (c : V) (cv : Value) (b : Bool),
  xs = [.ref a, c] ∧ ClsV c cv ∧ IsC K C ∧ XAt H a C d ∧ XDict H d ∧ PySem.W.kitOne K (.ref C) cv = some b ∧ Q (.bl b) H
theorem call_isX {X : Cx} : CallR X (.builtin "isinstance") (rIsX X.K) := by
  intro pins s σ H xs us Q I r h
  obtain ⟨a, C, d, c, cv, b, rfl, k, T, ha, hd, e, q⟩ := h
  obtain ⟨u1, u2, rfl, r1, r2⟩ := vals2 r
  obtain rfl := k.eq r2
  obtain rfl : u1 = Value.ref a := r1
  obtain ⟨ox, od, J⟩ := ha.inst I hd
  exact PySem.W.kia_one (PySem.W.kitx_exc (od := od) T.cl T.ga T.gg T.sb T.ca T.sg T.tk T.ob) I.kIn J e (fun z => nomatch z)
    fun tk => ⟨.bl b, H, I.tok tk, rfl, q⟩
def rIsXT (K : PySem.W.Frag) : List V → Hp → VK → Prop := fun xs H Q => ∃ (a C : Addr) (d : Option Addr) (tp : Addr) (cs : List V) (us : List Value) (b : Bool),
  xs = [.ref a, .ref tp] ∧ H tp = some (.tup cs) ∧ Paired ClsV cs us ∧ IsC K C ∧ XAt H a C d ∧ XDict H d ∧ PySem.W.kitAny K (.ref C) us = some b ∧ Q (.bl b) H
theorem call_isXT {X : Cx} : CallR X (.builtin "isinstance") (rIsXT X.K) := by
  intro pins s σ H xs us Q I r h
  obtain ⟨a, C, d, tp, cs, ws, b, rfl, htp, k, T, ha, hd, e, q⟩ := h
  obtain ⟨u1, u2, rfl, r1, r2⟩ := vals2 r
  obtain rfl : u1 = Value.ref a := r1
  obtain rfl : u2 = Value.ref tp := r2
  obtain ⟨ox, od, J⟩ := ha.inst I hd
  obtain ⟨_, its, rv, ⟨oc, dd, dt, sl⟩, h1, h2, n, h3⟩ := (show ObjOk X.prog X.w H s.heap tp (.tup cs) from I.hok tp _ htp)
  obtain rfl := ClsV.all k rv
  dsimp only at h2 h3
  subst h2 h3
  exact PySem.W.kia_tup (PySem.W.kitx_exc (od := od) T.cl T.ga T.gg T.sb T.ca T.sg T.tk T.ob) I.kIn J h1 e (fun z => nomatch z)
    fun tk => ⟨.bl b, H, I.tok tk, rfl, q⟩

/-! ### told() -/
/-- e.m() of an error e, by what stands of its class -/
def tTold (X : Cx) (m : Str) (te : TE) : TE := fun σ H Q => te σ H fun x H1 => ∃ (a C f : Addr) (d : Option Addr) (fd : FuncData) (sp : Sp),
  x = .ref a ∧ IsC X.K C ∧ Meth X.K C m f ∧ XAt H1 a C d ∧ (∀ dx, d = some dx → ∃ fs, H1 dx = some (exd dx fs) ∧ fs.lookup m = none) ∧
    FnOk X.prog X.w X.K X.mg X.base CX0 1 f fd ["self"] sp ∧ Binds X.K fd ["self"] [] ∧ sp [.ref a] H1 Q E0
theorem pe_told {X : Cx} {o : Expr} {m : Str} {te : TE} {pos apos : Pos} {pl : Sem Bool} (he : PE X o te) (hr : Room 1 X.A)
    (ht : eval (.Call (.Attribute o m apos) [] [] pos) X.env = (do
      let ov ← eval o X.env
      standAt apos.atName
      let (f, first) ← holding [ov] (getMethod ov m pl)
      callWith pos f first (backTo pos (starEach [] X.env)) (backToKw pos (keywordEach [] X.env))) := by rfl) :
    PE X (.Call (.Attribute o m apos) [] [] pos) (tTold X m te) := by
  refine ⟨fun pins s σ H Q I h => ?_⟩
  refine PySem.W.methodCall_KW (pl := pl) (thn (he.run pins s σ H _ I h) fun u s1 hh => ?_) ht
  obtain ⟨x, H1, I1, rx, a, C, f, d, fd, sp, rfl, T, M, ha, hd, FO, hb, q⟩ := hh
  obtain rfl : u = Value.ref a := rx
  obtain ⟨mm, fr⟩ := I1.fr
  obtain ⟨oe, vs, ho, hz, hv⟩ := ha.obj I1
  have nc : PySem.W.notCls oe = true := by unfold PySem.W.notCls; rw [hv] <;> rfl
  have go : wpAny (model X.prog X.w) X.A (callWith pos (Value.ref f) [Value.ref a] (backTo pos (starEach [] X.env)) []) (EP X pins σ Q) X.xe s1 :=
    PySem.W.callWith_K0 (first := [.ref a]) I1.kIn M.kp (run_fn (us := [.ref a]) (vs := [.ref a]) FO hr hb .nil pass0 I1 (.cons rfl .nil) q)
  cases d with
  | none =>
    have J : PySem.W.InstAt s1.heap a oe C none := ⟨ho, hz.1, nc, by rw [hz.2]; trivial⟩
    exact PySem.W.method_exc fr I1.ok.mod.kin J T.ga T.gg M.at_ M.fn rfl go
  | some dx =>
    obtain ⟨fs, e, hl⟩ := hd dx rfl
    obtain ⟨mA, hns, rel⟩ := exd_at I1.hok e
    obtain ⟨od, ho2, hk⟩ := lookIn_ns hns
    have J : PySem.W.InstAt s1.heap a oe C (some od) := ⟨ho, hz.1, nc, by rw [hz.2]; exact ho2⟩
    have hm : mA m = none := by
      have z := rel m
      rw [hl] at z
      cases y : mA m with
      | none => rfl
      | some v => rw [y] at z; exact z.elim
    exact PySem.W.method_exc fr I1.ok.mod.kin J T.ga T.gg M.at_ M.fn (by show (PySem.W.lookIn m od).map _ = _; rw [hk, hm]; rfl) go

/-! ### made without own __init__, of nothing -/
theorem pe_bare {X : Cx} {C : Addr} {bmB : List Value} {B newId initId : String} {x : Str} {p pos : Pos} (F : ExcBaseFacts B newId initId bmB)
    (q : PySem.W.excIn X.K C bmB newId = true) (gC : X.mg x = some (.ref C)) (kC : PySem.W.keepIn X.K (.ref C) = true) (hg : Gl X x)
    (hdb : (x == ("__debug__" : Str)) = false := by decide +kernel) :
    PE X (.Call (.Name x p) [] [] pos) (fun _ H Q => ∀ a, H a = none → Q (.ref a) (upd H a (ExO (.ref C) a))) := by
  refine ⟨fun pins s σ H Q I h => ?_⟩
  refine wpAny_Call_Name_kw (ld_glob I hg gC ?_ hdb)
  refine PySem.W.callWith_K0 I.kIn kC ?_
  show wpAny _ _ (call (.ref C) []) _ _ _
  obtain ⟨bm, N, nm, qn, bs, hdct, sn, sub, ab, col, dd, k0, k1, k2, k3, k5, mN, hC, hN, hni, T⟩ := exc_obj I.kIn q
  refine wpAny_call_exc_subT F T hC hN hni (fun h' a hm => ?_) (Nat.zero_le _)
  have hn : H a = none := I.hok.gone hm.new
  obtain ⟨t, ht, _, _⟩ := hm.there
  exact ⟨.ref a, _, I.laidN hm.keeps hm.new hn (exO_ok ht ⟨rfl, rfl⟩ rfl rfl rfl (show 4 < 6 by decide)), rfl, h a hn⟩

/-! ### by a weaker reading -/
theorem PE.imp {X : Cx} {e : Expr} {t t' : TE} (h : PE X e t) (f : ∀ σ H Q, t' σ H Q → t σ H Q) : PE X e t' := ⟨fun pins s σ H Q I q => h.run pins s σ H Q I (f σ H Q q)⟩
theorem PSs.imp {X : Cx} {e : List Stmt} {t t' : TS} (h : PSs X e t) (f : ∀ D σ H, t' D σ H → t D σ H) : PSs X e t' := ⟨fun pins s σ H D I q => h.run pins s σ H D I (f D σ H q)⟩
/-- a reading that may be weakened -/
def up (t : TE) : TE := fun σ H Q => ∃ Q0, t σ H Q0 ∧ ∀ v H', Q0 v H' → Q v H'
theorem PE.up {X : Cx} {e : Expr} {t : TE} (h : PE X e t) : PE X e (Lf.up t) := ⟨fun pins s σ H Q I q => by
  obtain ⟨Q0, q, k⟩ := q
  exact thn (h.run pins s σ H Q0 I q) fun u s1 r => by
    obtain ⟨v, H', I', rv, z⟩ := r
    exact ⟨v, H', I', rv, k v H' z⟩⟩
/-- a class (or another thing) of the module by its name -/
theorem pe_cl {X : Cx} {x : Str} {a : Addr} {pos : Pos} (hg : Gl X x) (hm : X.mg x = some (.ref a)) (hd : (x == ("__debug__" : Str)) = false := by decide +kernel) : PE X (.Name x pos) (tC (.ref a)) := pe_glob hg hm rfl hd
/-- an int of the module by its name -/
theorem pe_gint {X : Cx} {x : Str} {i : Int} {t : Tok} {pos : Pos} (hg : Gl X x) (hm : X.mg x = some (.int i t)) (hd : (x == ("__debug__" : Str)) = false := by decide +kernel) : PE X (.Name x pos) (tC (.int i)) := pe_glob hg hm ⟨t, rfl⟩ hd
theorem same_upd {H : Hp} {p : Addr} {o : HO} (n : H p = none) : Same H (upd H p o) := fun b u e => by rw [upd_ne (ne_of_none e n)]; exact e

/-! ### a def of the module, called by its name -/
structure Def (P : Program) (w : World) (K : PySem.W.Frag) (mg : Str → Option Value) (base : Heap) (CX : CXT) (k : Nat) (x : Str) (ps : List Str) (sp : Sp) : Prop where
  ex : ∃ f fd, mg x = some (.ref f) ∧ PySem.W.keepIn K (.ref f) = true ∧ FnOk P w K mg base CX k f fd ps sp ∧ Binds K fd ps []
section
variable {X : Cx} {CX : CXT} {k : Nat} {x : Str} {ps : List Str} {sp : Sp} {E : XK} {e : Expr} {es : List Expr} {t : TA} {p pos : Pos}
theorem pe_def (D : Def X.prog X.w X.K X.mg X.base CX k x ps sp) (hr : Room k X.A) (hx : Passes CX X E) (hg : Gl X x) (ha : PA X (e :: es) t)
    (hdb : (x == ("__debug__" : Str)) = false := by decide +kernel) (he : starEach (e :: es) X.env = (false, eval e X.env) :: starEach es X.env := by rfl)
    (hpl : (backTo pos (starEach es X.env)).any (·.1) = false := by rfl) : PE X (.Call (.Name x p) (e :: es) [] pos) (fun σ H Q => t σ H fun vs H1 => sp vs H1 Q E) := by
  obtain ⟨f, fd, g, kp, F, b⟩ := D.ex
  exact PE.imp (pe_call F hr hg g kp b .nil hx ha hdb he hpl) fun σ H Q h => by
    show t σ H fun vs H1 => sp (vs ++ []) H1 Q E
    simpa only [List.append_nil] using h
theorem pe_def0 (D : Def X.prog X.w X.K X.mg X.base CX k x ps sp) (hr : Room k X.A) (hx : Passes CX X E) (hg : Gl X x)
    (hdb : (x == ("__debug__" : Str)) = false := by decide +kernel) : PE X (.Call (.Name x p) [] [] pos) (fun _ H Q => sp [] H Q E) := by
  obtain ⟨f, fd, g, kp, F, b⟩ := D.ex
  exact pe_call0 F hr hg g kp b .nil hx hdb
end

/-! ### told, __init__ -/
def spTold (t : Str) : Sp := fun vs H Q _ => ∃ v, vs = [v] ∧ Q (.str t) H
def spIni1 (C : Addr) (f : Str) : Sp := fun vs H Q _ => ∃ a v, vs = [.ref a, v] ∧ H a = some (exo a C none) ∧
  ∀ d, H d = none → d ≠ a → Q .non (upd (upd H d (exd d [(f, v)])) a (exo a C (some d)))
def spIni2 (C : Addr) (f g : Str) : Sp := fun vs H Q _ => ∃ a v u, vs = [.ref a, v, u] ∧ H a = some (exo a C none) ∧
  ∀ d, H d = none → d ≠ a → Q .non (upd (upd (upd H d (exd d [(f, v)])) a (exo a C (some d))) d (exd d [(g, u), (f, v)]))
section
variable {P : Program} {w : World} {K : PySem.W.Frag} {mg : Str → Option Value} {base : Heap} {C f : Addr} {fd : FuncData} {q : Str} {a : Arguments} {sc : Scope}
theorem vis_of {N ps : List Str} (S : FnScope N ps sc) {x : Str} (h : x ∈ ps) : Vis sc x := by
  rcases S.par x h with e | e
  · exact .inl e
  · exact .inr (.inl e)
theorem told_ok {t : Str} {j : Nat} {p p2 : Pos} (F : FunD K "told" q a [.Return (some (.Constant (.str t) j p)) p2] sc [] [] f fd) (S : FnScope ["self"] ["self"] sc) :
    FnOk P w K mg base CX0 1 f fd ["self"] (spTold t) := by
  refine F.ok S (fun vs H Q E h => ?_) (fun cdv A outer s H vs Q E hr h => ⟨_, PSs.nox (pss_one (ps_ret pe_str)), ?_⟩)
  · obtain ⟨v, rfl, _⟩ := h
    rfl
  · obtain ⟨v, rfl, k⟩ := h
    exact k
theorem ini1_ok {fl : Str} {p1 p2 p3 p4 : Pos} (T : OexC K C) (no : PySem.W.findIn K (.ref C) fl = some none)
    (F : FunD K "__init__" q a [.Assign [.Attribute (.Name "self" p1) fl p2] (.Name fl p3) p4] sc [] [] f fd) (S : FnScope ["self", fl] ["self", fl] sc)
    (d1 : (fl == ("__debug__" : Str)) = false := by decide +kernel) (d2 : (fl == ("__classdict__" : Str)) = false := by decide +kernel) :
    FnOk P w K mg base CX0 1 f fd ["self", fl] (spIni1 C fl) := by
  refine F.ok S (fun vs H Q E h => ?_) (fun cdv A outer s H vs Q E hr h => ⟨_, PSs.nox (pss_one (ps_ost (pe_var (i := 0) rfl (vis_of S (by simp))) (pe_var (i := 1) rfl (vis_of S (by simp)) d1 d2))), ?_⟩)
  · obtain ⟨a, v, rfl, _⟩ := h
    rfl
  · obtain ⟨a, v, rfl, e, k⟩ := h
    exact ⟨_, rfl, _, rfl, a, C, rfl, T, no, .inl ⟨e, fun dx n ne => k dx n ne⟩⟩
theorem ini2_ok {fl gl : Str} {p1 p2 p3 p4 q1 q2 q3 q4 : Pos} (T : OexC K C) (no : PySem.W.findIn K (.ref C) fl = some none) (no2 : PySem.W.findIn K (.ref C) gl = some none)
    (F : FunD K "__init__" q a [.Assign [.Attribute (.Name "self" p1) fl p2] (.Name fl p3) p4, .Assign [.Attribute (.Name "self" q1) gl q2] (.Name gl q3) q4] sc [] [] f fd) (S : FnScope ["self", fl, gl] ["self", fl, gl] sc)
    (d1 : (fl == ("__debug__" : Str)) = false := by decide +kernel) (d2 : (fl == ("__classdict__" : Str)) = false := by decide +kernel)
    (d3 : (gl == ("__debug__" : Str)) = false := by decide +kernel) (d4 : (gl == ("__classdict__" : Str)) = false := by decide +kernel) :
    FnOk P w K mg base CX0 1 f fd ["self", fl, gl] (spIni2 C fl gl) := by
  refine F.ok S (fun vs H Q E h => ?_) (fun cdv A outer s H vs Q E hr h => ⟨_, PSs.nox (pss_cons (ps_ost (pe_var (i := 0) rfl (vis_of S (by simp))) (pe_var (i := 1) rfl (vis_of S (by simp)) d1 d2))
    (pss_one (ps_ost (pe_var (i := 0) rfl (vis_of S (by simp))) (pe_var (i := 2) rfl (vis_of S (by simp)) d3 d4)))), ?_⟩)
  · obtain ⟨a, v, u, rfl, _⟩ := h
    rfl
  · obtain ⟨a, v, u, rfl, e, k⟩ := h
    exact ⟨_, rfl, _, rfl, a, C, rfl, T, no, .inl ⟨e, fun dx n ne => ⟨_, rfl, _, rfl, a, C, rfl, T, no2, .inr ⟨dx, _, upd_same, by rw [upd_ne ne]; exact upd_same, (by show 1 ≤ 900; decide), k dx n ne⟩⟩⟩⟩
end

/-! ### an error class with all that is told of it -/
section
variable (P : Program) (w : World) (K : PySem.W.Frag) (mg : Str → Option Value) (base : Heap)
structure Tells (C : Addr) (t : Str) : Prop where
  ex : ∃ f fd, Meth K C "told" f ∧ FnOk P w K mg base CX0 1 f fd ["self"] (spTold t) ∧ Binds K fd ["self"] []
/-- the class x, made of one thing, its field -/
structure Err1 (x fl t : Str) : Prop where
  g : mg x = some (.ref (He.ga K x))
  c : ErrC K (He.ga K x)
  no : PySem.W.findIn K (.ref (He.ga K x)) fl = some none
  tl : Tells P w K mg base (He.ga K x) t
  ini : ∃ fI fd, PySem.W.findIn K (.ref (He.ga K x)) "__init__" = some (some (.ref fI)) ∧ PySem.W.typeIn K (.ref fI) = some (.type "function") ∧
    FnOk P w K mg base CX0 1 fI fd ["self", fl] (spIni1 (He.ga K x) fl) ∧ Binds K fd ["self", fl] []
structure Err2 (x fl gl t : Str) : Prop where
  g : mg x = some (.ref (He.ga K x))
  c : ErrC K (He.ga K x)
  no : PySem.W.findIn K (.ref (He.ga K x)) fl = some none
  no2 : PySem.W.findIn K (.ref (He.ga K x)) gl = some none
  tl : Tells P w K mg base (He.ga K x) t
  ini : ∃ fI fd, PySem.W.findIn K (.ref (He.ga K x)) "__init__" = some (some (.ref fI)) ∧ PySem.W.typeIn K (.ref fI) = some (.type "function") ∧
    FnOk P w K mg base CX0 1 fI fd ["self", fl, gl] (spIni2 (He.ga K x) fl gl) ∧ Binds K fd ["self", fl, gl] []
/-- made of nothing -/
structure Err0 (x t : Str) : Prop where
  g : mg x = some (.ref (He.ga K x))
  c : ErrC K (He.ga K x)
  ec : PySem.W.excIn K (He.ga K x) He.veBase "ValueError.__new__" = true
  tl : Tells P w K mg base (He.ga K x) t
end
section
variable {X : Cx} {x fl gl t : Str} {e e2 : Expr} {ta tb : TE} {p pos : Pos}
theorem pe_err1 (E : Err1 X.prog X.w X.K X.mg X.base x fl t) (hr : Room 2 X.A) (hg : Gl X x) (ha : PE X e ta) (hdb : (x == ("__debug__" : Str)) = false := by decide +kernel)
    (hs : starEach [e] X.env = (false, eval e X.env) :: starEach [] X.env := by rfl) :
    PE X (.Call (.Name x p) [e] [] pos) (fun σ H Q => ta σ H fun v H1 => ∀ a d H', H1 a = none → H1 d = none → Same H1 H' → XAt H' a (He.ga X.K x) (some d) → H' d = some (exd d [(fl, v)]) → Q (.ref a) H') := by
  obtain ⟨fI, fd, i1, i2, F, b⟩ := E.ini
  refine PE.imp (pe_new E.c.o i1 i2 F hr b pass0 hg E.g (pa_cons (PE.up ha) pa_nil hs) hdb hs rfl) fun σ H Q h => ?_
  refine ⟨_, h, fun v H1 k => ⟨(by show 1 ≤ 1000; decide), fun a na => ⟨a, v, rfl, upd_same, fun d nd ne => ?_⟩⟩⟩
  have nd1 : H1 d = none := by rw [upd_ne ne] at nd; exact nd
  refine ⟨rfl, k a d _ na nd1 (fun b o q => ?_) (.inl upd_same) (by rw [upd_ne ne]; exact upd_same)⟩
  rw [upd_ne (ne_of_none q na), upd_ne (ne_of_none q nd1), upd_ne (ne_of_none q na)]
  exact q
theorem pe_err2 (E : Err2 X.prog X.w X.K X.mg X.base x fl gl t) (hr : Room 2 X.A) (hg : Gl X x) (ha : PE X e ta) (hb : PE X e2 tb) (hdb : (x == ("__debug__" : Str)) = false := by decide +kernel)
    (hs : starEach [e, e2] X.env = (false, eval e X.env) :: starEach [e2] X.env := by rfl) (hs2 : starEach [e2] X.env = (false, eval e2 X.env) :: starEach [] X.env := by rfl)
    (hp : (backTo pos (starEach [e2] X.env)).any (·.1) = false := by rfl) :
    PE X (.Call (.Name x p) [e, e2] [] pos) (fun σ H Q => ta σ H fun v H0 => Lf.up tb σ H0 fun u H1 => ∀ a d H', H1 a = none → H1 d = none → Same H1 H' → XAt H' a (He.ga X.K x) (some d) → H' d = some (exd d [(gl, u), (fl, v)]) → Q (.ref a) H') := by
  obtain ⟨fI, fd, i1, i2, F, b⟩ := E.ini
  refine PE.imp (pe_new E.c.o i1 i2 F hr b pass0 hg E.g (pa_cons (PE.up ha) (pa_cons (PE.up hb) pa_nil hs2) hs) hdb hs hp) fun σ H Q h => ?_
  refine ⟨_, h, fun v H0 h2 => ?_⟩
  obtain ⟨Q0, h3, h4⟩ := h2
  refine ⟨Q0, h3, fun u H1 z => ?_⟩
  have k := h4 u H1 z
  refine ⟨(by show 2 ≤ 1000; decide), fun a na => ⟨a, v, u, rfl, upd_same, fun d nd ne => ?_⟩⟩
  have nd1 : H1 d = none := by rw [upd_ne ne] at nd; exact nd
  refine ⟨rfl, k a d _ na nd1 (fun b o q => ?_) (.inl (by rw [upd_ne ne.symm]; exact upd_same)) upd_same⟩
  rw [upd_ne (ne_of_none q nd1), upd_ne (ne_of_none q na), upd_ne (ne_of_none q nd1), upd_ne (ne_of_none q na)]
  exact q
theorem pe_err0 (E : Err0 X.prog X.w X.K X.mg X.base x t) (hg : Gl X x) (hdb : (x == ("__debug__" : Str)) = false := by decide +kernel) :
    PE X (.Call (.Name x p) [] [] pos) (fun _ H Q => ∀ a H', H a = none → Same H H' → XAt H' a (He.ga X.K x) none → Q (.ref a) H') :=
  PE.imp (pe_bare F.excBase_ValueError E.ec E.g E.c.o.kC hg hdb) fun σ H Q h a na => h a _ na (same_upd na) (.inr ⟨rfl, upd_same⟩)
end
end Lf

set_option Elab.async false
set_option linter.all false
set_option maxRecDepth 100000
set_option maxHeartbeats 4000000
/-! set(xs) of distinct texts, however many; how many there are. -/
namespace Lf
open PySem PySem.Spec PyProof.Rows L2
abbrev HasS (P : Program) (w : World) (h : Heap) (a : Addr) (xs : List Str) (i : Nat) : Prop := h.SetOf (PySem.strKind P w) a (fun y => (xs.take i).any (· == y)) i
theorem take_next {xs : List Str} (nd : xs.Nodup) {i : Nat} (hi : i < xs.length) :
    (xs.take i).any (· == xs.getD i Str.empty) = false ∧ ∀ y, ((xs.take i).any (· == y) || decide (y = xs.getD i Str.empty)) = (xs.take (i + 1)).any (· == y) := by
  have eg : xs.getD i Str.empty = xs[i] := by simp [List.getD, hi]
  rw [eg]
  have split : xs.take (i + 1) = xs.take i ++ [xs[i]] := by simp
  constructor
  · rw [List.any_eq_false]
    intro y hy hb
    have e : y = xs[i] := by simpa using hb
    subst e
    obtain ⟨j, hj, ej⟩ := List.mem_iff_getElem.mp hy
    rw [List.length_take] at hj
    have ej2 : xs[j] = xs[i] := by rw [← ej, List.getElem_take]
    have ji : j < i := by omega
    exact absurd ej2 (List.pairwise_iff_getElem.mp nd j i (by omega) hi ji)
  · intro y
    rw [split, List.any_append]
    congr 1
    by_cases e : y = xs[i]
    · subst e; simp
    · have q : (xs[i] == y) = false := beq_eq_false_iff_ne.mpr fun z => e z.symm
      simp [e, q]
section
variable {P : Program} {w : World} {A : Around} {R : Result → Shared → Prop} {It : Addr} {fp wr : List Addr} {G : Array GenState → Array GenState → Prop} {n : Nat} {Pv : Nat → Value → Prop} {Sv : Nat → Shared → Prop}
/-- the loop that fills a set: distinct texts -/
theorem fillS (W : WalksS P w A.in1 It fp wr G n Pv Sv) {a : Addr} (off : a ∉ fp) {xs : List Str} (nd : xs.Nodup) (len : xs.length = n) (few : n + 1 < scanBound)
    (read : ∀ i v, Pv i v → ∃ t, v = .str (xs.getD i Str.empty) t) : ∀ (m i : Nat) (s : Shared), i + m = n → Sv i s → HasS P w s.heap a xs i →
      (∀ s', Moved (a :: wr) G s s' → HasS P w s'.heap a xs n → R (.ok (.ret .none)) s') →
      codeAny (model P w) A (.builtin "set.update.loop" ⟨[.ref a, .ref It], []⟩) R s := by
  have offw : a ∉ wr := fun z => off (W.sub _ z)
  have keep : ∀ {s s' : Shared} {i : Nat}, Moved wr G s s' → HasS P w s.heap a xs i → HasS P w s'.heap a xs i := fun mv hs => by
    obtain ⟨o, es, ep, t, ho, r⟩ := hs
    exact ⟨o, es, ep, t, mv.heap a _ offw ho, r⟩
  intro m
  induction m with
  | zero =>
    intro i s e st hs fin
    obtain rfl : i = n := by omega
    refine codeAny_builtin PyProof.Rows.F.entry_set_update_loop ?_
    rw [Around.under_plainId PyProof.Rows.F.plain_set_update_loop _]
    show wpAny _ _ (pyNext (.ref It) >>= _) _ _ _
    exact wpAny_bind (W.done s _ _ st fun s' mv => wpAny_pure (fin s' (mv.mono fun b hb => List.mem_cons_of_mem _ hb) (keep mv hs)))
  | succ m ih =>
    intro i s e st hs fin
    have hi : i < n := by omega
    refine codeAny_builtin PyProof.Rows.F.entry_set_update_loop ?_
    rw [Around.under_plainId PyProof.Rows.F.plain_set_update_loop _]
    show wpAny _ _ (pyNext (.ref It) >>= _) _ _ _
    refine wpAny_bind (W.item i s _ _ hi st fun v s' pv st' mv => ?_)
    obtain ⟨t, rfl⟩ := read i v pv
    have hs' := keep mv hs
    obtain ⟨new, grow⟩ := take_next nd (show i < xs.length by omega)
    show wpAny _ _ (holding [Value.str _ t] (setAdd a (.str _ t)) >>= _) _ _ _
    refine wpAny_bind (wpAny_holding ?_)
    unfold setAdd
    refine wpAny_holding (wpAny_bind ((PySem.strKind P w).pyHash (strKind_is _ _ _ _) ?_))
    refine wpAny_setAddHashed_of (knd := PySem.strKind P w) (s := { s' with toks := s'.toks + 1 }) (strKind_is _ _ _ _) rfl hs' (by omega) fun h' sb hs2 => ?_
    have hs3 : HasS P w h' a xs (i + 1) := SetOf_congr hs2 grow (by show (if (xs.take i).any (· == xs.getD i Str.empty) = true then i else i + 1) = i + 1; rw [new]; rfl)
    refine wpAny_pure ⟨plainId_quiet PyProof.Rows.F.plain_set_update_loop _, ih (i + 1) _ (by omega) (W.frame _ s' _ _ st' (Nat.le_succ _) fun b hb o z => ?_) hs3 fun s2 mv2 q => fin s2 ?_ q⟩
    · rw [sb.2 b fun y => off (y ▸ hb)]
      exact z
    · refine Moved.trans W.gtrans ((mv.mono fun b hb => List.mem_cons_of_mem _ hb).then_heap (Nat.le_succ _) fun b o hb z => ?_) mv2
      rw [sb.2 b fun y => hb (by rw [y]; exact List.mem_cons_self)]
      exact z
end
/-- an empty set, newly laid -/
abbrev emptySet (led : Bool) : Obj := { cls := .type "set", dict := none, data := .set #[] 0 (.fresh 0 0 led) }
section
variable {P : Program} {w : World} {A : Around} {E : Value → Shared → Prop} {s : Shared} {l : Addr} {its : Array Value} {xs : List Str}
/-- what is wanted of it: a set at the next place, of these texts; all else as it was -/
abbrev SetMade (P : Program) (w : World) (s : Shared) (xs : List Str) (s' : Shared) : Prop :=
  ∃ h' tk, s' = { s with heap := h', toks := tk } ∧ HasS P w h' s.heap.objs.size xs xs.length ∧ ∀ b o, b < s.heap.objs.size → s.heap.get? b = some o → h'.get? b = some o
theorem setInit {led : Bool} {Q : Fin → Shared → Prop} (calm : A.handled = none) (hl : s.heap.IsList l its) (ht : StrsAre its.toList xs) (nd : xs.Nodup) (few : xs.length + 1 < scanBound)
    (h : ∀ s', SetMade P w s xs s' → Q (.done (.ret .none)) s') :
    wpAny (model P w) A (Builtin.«set.__init__» ⟨[.ref s.heap.objs.size, .ref l], []⟩) Q E { s with heap := s.heap.push (emptySet led) } := by
  obtain ⟨⟨oc, od, odt, osl⟩, hol, hcl, nl, hdl⟩ := hl
  dsimp only at hcl hdl
  subst hcl hdl
  have hS : (s.heap.push (emptySet led)).get? s.heap.objs.size = some (emptySet led) := Heap.get?_push_size _ rfl
  have hT : Shared.TypeIs { s with heap := s.heap.push (emptySet led) } (.ref s.heap.objs.size) "set" := ⟨_, hS, rfl⟩
  have hol' : (s.heap.push (emptySet led)).get? l = some { cls := .type "list", dict := od, data := .seq its nl, slots := osl } := Heap.get?_push_of_some _ hol
  have f1 := F.sub_list_set
  have f2 := F.sub_list_frozenset
  have f3 : (Value.type "list" == Value.type "dict") = false := by decide
  have hl1 : (s.heap.push (emptySet led)).IsList l its := ⟨_, hol', rfl, nl, rfl⟩
  unfold Builtin.«set.__init__» noKeywords Builtin.Frozenset.updateFrom
  generalize hPI : pyIter = PI
  wp_walk
  subst hPI
  refine wpAny_pyIter_list hl1 (wpAny_bind (wpAny_runValue ?_))
  have lS : l < s.heap.objs.size := Heap.lt_size hol
  have calm3 : A.in1.handled = none := by simp [calm]
  have nI : l ≠ (s.heap.push (emptySet led)).objs.size := by
    rw [Heap.size_push]
    exact Nat.ne_of_lt (Nat.lt_succ_of_lt lS)
  have off : s.heap.objs.size ∉ [(s.heap.push (emptySet led)).objs.size, l] := by
    rw [Heap.size_push]
    simp only [List.mem_cons, List.not_mem_nil, or_false, not_or]
    exact ⟨Nat.ne_of_lt (Nat.lt_succ_self _), Nat.ne_of_gt lS⟩
  have sz : xs.length = its.size := by rw [← StrsAre.len_eq ht, Array.length_toList]
  refine fillS ((Walks.list calm3 _ l nI its).toS) off nd sz (by omega) (fun i v hv => SS.strs_at ht i v (by rw [Array.getElem?_toList]; exact hv)) its.size 0 _ (Nat.zero_add _) ?_ ?_ fun s' mv q => ?_
  · exact ⟨⟨_, Heap.get?_push_size _ rfl, rfl, rfl⟩, hl1.push _⟩
  · exact SetOf_congr ((setObjOf_fresh (knd := PySem.strKind P w) led).setOf (Heap.get?_push_of_some _ hS) (by unfold scanBound; omega)) (fun _ => rfl) rfl
  · obtain ⟨h', g', d', tk', os'⟩ := s'
    obtain rfl : g' = s.gens := mv.gens
    obtain rfl : d' = s.drawn := mv.drawn
    obtain rfl : os' = s.os := mv.os
    show wpAny _ _ _ _ _ _
    refine wpAny_pure ?_
    show wpAny _ _ (ret Value.none) _ _ _
    refine wpAny_pure (h _ ⟨h', tk', rfl, by rw [sz]; exact q, fun b o hb z => mv.heap b o ?_ (Heap.get?_push_of_some _ (Heap.get?_push_of_some _ z))⟩)
    simp only [List.mem_cons, List.not_mem_nil, or_false, not_or]
    rw [Heap.size_push]
    exact ⟨Nat.ne_of_lt hb, Nat.ne_of_lt (Nat.lt_succ_of_lt hb)⟩
theorem setOfTexts {Q : Value → Shared → Prop} (calm : A.handled = none) (hl : s.heap.IsList l its) (ht : StrsAre its.toList xs) (nd : xs.Nodup) (few : xs.length + 1 < scanBound)
    (h : ∀ s', SetMade P w s xs s' → Q (.ref s.heap.objs.size) s') : wpAny (model P w) A (call (.type "set") [.ref l]) Q E s := by
  obtain ⟨c, tl, mro⟩ := F.called_set.mro
  have g1 := F.called_set.made
  have g2 := F.called_set.sub
  refine wpAny_call (codeAny_of_tree ?_)
  show wpAny _ _ (callAny (.type "set") _) _ _ _
  refine wpAny_pure ⟨Code.quiet_builtin _ (by decide +kernel), codeAny_builtin F.entry_type_call ?_⟩
  rw [Around.under_plain (weight_type_call_type "set" [.ref l] []) rfl]
  have g3 := F.called_set.notType
  have g4 := F.called_set.canCreate
  have g5 := F.typeCall_set_1 (.ref l)
  repeat (any_goals (first | assumption | wp_step))
  refine codeAny_mono (code_set_new_1 (.ref l) (E := E) (Q₁ := fun o s1 => ∃ led : Bool, o = .ref s.heap.objs.size ∧ s1 = { s with heap := s.heap.push (emptySet led) }) fun led => ⟨led, rfl, rfl⟩) fun r s1 hr => ?_
  cases r with
  | error e => exact hr
  | ok fl =>
    cases fl with
    | ret o =>
      obtain ⟨led, rfl, rfl⟩ := hr
      have hT : Shared.TypeIs { s with heap := s.heap.push (emptySet led) } (.ref s.heap.objs.size) "set" := ⟨_, Heap.get?_push_size _ rfl, rfl⟩
      have g6 := F.called_set.init.lookup
      have g7 := F.called_set.init.bind (.ref s.heap.objs.size)
      repeat (any_goals (first | assumption | wp_step))
      refine codeAny_mono (codeAny_call_builtin (R := wants (fun r s2 => r = .none ∧ SetMade P w s xs s2) E) F.called_set.init.plain F.entry_set_init (check_set_init_1 hT (setInit (by simp [calm]) hl ht nd few fun s2 q => ⟨rfl, q⟩))) fun r2 s2 hr2 => ?_
      cases r2 with
      | error e => exact hr2
      | ok f2 =>
        cases f2 with
        | ret v =>
          obtain ⟨rfl, q⟩ := hr2
          repeat (any_goals (first | assumption | wp_step))
          exact h _ q
        | _ => exact hr2.elim
    | _ => exact hr.elim
end
/-- len(set(xs)), xs a list of distinct texts -/
def tCount (K : PySem.W.Frag) (ta : TE) : TE := fun σ H Q => ta σ H fun x H1 => ∃ (l : Addr) (xs : List Str), x = .ref l ∧ SqL K H1 l (xs.map V.str) ∧ xs.Nodup ∧ xs.length ≤ 4000 ∧ Q (.int xs.length) H1
theorem pe_count {X : Cx} {a : Expr} {ta : TE} {p p2 q pos : Pos} (hc : X.calm = true) (hg : Gl X "len") (hm : X.mg "len" = none) (hg2 : Gl X "set") (hm2 : X.mg "set" = none) (ha : PE X a ta)
    (na : starEach [a] X.env = (false, eval a X.env) :: starEach [] X.env := by rfl) : PE X (.Call (.Name "len" p) [.Call (.Name "set" p2) [a] [] q] [] pos) (tCount X.K ta) := by
  refine ⟨fun pins s σ H Q I h => ?_⟩
  refine Call_ (ld_blt I hg hm boot_len (PyProof.Rows.callWith_builtin1 (PyProof.Rows.args_cons ?_ rfl) rfl rfl))
  refine Call_ (ld_blt I hg2 hm2 boot_set (PyProof.Rows.callWith_type1 (PyProof.Rows.args_cons (thn (ha.run pins s σ H _ I h) fun v s1 hh => PyProof.Rows.args_nil ?_) na) na rfl))
  obtain ⟨x, H1, I1, r1, l, xs, rfl, hq, nd, few, q1⟩ := hh
  cases r1
  obtain ⟨its, r, pl, hz⟩ := I1.list hq
  refine setOfTexts (I1.ok.hd hc) pl.isList (by simpa using strsAre_of r) nd (by unfold scanBound; omega) fun s' hs => PyProof.Rows.args_nil ?_
  obtain ⟨h', tk, rfl, ⟨o, es, ep, t, ho, hex, hd, _, _, _, hf, hn⟩, hk⟩ := hs
  have I2 : Inv X pins σ H1 { s1 with heap := h', toks := tk } := I1.kept fun b o z => hk b o (Heap.lt_size z) z
  exact call_len_set ho hex hd hf (by rw [hn]; omega) ⟨.int xs.length, H1, I2.tok _, ⟨_, by rw [hn]⟩, q1⟩
/-- xs + ys, lists that are read -/
def rCatL (K : PySem.W.Frag) : R2 := fun x y H Q => ∃ l b xs zs, x = .ref l ∧ y = .ref b ∧ SqL K H l xs ∧ SqL K H b zs ∧ xs.length + zs.length ≤ sizeLine ∧ ∀ p, H p = none → Q (.ref p) (upd H p (.lst (xs ++ zs)))
theorem op_catL {X : Cx} : OpR X (binaryOp .Add) (rCatL X.K) := by
  intro pins s σ H x y v u Q I rx ry h
  obtain ⟨l, b, xs, zs, rfl, rfl, h1, h2, hz, q⟩ := h
  cases rx
  cases ry
  obtain ⟨is, r1, ⟨⟨c1, d1, t1, s1⟩, n1, e1, k1, _, m1⟩, _⟩ := I.list h1
  obtain ⟨js, r2, ⟨⟨c2, d2, t2, s2⟩, n2, e2, k2, _, m2⟩, _⟩ := I.list h2
  dsimp only at k1 m1 k2 m2
  subst k1 m1 k2 m2
  have l1 := r1.length
  have l2 := r2.length
  refine concat_meets ⟨_, e1, rfl⟩ ⟨_, e2, rfl⟩ noFill_list_add seq_list_add F.slot_list_add F.entry_list_add (F.args_list_add_2 _ _)
    (list_addW l b is.toArray js.toArray n1 n2 d1 d2 s1 s2 (by simp only [List.size_toArray]; omega)) ⟨e1, e2, ?_⟩
  have ea : is.toArray ++ js.toArray = (is ++ js).toArray := by simp
  rw [ea]
  exact ⟨.ref _, _, I.lnew (t' := s.toks) (r1.append r2) (by rw [List.length_append]; omega), rfl, q _ I.fresh⟩
end Lf

set_option Elab.async false
set_option linter.all false
set_option maxRecDepth 100000
set_option maxHeartbeats 4000000
/-! set(xs) of ints, a list or a tuple, repeated ones too; sorted(set(xs)). -/
namespace Lf
open PySem PySem.Spec PyProof.Rows L2
/-- the set at a is that of the first i numbers -/
def HasI (w : World) (h : Heap) (a : Addr) (ns : List Int) (i : Nat) : Prop := ∃ m, m ≤ i ∧ SetR w h a (fun k => decide (k ∈ ns.take i)) m
theorem ints_at : ∀ {us : List Value} {ns : List Int}, IntsAre us ns → ∀ (i : Nat) (v : Value), us[i]? = some v → ∃ t, v = .int (ns.getD i 0) t
  | _, _, .nil, i, v, h => by simp at h
  | _, _, .cons n t r, 0, v, h => ⟨t, by rw [← Option.some.inj h]; rfl⟩
  | _, _, .cons n t r, i + 1, v, h => by
    obtain ⟨t', e⟩ := ints_at r i v (by simpa using h)
    exact ⟨t', by rw [e]; rfl⟩
theorem ints_len : ∀ {us : List Value} {ns : List Int}, IntsAre us ns → us.length = ns.length
  | _, _, .nil => rfl
  | _, _, .cons n t r => by simp [ints_len r]
section
variable {P : Program} {w : World} {A : Around} {R : Result → Shared → Prop} {It : Addr} {fp wr : List Addr} {G : Array GenState → Array GenState → Prop} {n : Nat} {Pv : Nat → Value → Prop} {Sv : Nat → Shared → Prop}
theorem HasI.at {h h' : Heap} {a : Addr} {ns : List Int} {i : Nat} (r : HasI w h a ns i) (k : ∀ o, h.get? a = some o → h'.get? a = some o) : HasI w h' a ns i := by
  obtain ⟨m, le, r⟩ := r
  exact ⟨m, le, r.at k⟩
/-- the loop that fills a set of ints -/
theorem fillI (W : WalksS P w A.in1 It fp wr G n Pv Sv) {a : Addr} (off : a ∉ fp) {ns : List Int} (len : ns.length = n) (few : n + 1 < scanBound)
    (read : ∀ i v, Pv i v → ∃ t, v = .int (ns.getD i 0) t) : ∀ (m i : Nat) (s : Shared), i + m = n → Sv i s → HasI w s.heap a ns i →
      (∀ s', Moved (a :: wr) G s s' → HasI w s'.heap a ns n → R (.ok (.ret .none)) s') →
      codeAny (model P w) A (.builtin "set.update.loop" ⟨[.ref a, .ref It], []⟩) R s := by
  have offw : a ∉ wr := fun z => off (W.sub _ z)
  intro m
  induction m with
  | zero =>
    intro i s e st hs fin
    obtain rfl : i = n := by omega
    refine codeAny_builtin PyProof.Rows.F.entry_set_update_loop ?_
    rw [Around.under_plainId PyProof.Rows.F.plain_set_update_loop _]
    show wpAny _ _ (pyNext (.ref It) >>= _) _ _ _
    exact wpAny_bind (W.done s _ _ st fun s' mv => wpAny_pure (fin s' (mv.mono fun b hb => List.mem_cons_of_mem _ hb) (hs.at fun o z => mv.heap a o offw z)))
  | succ m ih =>
    intro i s e st hs fin
    have hi : i < n := by omega
    refine codeAny_builtin PyProof.Rows.F.entry_set_update_loop ?_
    rw [Around.under_plainId PyProof.Rows.F.plain_set_update_loop _]
    show wpAny _ _ (pyNext (.ref It) >>= _) _ _ _
    refine wpAny_bind (W.item i s _ _ hi st fun v s' pv st' mv => ?_)
    obtain ⟨t, rfl⟩ := read i v pv
    obtain ⟨c, lc, hs'⟩ := hs.at (h' := s'.heap) fun o z => mv.heap a o offw z
    show wpAny _ _ (holding [Value.int _ t] (setAdd a (.int _ t)) >>= _) _ _ _
    refine wpAny_bind (wpAny_holding ?_)
    unfold setAdd
    refine wpAny_holding (wpAny_bind ((PySem.intKind P w).pyHash (intKind_is _ _ _ _) ?_))
    refine setR_add_hashed (s := { s' with toks := s'.toks + 1 }) hs' (by omega) fun h' sb hs2 => ?_
    have hs3 : HasI w h' a ns (i + 1) := by
      refine ⟨_, ?_, hs2.congr fun k => ?_⟩
      · split <;> omega
      · have e : ns.take (i + 1) = ns.take i ++ [ns.getD i 0] := by
          rw [List.take_succ_eq_append_getElem (by omega), List.getD_eq_getElem?_getD, List.getElem?_eq_getElem (by omega)]
          rfl
        rw [e]
        simp
    refine wpAny_pure ⟨plainId_quiet PyProof.Rows.F.plain_set_update_loop _, ih (i + 1) _ (by omega) (W.frame _ s' _ _ st' (Nat.le_succ _) fun b hb o z => ?_) hs3 fun s2 mv2 q => fin s2 ?_ q⟩
    · rw [sb.2 b fun y => off (y ▸ hb)]
      exact z
    · refine Moved.trans W.gtrans ((mv.mono fun b hb => List.mem_cons_of_mem _ hb).then_heap (Nat.le_succ _) fun b o hb z => ?_) mv2
      rw [sb.2 b fun y => hb (by rw [y]; exact List.mem_cons_self)]
      exact z
end
abbrev ledOf (w : World) : Bool := !w.params.followText "set-order"
section
variable {P : Program} {w : World} {A : Around} {E : Value → Shared → Prop} {s : Shared} {l : Addr} {its : Array Value} {ns : List Int}
abbrev IntSet (w : World) (s : Shared) (ns : List Int) (s' : Shared) : Prop :=
  ∃ h' tk, s' = { s with heap := h', toks := tk } ∧ HasI w h' s.heap.objs.size ns ns.length ∧ ∀ b o, b < s.heap.objs.size → s.heap.get? b = some o → h'.get? b = some o
theorem startI {w : World} {h : Heap} {ns : List Int} : HasI w (h.push (emptySet (ledOf w))) h.objs.size ns 0 := ⟨0, Nat.le_refl _, (setR_fresh w).congr fun k => by simp⟩
theorem setInitIL {Q : Fin → Shared → Prop} (calm : A.handled = none) (hl : s.heap.IsList l its) (ht : IntsAre its.toList ns) (few : ns.length + 1 < scanBound)
    (h : ∀ s', IntSet w s ns s' → Q (.done (.ret .none)) s') :
    wpAny (model P w) A (Builtin.«set.__init__» ⟨[.ref s.heap.objs.size, .ref l], []⟩) Q E { s with heap := s.heap.push (emptySet (ledOf w)) } := by
  obtain ⟨⟨oc, od, odt, osl⟩, hol, hcl, nl, hdl⟩ := hl
  dsimp only at hcl hdl
  subst hcl hdl
  have hS : (s.heap.push (emptySet (ledOf w))).get? s.heap.objs.size = some (emptySet (ledOf w)) := Heap.get?_push_size _ rfl
  have hT : Shared.TypeIs { s with heap := s.heap.push (emptySet (ledOf w)) } (.ref s.heap.objs.size) "set" := ⟨_, hS, rfl⟩
  have hol' : (s.heap.push (emptySet (ledOf w))).get? l = some { cls := .type "list", dict := od, data := .seq its nl, slots := osl } := Heap.get?_push_of_some _ hol
  have f1 := F.sub_list_set
  have f2 := F.sub_list_frozenset
  have f3 : (Value.type "list" == Value.type "dict") = false := by decide
  have hl1 : (s.heap.push (emptySet (ledOf w))).IsList l its := ⟨_, hol', rfl, nl, rfl⟩
  have st0 : HasI w (s.heap.push (emptySet (ledOf w))) s.heap.objs.size ns 0 := startI
  have lS : l < s.heap.objs.size := Heap.lt_size hol
  have sz : ns.length = its.size := by rw [← ints_len ht, Array.length_toList]
  generalize ledOf w = led at *
  unfold Builtin.«set.__init__» noKeywords Builtin.Frozenset.updateFrom
  generalize hPI : pyIter = PI
  wp_walk
  subst hPI
  refine wpAny_pyIter_list hl1 (wpAny_bind (wpAny_runValue ?_))
  have calm3 : A.in1.handled = none := by simp [calm]
  have nI : l ≠ (s.heap.push (emptySet led)).objs.size := by
    rw [Heap.size_push]
    exact Nat.ne_of_lt (Nat.lt_succ_of_lt lS)
  have off : s.heap.objs.size ∉ [(s.heap.push (emptySet led)).objs.size, l] := by
    rw [Heap.size_push]
    simp only [List.mem_cons, List.not_mem_nil, or_false, not_or]
    exact ⟨Nat.ne_of_lt (Nat.lt_succ_self _), Nat.ne_of_gt lS⟩
  refine fillI ((Walks.list calm3 _ l nI its).toS) off sz (by omega) (fun i v hv => ints_at ht i v (by rw [Array.getElem?_toList]; exact hv)) its.size 0 _ (Nat.zero_add _) ?_ ?_ fun s' mv q => ?_
  · exact ⟨⟨_, Heap.get?_push_size _ rfl, rfl, rfl⟩, hl1.push _⟩
  · exact st0.at fun o z => Heap.get?_push_of_some _ z
  · obtain ⟨h', g', d', tk', os'⟩ := s'
    obtain rfl : g' = s.gens := mv.gens
    obtain rfl : d' = s.drawn := mv.drawn
    obtain rfl : os' = s.os := mv.os
    show wpAny _ _ _ _ _ _
    refine wpAny_pure ?_
    show wpAny _ _ (ret Value.none) _ _ _
    refine wpAny_pure (h _ ⟨h', tk', rfl, by rw [sz]; exact q, fun b o hb z => mv.heap b o ?_ (Heap.get?_push_of_some _ (Heap.get?_push_of_some _ z))⟩)
    simp only [List.mem_cons, List.not_mem_nil, or_false, not_or]
    rw [Heap.size_push]
    exact ⟨Nat.ne_of_lt hb, Nat.ne_of_lt (Nat.lt_succ_of_lt hb)⟩
theorem setInitIT {Q : Fin → Shared → Prop} (calm : A.handled = none) (hl : s.heap.IsTuple l its) (ht : IntsAre its.toList ns) (few : ns.length + 1 < scanBound)
    (h : ∀ s', IntSet w s ns s' → Q (.done (.ret .none)) s') :
    wpAny (model P w) A (Builtin.«set.__init__» ⟨[.ref s.heap.objs.size, .ref l], []⟩) Q E { s with heap := s.heap.push (emptySet (ledOf w)) } := by
  obtain ⟨⟨oc, od, odt, osl⟩, hol, hcl, nl, hdl⟩ := hl
  dsimp only at hcl hdl
  subst hcl hdl
  have hS : (s.heap.push (emptySet (ledOf w))).get? s.heap.objs.size = some (emptySet (ledOf w)) := Heap.get?_push_size _ rfl
  have hT : Shared.TypeIs { s with heap := s.heap.push (emptySet (ledOf w)) } (.ref s.heap.objs.size) "set" := ⟨_, hS, rfl⟩
  have hol' : (s.heap.push (emptySet (ledOf w))).get? l = some { cls := .type "tuple", dict := od, data := .seq its nl, slots := osl } := Heap.get?_push_of_some _ hol
  have f1 := F.sub_tuple_set
  have f2 := F.sub_tuple_frozenset
  have f3 : (Value.type "tuple" == Value.type "dict") = false := by decide
  have hl1 : (s.heap.push (emptySet (ledOf w))).IsTuple l its := ⟨_, hol', rfl, nl, rfl⟩
  have st0 : HasI w (s.heap.push (emptySet (ledOf w))) s.heap.objs.size ns 0 := startI
  have lS : l < s.heap.objs.size := Heap.lt_size hol
  have sz : ns.length = its.size := by rw [← ints_len ht, Array.length_toList]
  generalize ledOf w = led at *
  unfold Builtin.«set.__init__» noKeywords Builtin.Frozenset.updateFrom
  generalize hPI : pyIter = PI
  wp_walk
  subst hPI
  refine wpAny_pyIter_tuple hl1 (wpAny_bind (wpAny_runValue ?_))
  have calm3 : A.in1.handled = none := by simp [calm]
  have nI : l ≠ (s.heap.push (emptySet led)).objs.size := by
    rw [Heap.size_push]
    exact Nat.ne_of_lt (Nat.lt_succ_of_lt lS)
  have off : s.heap.objs.size ∉ [(s.heap.push (emptySet led)).objs.size, l] := by
    rw [Heap.size_push]
    simp only [List.mem_cons, List.not_mem_nil, or_false, not_or]
    exact ⟨Nat.ne_of_lt (Nat.lt_succ_self _), Nat.ne_of_gt lS⟩
  refine fillI ((Walks.tuple calm3 _ l nI its).toS) off sz (by omega) (fun i v hv => ints_at ht i v (by rw [Array.getElem?_toList]; exact hv)) its.size 0 _ (Nat.zero_add _) ?_ ?_ fun s' mv q => ?_
  · exact ⟨⟨_, Heap.get?_push_size _ rfl, rfl, rfl⟩, hl1.push _⟩
  · exact st0.at fun o z => Heap.get?_push_of_some _ z
  · obtain ⟨h', g', d', tk', os'⟩ := s'
    obtain rfl : g' = s.gens := mv.gens
    obtain rfl : d' = s.drawn := mv.drawn
    obtain rfl : os' = s.os := mv.os
    show wpAny _ _ _ _ _ _
    refine wpAny_pure ?_
    show wpAny _ _ (ret Value.none) _ _ _
    refine wpAny_pure (h _ ⟨h', tk', rfl, by rw [sz]; exact q, fun b o hb z => mv.heap b o ?_ (Heap.get?_push_of_some _ (Heap.get?_push_of_some _ z))⟩)
    simp only [List.mem_cons, List.not_mem_nil, or_false, not_or]
    rw [Heap.size_push]
    exact ⟨Nat.ne_of_lt hb, Nat.ne_of_lt (Nat.lt_succ_of_lt hb)⟩
theorem newSetI (a : Value) {Q : Value → Shared → Prop} (h : Q (.ref s.heap.objs.size) { s with heap := s.heap.push (emptySet (ledOf w)) }) :
    codeAny (model P w) A (.call (.builtin "set.__new__") ⟨[.type "set", a], []⟩) (wants Q E) s := by
  refine codeAny_of_tree ?_
  show wpAny _ A.in1 (checkBuiltinCall "set.__new__" ⟨[.type "set", a], []⟩ >>= fun _ => again (.builtin "set.__new__" ⟨[.type "set", a], []⟩)) _ _ s
  refine wpAny_bind (wpAny_of_eq (F.newCall_set_1 a) (wpAny_pure ⟨plainId_quiet F.plain_set_new _, codeAny_builtin F.entry_set_new ?_⟩))
  rw [Around.under_plainId F.plain_set_new _]
  have sb := sub_set_self
  obtain ⟨h1, h2, h3, h4, h5⟩ := s
  unfold Builtin.«set.__new__» Builtin.Frozenset.newClass
  dsimp only
  wp_walk
  refine wpAny_askSetting (wpAny_pure ?_)
  simp only [newObj]
  exact wpAny_bind (wpAny_alloc (wpAny_pure (wpAny_pure h)))
theorem setOfInts {Q : Value → Shared → Prop} (calm : A.handled = none) (hl : s.heap.IsList l its ∨ s.heap.IsTuple l its) (ht : IntsAre its.toList ns) (few : ns.length + 1 < scanBound)
    (h : ∀ s', IntSet w s ns s' → Q (.ref s.heap.objs.size) s') : wpAny (model P w) A (call (.type "set") [.ref l]) Q E s := by
  obtain ⟨c, tl, mro⟩ := F.called_set.mro
  have g1 := F.called_set.made
  have g2 := F.called_set.sub
  refine wpAny_call (codeAny_of_tree ?_)
  show wpAny _ _ (callAny (.type "set") _) _ _ _
  refine wpAny_pure ⟨Code.quiet_builtin _ (by decide +kernel), codeAny_builtin F.entry_type_call ?_⟩
  rw [Around.under_plain (weight_type_call_type "set" [.ref l] []) rfl]
  have g3 := F.called_set.notType
  have g4 := F.called_set.canCreate
  have g5 := F.typeCall_set_1 (.ref l)
  repeat (any_goals (first | assumption | wp_step))
  refine codeAny_mono (newSetI (w := w) (.ref l) (E := E) (Q := fun o s1 => o = .ref s.heap.objs.size ∧ s1 = { s with heap := s.heap.push (emptySet (ledOf w)) }) ⟨rfl, rfl⟩) fun r s1 hr => ?_
  cases r with
  | error e => exact hr
  | ok fl =>
    cases fl with
    | ret o =>
      obtain ⟨rfl, rfl⟩ := hr
      have hT : Shared.TypeIs { s with heap := s.heap.push (emptySet (ledOf w)) } (.ref s.heap.objs.size) "set" := ⟨_, Heap.get?_push_size _ rfl, rfl⟩
      have g6 := F.called_set.init.lookup
      have g7 := F.called_set.init.bind (.ref s.heap.objs.size)
      repeat (any_goals (first | assumption | wp_step))
      refine codeAny_mono (codeAny_call_builtin (R := wants (fun r s2 => r = .none ∧ IntSet w s ns s2) E) F.called_set.init.plain F.entry_set_init (check_set_init_1 hT ?_)) fun r2 s2 hr2 => ?_
      · rcases hl with hl | hl
        · exact setInitIL (by simp [calm]) hl ht few fun s2 q => ⟨rfl, q⟩
        · exact setInitIT (by simp [calm]) hl ht few fun s2 q => ⟨rfl, q⟩
      · cases r2 with
        | error e => exact hr2
        | ok f2 =>
          cases f2 with
          | ret v =>
            obtain ⟨rfl, q⟩ := hr2
            repeat (any_goals (first | assumption | wp_step))
            exact h _ q
          | _ => exact hr2.elim
    | _ => exact hr.elim
end
/-- set(xs) of ints, a list or a tuple -/
def rSetI (K : PySem.W.Frag) (w : World) : List V → Hp → VK → Prop := fun xs H Q => ∃ (l : Addr) (ns : List Int), xs = [V.ref l] ∧ (SqL K H l (ns.map V.int) ∨ SqT K H l (ns.map V.int)) ∧ ns.length ≤ 4000 ∧
  ∀ p m, m ≤ ns.length → H p = none → Q (.ref p) (L2.upd H p (SetO w p (fun k => decide (k ∈ ns)) m))
theorem cr_setI {X : Cx} (hc : X.calm = true) : CallR X (.type "set") (rSetI X.K X.w) := by
  intro pins s σ H xs us Q I r h
  obtain ⟨l, ns, rfl, hq, few, q⟩ := h
  rw [Vals.ref1 r]
  have fin : ∀ (its : Array Value), (s.heap.IsList l its ∨ s.heap.IsTuple l its) → IntsAre its.toList ns → wpAny (model X.prog X.w) X.A (call (.type "set") [.ref l]) (EP X pins σ Q) X.xe s := fun its hl ht => by
    refine setOfInts (I.ok.hd hc) hl ht (by unfold scanBound; omega) fun s' hs => ?_
    obtain ⟨h', tk, rfl, ⟨m, lm, R⟩, hk⟩ := hs
    have R' : SetR X.w h' s.heap.objs.size (fun k => decide (k ∈ ns)) m := R.congr fun k => by rw [List.take_length]
    exact ⟨.ref _, _, I.laid (fun b u z => hk b u (Heap.lt_size z) z) (Nat.le_refl _) (setO_new R'), rfl, q _ m lm (I.hok.fresh (Nat.le_refl _))⟩
  rcases hq with hq | hq
  · obtain ⟨its, r, pl, hz⟩ := I.list hq
    exact fin _ (.inl pl.isList) (by simpa using Vals.ints r)
  · obtain ⟨its, r, pl, hz⟩ := I.tuple hq
    exact fin _ (.inr pl) (by simpa using Vals.ints r)
end Lf

set_option Elab.async false
set_option linter.all false
set_option maxRecDepth 100000
set_option maxHeartbeats 4000000
/-! Heaps that grow; data. -/
namespace Lf
open PySem PySem.Spec PyProof.Rows L2
/-- all but lists stay -/
def Solid (H H' : Hp) : Prop := ∀ b o, H b = some o → (∀ xs, o ≠ .lst xs) → H' b = some o
theorem Solid.refl (H : Hp) : Solid H H := fun _ _ h _ => h
theorem Solid.trans {H H1 H2 : Hp} (a : Solid H H1) (b : Solid H1 H2) : Solid H H2 := fun c o h n => b c o (a c o h n) n
theorem Solid.of {H H' : Hp} (e : Same H H') : Solid H H' := fun b o h _ => e b o h
theorem Solid.lst {H : Hp} {l : Addr} {xs ys : List V} (h : H l = some (.lst xs)) : Solid H (upd H l (.lst ys)) := fun b o e n => by
  rw [upd_ne (fun z => by rw [z, h] at e; cases e; exact n xs rfl)]
  exact e
theorem exo_nl {a C : Addr} {d : Option Addr} (xs : List V) : exo a C d ≠ .lst xs := fun z => by
  have z' : HO.ext _ = HO.lst xs := z
  cases z'
theorem exO_nl {a : Addr} {c : Value} (xs : List V) : ExO c a ≠ .lst xs := fun z => by
  have z' : HO.ext _ = HO.lst xs := z
  cases z'
theorem exd_nl {a : Addr} {fs : List (Str × V)} (xs : List V) : exd a fs ≠ .lst xs := fun z => by
  have z' : HO.ext _ = HO.lst xs := z
  cases z'
theorem XAt.solid {H H' : Hp} {a C : Addr} {d : Option Addr} (h : XAt H a C d) (s : Solid H H') : XAt H' a C d := by
  rcases h with h | ⟨e, h⟩
  · exact .inl (s _ _ h exo_nl)
  · exact .inr ⟨e, s _ _ h exO_nl⟩
/-- all but the thing at l stay -/
def But (l : Addr) (H H' : Hp) : Prop := ∀ b o, b ≠ l → H b = some o → H' b = some o
theorem But.refl {l : Addr} {H : Hp} : But l H H := fun _ _ _ h => h
theorem But.trans {l : Addr} {H H1 H2 : Hp} (a : But l H H1) (b : But l H1 H2) : But l H H2 := fun c o n h => b c o n (a c o n h)
theorem But.of {l : Addr} {H H' : Hp} (e : Same H H') : But l H H' := fun b o _ h => e b o h
theorem But.upd {l : Addr} {H : Hp} {o : HO} : But l H (upd H l o) := fun b u n h => by rw [upd_ne n]; exact h
theorem Same.but {l : Addr} {H0 H H' : Hp} (s : Same H0 H) (n : H0 l = none) (b : But l H H') : Same H0 H' := fun c o h => b c o (ne_of_none h n) (s c o h)
theorem SqT.same {K : PySem.W.Frag} {H H' : Hp} {a : Addr} {xs : List V} (e : Same H H') (h : SqT K H a xs) : SqT K H' a xs := by
  rcases h with (h | ⟨o, h⟩) | h
  · exact .inl (.inl (e _ _ h))
  · exact .inl (.inr ⟨o, e _ _ h⟩)
  · exact .inr h
theorem But.solid {l : Addr} {H H' : Hp} {xs : List V} (h : H l = some (.lst xs)) (b : But l H H') : Solid H H' := fun c o e n => b c o (fun z => by rw [z, h] at e; cases e; exact n xs rfl) e
theorem ifT {c : Bool} {A B : Prop} (hc : c = true) (h : A) : if c = true then A else B := by
  rw [if_pos hc]
  exact h
theorem ifF {c : Bool} {A B : Prop} (hc : c = false) (h : B) : if c = true then A else B := by
  rw [hc, if_neg Bool.false_ne_true]
  exact h
theorem pair_get {α β : Type} {F : α → β → Prop} : ∀ {as : List α} {bs : List β} {i : Nat} {a : α}, Paired F as bs → as[i]? = some a → ∃ b, bs[i]? = some b ∧ F a b
  | _, _, _, _, .nil, e => by simp at e
  | _, _, 0, _, .cons r _, e => by simp at e; subst e; exact ⟨_, rfl, r⟩
  | _, _, i + 1, a, .cons _ t, e => by
    obtain ⟨b, h1, h2⟩ := pair_get (i := i) (a := a) t (by simpa using e)
    exact ⟨b, by simpa using h1, h2⟩
theorem take_snoc {α : Type} {l : List α} {i : Nat} {x : α} (h : l[i]? = some x) : l.take (i + 1) = l.take i ++ [x] := by
  obtain ⟨hi, e⟩ := List.getElem?_eq_some_iff.mp h
  rw [← e]
  simp
theorem map_at {α : Type} {f : α → V} {l : List α} {i : Nat} {y : V} (h : (l.map f)[i]? = some y) : ∃ a, l[i]? = some a ∧ y = f a := by
  rw [List.getElem?_map] at h
  cases e : l[i]? with
  | none => rw [e] at h; cases h
  | some a => rw [e] at h; exact ⟨a, rfl, (Option.some.inj h).symm⟩
theorem eqv_same {d : PyData} (h : SeqAt.shaped d = true) : (!PyData.eqv d d) = false := by
  rw [SeqAt.eqv_refl d (SeqAt.canLay_of_shaped h)]
  rfl
mutual
theorem dp_same {K : PySem.W.Frag} {H H' : Hp} (e : Same H H') : ∀ {v : V} {d : PyData}, Dp K H v d → Dp K H' v d
  | _, _, .non => .non
  | _, _, .bl b => .bl b
  | _, _, .int i => .int i
  | _, _, .str x => .str x
  | _, _, .lst h r => .lst (L2.Same.seq e h) (dpAll_same e r)
  | _, _, .tup h r => .tup (SqT.same e h) (dpAll_same e r)
theorem dpAll_same {K : PySem.W.Frag} {H H' : Hp} (e : Same H H') : ∀ {vs : List V} {ds : List PyData}, DpAll K H vs ds → DpAll K H' vs ds
  | _, _, .nil => .nil
  | _, _, .cons h r => .cons (dp_same e h) (dpAll_same e r)
end
end Lf

set_option Elab.async false
set_option linter.all false
set_option maxRecDepth 100000
set_option maxHeartbeats 4000000
/-! for i, x in enumerate(t), t a tuple. -/
namespace Lf
open PySem PySem.Spec PyProof.Rows L2
set_option maxHeartbeats 8000000 in
theorem new_enum {v : Value} {o : Obj} {G : Heap → Prop} (B : Begins v o G) :
    Meets (Builtin.«enumerate.__new__» ⟨[.type "enumerate", v], []⟩) (fun _ R s => G s.heap ∧
      R (.ok (.ret (.ref (s.heap.push o).objs.size)))
        { s with heap := (s.heap.push o).push { cls := .type "enumerate", data := .fields #[.none, .bool false, .ref s.heap.objs.size, rawInt 0, .none, .none] } }) :=
  .of_wp fun prog w A R s hh => by
    obtain ⟨hp, g, d, tk, os⟩ := s
    obtain ⟨hg, fin⟩ := hh
    have sub := sub_enumerate
    have go : ∀ {A' : Around} {E' : Value → Shared → Prop} {Q' : Value → Shared → Prop}, Q' (.ref hp.objs.size) ⟨hp.push o, g, d, tk, os⟩ → wpAny (model prog w) A' (pyIter v) Q' E' ⟨hp, g, d, tk, os⟩ := fun q =>
      B.iter prog w _ _ ⟨hp, g, d, tk, os⟩ _ hg q
    wp_walk using go
    refine wpAny_stack_any fun st => wpAny_pure ?_
    split
    · rename_i c _ _ _ _ _
      cases (c == Value.type "enumerate") <;> (wp_walk using go; exact ⟨_, rfl, fin⟩)
    · wp_walk using go
      exact ⟨_, rfl, fin⟩
theorem call_enum {prog : Program} {w : World} {A : Around} {E : Value → Shared → Prop} {s : Shared} {v : Value} {o : Obj} {G : Heap → Prop} {Q : Value → Shared → Prop} (B : Begins v o G) (hg : G s.heap)
    (h : ∀ h', IsEnum h' (s.heap.objs.size + 1) s.heap.objs.size 0 .none → h'.get? s.heap.objs.size = some o → (∀ b u, s.heap.get? b = some u → h'.get? b = some u) → Q (.ref (s.heap.objs.size + 1)) { s with heap := h' }) :
    wpAny (model prog w) A (call (.type "enumerate") [v]) Q E s := by
  refine callType_new F.called_enumerate (by decide) (F.typeCall_enumerate_1 _) (F.newCall_enumerate_1 _) (fun x => F.args_object_init_2 x _) F.entry_enumerate_new (new_enum B) ⟨hg, ?_⟩
  have sz : (s.heap.push o).objs.size = s.heap.objs.size + 1 := Heap.size_push ..
  show _ ∧ _
  rw [sz]
  let e : Obj := { cls := .type "enumerate", data := .fields #[.none, .bool false, .ref s.heap.objs.size, rawInt 0, .none, .none] }
  have he : IsEnum ((s.heap.push o).push e) (s.heap.objs.size + 1) s.heap.objs.size 0 .none := by
    have z := Heap.get?_push_size (s.heap.push o) (o := e) rfl
    rw [sz] at z
    exact z
  exact ⟨⟨_, he, rfl⟩, h _ he (Heap.get?_push_of_some _ (Heap.get?_push_size _ B.free)) fun b u z => Heap.get?_push_of_some _ (Heap.get?_push_of_some _ z)⟩
/-- the tuple at a as it stands, its items in new pairs with their places -/
def Itet (K : PySem.W.Frag) (a : Addr) : It :=
  ⟨fun i H => ∃ (xs : List V) (x : V), SqT K H a xs ∧ xs[i]? = some x,
    fun i H v H' => ∃ T x, v = .ref T ∧ H T = none ∧ H' = upd H T (.tup [.int (i : Nat), x]) ∧ ∀ xs, SqT K H a xs → xs[i]? = some x,
    fun i H => ∃ xs : List V, SqT K H a xs ∧ xs.length = i⟩
theorem turn_enumT {P : Program} {w : World} {K : PySem.W.Frag} {elts : List Expr} {kk : Nat} {tpos : Pos} (a e it : Addr) :
    Turn P w K (.Tuple elts kk tpos) (Itet K a) [e, it] e (fun i h => (∃ old, IsEnum h e it ((i : Nat) : Int) old) ∧ h.IsTupleIter it a i ∧ e ≠ it ∧ a ≠ it ∧ a ≠ e) where
  mem := List.mem_cons_self
  obj := fun i h st b hb => by
    obtain ⟨⟨old, he⟩, ⟨o, ho, hc, hd⟩, _⟩ := st
    simp only [List.mem_cons, List.not_mem_nil, or_false] at hb
    rcases hb with rfl | rfl
    · exact ⟨_, he, fun v q => nomatch q⟩
    · exact ⟨o, ho, fun v q => by rw [hd] at q; cases q⟩
  keep := fun i h h' st k => by
    obtain ⟨⟨old, he⟩, hi, ne⟩ := st
    exact ⟨⟨old, k e (by simp) _ he⟩, hi.at fun o q => k it (by simp) o q, ne⟩
  item := by
    intro X hP hw hK hc i pins s σ H E I hf st hg
    subst hP hw hK
    obtain ⟨⟨old, he⟩, hit, ne, na, nae⟩ := st
    obtain ⟨xs, x, hq, hx⟩ := hg
    obtain ⟨its, rv, p, hz⟩ := I.tuple hq
    obtain ⟨u, hu, ru⟩ := rv.get hx
    have el : e < s.heap.objs.size := Heap.lt_size he
    have il : it < s.heap.objs.size := by obtain ⟨_, q, _⟩ := hit; exact Heap.lt_size q
    have calm : X.A.in1.handled = none := by have := I.ok.hd hc; simp [this]
    have hlt : i < its.toArray.size := by rw [List.size_toArray, ← rv.length]; exact (List.getElem?_eq_some_iff.mp hx).1
    refine wpAny_pyNext_enum_itemD (Draws.tuple (prog := X.prog) (w := X.w) calm it a na its.toArray) he ⟨hit, p⟩ hlt ne (by simp only [List.mem_cons, List.not_mem_nil, or_false, not_or]; exact ⟨ne, Ne.symm nae⟩) fun y h' tk hy ho st' hT hsz hk => ?_
    have ey : y = u := by
      have h1 : its[i]? = some y := by simpa using hy
      rw [hu] at h1
      exact (Option.some.inj h1).symm
    subst ey
    refine ⟨_, rfl, wpAny_letOwnedTupleGo_enum (s := { s with heap := h', toks := tk + 1 }) ho fun h'' he' sb => ?_⟩
    have hT2 := (sb.2 _ (Nat.ne_of_gt el)).trans hT
    have new : ObjOk X.prog X.w (upd H s.heap.objs.size (.tup [.int (i : Nat), x])) h'' s.heap.objs.size (.tup [.int (i : Nat), x]) :=
      ⟨by show 2 ≤ sizeLine; decide, [.int i tk, y], .cons ⟨_, rfl⟩ (.cons ru .nil), ⟨_, hT2, rfl, _, rfl⟩⟩
    have off : ∀ b, b ∉ [e, it] → b ≠ e ∧ b ≠ it := fun b hb => by
      simp only [List.mem_cons, List.not_mem_nil, or_false, not_or] at hb
      exact hb
    have I1 : Inv X pins σ (upd H s.heap.objs.size (.tup [.int (i : Nat), x])) { s with heap := h'', toks := tk + 1 } :=
      I.turnedNew (ch := [e, it]) (fun b ob hb q => (sb.2 b (off b hb).1).trans (hk b ob (off b hb).1 (off b hb).2 q)) hf (Nat.le_refl _) new
    refine ⟨.ref s.heap.objs.size, _, I1, rfl, ⟨_, x, rfl, I.hok.fresh (Nat.le_refl _), rfl, fun ys hy => by rw [I.tuple_inj hy hq]; exact hx⟩, ⟨⟨y, ?_⟩, st'.1.at fun o q => (sb.2 it (Ne.symm ne)).trans q, ne, na, nae⟩, fun b hb => ?_⟩
    · have z : ((i + 1 : Nat) : Int) = (i : Int) + 1 := by omega
      rw [z]
      exact he'
    · have lt : b < s.heap.objs.size := by
        simp only [List.mem_cons, List.not_mem_nil, or_false] at hb
        rcases hb with rfl | rfl
        · exact el
        · exact il
      rw [upd_ne (Nat.ne_of_lt lt)]
      exact (hf b hb).1
  done := by
    intro X hP hw hK hc i pins s σ H E I hf st hg
    subst hP hw hK
    obtain ⟨⟨old, he⟩, hit, ne, na, nae⟩ := st
    obtain ⟨xs, hq, hx⟩ := hg
    obtain ⟨its, rv, p, hz⟩ := I.tuple hq
    obtain ⟨f0, f1, f2, f3, f4, f5⟩ := hf it (by simp)
    have calm : X.A.in1.handled = none := by have := I.ok.hd hc; simp [this]
    have en : its.toArray.size = i := by rw [List.size_toArray, ← rv.length, hx]
    exact wpAny_pyNext_enum_endD (Draws.tuple (prog := X.prog) (w := X.w) calm it a na its.toArray) he (by rw [en]; exact ⟨hit, p⟩) fun h' eb => ⟨rfl, I.turned (t' := s.toks) (fun b o hb q => eb b o hb q) f0 f1 f3 f4 f5⟩
  self := fun A i s Q E st h => by
    obtain ⟨⟨_, he⟩, _⟩ := st
    exact wpAny_pyIter_enum he h
/-- enumerate(x), x a list or a tuple -/
def iEnumA (K : PySem.W.Frag) (ta : TE) : TI := fun σ H R => ta σ H fun x H1 => ∃ a xs, x = .ref a ∧ ((SqL K H1 a xs ∧ R (Ite K a) H1) ∨ (SqT K H1 a xs ∧ R (Itet K a) H1))
theorem pi_enumA {X : Cx} {e : Expr} {ta : TE} {p pos tpos : Pos} {elts : List Expr} {kk : Nat} (hg : Gl X "enumerate") (hm : X.mg "enumerate" = none) (ha : PE X e ta)
    (hs : starEach [e] X.env = [(false, eval e X.env)] := by rfl) : PI X (.Tuple elts kk tpos) (.Call (.Name "enumerate" p) [e] [] pos) (iEnumA X.K ta) := by
  refine ⟨fun pins s σ H R I h => ?_⟩
  refine Call_ (ld_blt I hg hm boot_enumerate (PyProof.Rows.callWith_type1 (thn ((pa_cons (PE.up ha) pa_nil hs).run pos pins s σ H (fun vs H1 => ∃ x, vs = [x] ∧ ∃ a xs, x = .ref a ∧ ((SqL X.K H1 a xs ∧ R (Ite X.K a) H1) ∨ (SqT X.K H1 a xs ∧ R (Itet X.K a) H1))) I ?_) fun us s1 hh => ?_) hs rfl))
  · exact ⟨_, h, fun v H' z => ⟨v, rfl, z⟩⟩
  obtain ⟨vs, H1, I1, r1, x, rfl, a, xs, rfl, q1⟩ := hh
  cases r1 with
  | cons r rr =>
    cases rr
    cases r
    have fp : ∀ b ∈ [s1.heap.objs.size + 1, s1.heap.objs.size], s1.heap.objs.size ≤ b := fun b hb => by
      simp only [List.mem_cons, List.not_mem_nil, or_false] at hb
      rcases hb with rfl | rfl
      · exact Nat.le_add_right _ _
      · exact Nat.le_refl _
    rcases q1 with ⟨hq, q⟩ | ⟨hq, q⟩
    · obtain ⟨its, rv, p', hz⟩ := I1.list hq
      refine call_enum (begins_list a its.toArray) p'.isList fun h' he hit hk => wpAny_pyIter_enum he ?_
      exact ⟨s1.heap.objs.size + 1, [s1.heap.objs.size + 1, s1.heap.objs.size], _, _, H1, rfl, I1.kept (t' := s1.toks) hk, turn_enum a (s1.heap.objs.size + 1) s1.heap.objs.size,
        ⟨⟨.none, he⟩, ⟨_, hit, rfl, rfl⟩, Nat.succ_ne_self _⟩, fun b hb => I1.fpOk (fp b hb) (I1.hok.fresh (fp b hb)), q⟩
    · obtain ⟨its, rv, p', hz⟩ := I1.tuple hq
      have al : a < s1.heap.objs.size := p'.lt
      refine call_enum (begins_tuple a its.toArray) p' fun h' he hit hk => wpAny_pyIter_enum he ?_
      exact ⟨s1.heap.objs.size + 1, [s1.heap.objs.size + 1, s1.heap.objs.size], _, _, H1, rfl, I1.kept (t' := s1.toks) hk, turn_enumT a (s1.heap.objs.size + 1) s1.heap.objs.size,
        ⟨⟨.none, he⟩, ⟨_, hit, rfl, rfl⟩, Nat.succ_ne_self _, Nat.ne_of_lt al, Nat.ne_of_lt (Nat.lt_succ_of_lt al)⟩, fun b hb => I1.fpOk (fp b hb) (I1.hok.fresh (fp b hb)), q⟩
/-- it gives each item of xs in a new pair with its place -/
theorem walk_enumT {K : PySem.W.Frag} {a : Addr} {xs : List V} : Walk (Itet K a) xs.length (fun H => SqT K H a xs)
    (fun i H v H' => ∃ T x, v = .ref T ∧ H T = none ∧ H' = upd H T (.tup [.int (i : Nat), x]) ∧ xs[i]? = some x) where
  goes := fun i H hi g => ⟨xs, _, g, List.getElem?_eq_getElem hi⟩
  stops := fun H g => ⟨xs, g, rfl⟩
  yields := fun i H x H' _ g y => by
    obtain ⟨T, z, e, n, eh, f⟩ := y
    exact ⟨T, z, e, n, eh, f xs g⟩
theorem walk_enumL {K : PySem.W.Frag} {a : Addr} {xs : List V} : Walk (Ite K a) xs.length (fun H => SqL K H a xs)
    (fun i H v H' => ∃ T x, v = .ref T ∧ H T = none ∧ H' = upd H T (.tup [.int (i : Nat), x]) ∧ xs[i]? = some x) where
  goes := fun i H hi g => ⟨xs, _, g, List.getElem?_eq_getElem hi⟩
  stops := fun H g => ⟨xs, g, Nat.le_refl _⟩
  yields := fun i H x H' _ g y => by
    obtain ⟨T, z, e, n, eh, f⟩ := y
    exact ⟨T, z, e, n, eh, f xs g⟩
end Lf

set_option Elab.async false
set_option linter.all false
set_option maxRecDepth 100000
set_option maxHeartbeats 8000000
/-! A binary operator by an own method, the other operand of any type; != by an own __eq__. -/
namespace Lf
open PySem PySem.Spec PyProof.Rows L2
section
open PySem.W
variable {prog : Program} {w : World} {A : Around} {E : Value → Shared → Prop} {s : Shared} {K : Frag} {x C L f : Addr} {h₀ : Heap} {m : Str → Option Value} {ox : Obj} {od : Option Obj}
/-- what is to be known of the other operand's type -/
structure Side (K : Frag) (C : Addr) (nm : String) (tb : Value) (right py : Bool) : Prop where
  ne : (Value.ref C == tb) = false
  fills : ∀ (M : Model) (h : Heap), K.In h → Looks M h (fillsNumberSlot tb nm) right
  sub : subIn K tb (.ref C) = some false
  inPy : right = true → ∀ (M : Model) (h : Heap), K.In h → Looks M h (numberSlotInPython tb nm) py
  refl : right = true → py = false → ∃ ro, findIn K tb (dunderR nm) = some ro
theorem bin_other {op : Operator} {b tb : Value} {rc : Option Value} {right py : Bool} {Q : Value → Shared → Prop} (F : Fr h₀ L s.heap m) (X₀ : K.In h₀) (I : InstAt s.heap x ox C od) (hc : selfFirst K C = true)
    (hs : findIn K (.ref C) (PySem.dunder op.info.2) = some (some (.ref f))) (hf : isFn K (.ref f) = true) (hr : findIn K (.ref C) (dunderR op.info.2) = some rc) (hp : rc = none ∨ ∃ g : Addr, rc = some (.ref g))
    (Lb : Looks (model prog w) s.heap (typeOf b) tb) (S : Side K C op.info.2 tb right py)
    (h : wpAny (model prog w) A (call (.ref f) [.ref x, b]) (PySem.W.CmpBack Q) E s) : wpAny (model prog w) A (binaryOp op (.ref x) b) Q E s := by
  have X := X₀.keeps F.keep
  obtain ⟨cd, rest, hcd, hm⟩ := ksp_first hc
  rcases hi : op.info with ⟨sym, nm'⟩
  rw [hi] at hs hr S
  dsimp only at hs hr S
  have one := ksp_try X I hs hf h
  obtain ⟨hh, g, d, tt, os⟩ := s
  have L1 : Looks (model prog w) hh (typeOf (.ref x)) (.ref C) := I.type
  have L3 : Looks (model prog w) hh (fillsNumberSlot (.ref C) nm') true := fills_K X hcd hm hs
  have L4 := S.fills (model prog w) hh X
  have L5 : Looks (model prog w) hh (isSubtype tb (.ref C)) false := looks_subIn X S.sub
  have L6 : Looks (model prog w) hh (numberSlotInPython (.ref C) nm') true := ksp_inPy X hs hr hp
  have hne := S.ne
  simp only [binaryOp, hi]
  refine wpAny_holding (wpAny_bind ?_)
  unfold binaryOp1
  refine wpAny_bind (L1.at (wpAny_bind (Lb.at (wpAny_bind (L3.at ?_)))))
  simp only [hne, Bool.false_eq_true, if_false]
  cases right with
  | false =>
    ksp_lk
    refine wpAny_mono one (fun r s' hr' => ?_) fun _ _ e => e
    obtain ⟨v, rfl, hq⟩ := hr'
    ksp_lk
    exact hq
  | true =>
    have L7 := S.inPy rfl (model prog w) hh X
    cases py with
    | true =>
      ksp_lk
      refine wpAny_mono one (fun r s' hr' => ?_) fun _ _ e => e
      obtain ⟨v, rfl, hq⟩ := hr'
      ksp_lk
      exact hq
    | false =>
      obtain ⟨ro, hro⟩ := S.refl rfl rfl
      have L8 : Looks (model prog w) hh (typeLookup tb (dunderR nm')) ro := looks_findIn X hro
      ksp_lk
      refine wpAny_mono one (fun r s' hr' => ?_) fun _ _ e => e
      obtain ⟨v, rfl, hq⟩ := hr'
      ksp_lk
      exact hq
end

/-- what is known of a class C with a method of its own for op -/
structure OwnOp (K : PySem.W.Frag) (C : Addr) (nm : String) (f : Addr) : Prop where
  first : PySem.W.selfFirst K C = true
  find : PySem.W.findIn K (.ref C) (PySem.dunder nm) = some (some (.ref f))
  fn : PySem.W.isFn K (.ref f) = true
  refl : PySem.W.findIn K (.ref C) (dunderR nm) = some none
def RightOf (K : PySem.W.Frag) (C : Addr) (nm : String) (t : Value) : Prop := t = .ref C ∨ ∃ right py, Side K C nm t right py
def rBin (K : PySem.W.Frag) (C : Addr) (nm : String) (sp : Sp) (E : XK) : R2 := fun x y H Q => ∃ a dx fs t, x = .ref a ∧ H a = some (.ins C dx fs) ∧ TyX K H y t ∧ RightOf K C nm t ∧ sp [.ref a, y] H Q E
theorem cmpBack {X : Cx} {pins : List (Addr × Obj)} {σ : L2.St} {Q : VK} {v : Value} {s : Shared} (h : EP X pins σ Q v s) : PySem.W.CmpBack (EP X pins σ Q) v s := by
  cases v with
  | notImplemented =>
    obtain ⟨z, H, I, r, q⟩ := h
    cases z <;> first | (obtain ⟨_, e⟩ := r; cases e; done) | (cases r; done)
  | _ => exact h
theorem op_own {X : Cx} {CX : CXT} {k : Nat} {f C : Addr} {fd : FuncData} {ps : List Str} {sp : Sp} {E : XK} {op : Operator} (O : OwnOp X.K C op.info.2 f) (F : FnOk X.prog X.w X.K X.mg X.base CX k f fd ps sp) (hr : Room k X.A)
    (hb : L2.Binds X.K fd ps []) (hx : Passes CX X E) : OpR X (binaryOp op) (rBin X.K C op.info.2 sp E) := by
  intro pins s σ H x y v u Q I rx ry hq
  obtain ⟨a, dx, fs, t, rfl, ha, ty, rt, h⟩ := hq
  cases rx
  obtain ⟨mA, J, _⟩ := ins_get I.hok ha
  obtain ⟨od, J, _⟩ := J.look
  obtain ⟨m, hF⟩ := I.fr
  obtain ⟨P, Z, hP, _⟩ := kit_of I ry ty
  have Lb := Z.ty (model X.prog X.w) s.heap I.kIn hP
  have run : wpAny (model X.prog X.w) X.A (call (.ref f) [.ref a, u]) (PySem.W.CmpBack (EP X pins σ Q)) X.xe s :=
    wpAny_mono (run_fn (us := [.ref a, u]) (vs := [.ref a, y]) F hr hb .nil hx I (.cons rfl (.cons ry .nil)) h) (fun _ _ q => cmpBack q) fun _ _ e => e
  rcases rt with rfl | ⟨right, py, S⟩
  · exact PySem.W.binop_K hF I.ok.mod.kin J Lb O.first O.find O.fn run
  · exact bin_other hF I.ok.mod.kin J O.first O.find O.fn O.refl (.inl rfl) Lb S run

section
open PySem.W
variable {prog : Program} {w : World} {A : Around} {E : Value → Shared → Prop} {s : Shared} {K : Frag} {x C L f : Addr} {h₀ : Heap} {m : Str → Option Value} {ox : Obj} {od : Option Obj}
theorem slotNe : PySem.Slot "object" "__ne__" "object.__ne__" := PySem.F.slot_object_ne
theorem ifBound_ne {b : Value} {Q : Option Value → Shared → Prop} (X : K.In s.heap) (I : InstAt s.heap x ox C od) (hf : findIn K (.ref C) "__ne__" = some (some (.builtin "object.__ne__")))
    (h : wpAny (model prog w) A (call (.builtin "object.__ne__") [.ref x, b]) (fun v => Q (some v)) E s) : wpAny (model prog w) A (callSpecialIfBound? (.ref x) "__ne__" [b]) Q E s := by
  simp only [callSpecialIfBound?, bindSpecialIfBound?]
  refine wpAny_holding (wpAny_bind (wpAny_bind (wpAny_bind (I.type.here ((looks_findIn X hf).here ?_)))))
  refine wpAny_bind (wpAny_askSetting (wpAny_ite ?_))
  have fin : wpAny (model prog w) A (call (.builtin "object.__ne__") ([.ref x] ++ [b]) >>= fun v => pure (some v)) Q E s := wpAny_bind (wpAny_mono h (fun v s' h' => wpAny_pure h') fun _ _ h' => h')
  rw [slotNe.bind]
  split
  · exact wpAny_bind (wpAny_pure (wpAny_pure (by exact fin)))
  · exact wpAny_tryCatch (wpAny_bind (wpAny_pure (wpAny_pure (by exact fin))))
theorem ne_body {b : Value} {Q : Fin → Shared → Prop} (hu : A.units < cLine) (X : K.In s.heap) (I : InstAt s.heap x ox C od) (hs : findIn K (.ref C) "__eq__" = some (some (.ref f))) (hf : isFn K (.ref f) = true)
    (h : wpAny (model prog w) A (call (.ref f) [.ref x, b]) (fun v s' => ∃ r, v = .bool r ∧ Q (.done (.ret (.bool (!r)))) s') E s) : wpAny (model prog w) A (Builtin.«object.__ne__» ⟨[.ref x, b], []⟩) Q E s := by
  unfold Builtin.«object.__ne__»
  refine wpAny_bind (wpAny_pure ?_)
  refine wpAny_bind (wpAny_cRoomFor hu ?_)
  refine wpAny_bind (ifBound_K X I hs hf (wpAny_mono h (fun v s' hv => ?_) fun _ _ e => e))
  obtain ⟨r, rfl, q⟩ := hv
  exact wpAny_bind (wpAny_truthy_bool (wpAny_pure q))

theorem call_ne {b : Value} {Q : Value → Shared → Prop} (hu : A.in1.units < cLine) (X : K.In s.heap) (I : InstAt s.heap x ox C od) (ho : subIn K (.ref C) (.type "object") = some true) (hs : findIn K (.ref C) "__eq__" = some (some (.ref f))) (hf : isFn K (.ref f) = true)
    (h : wpAny (model prog w) A.in1 (call (.ref f) [.ref x, b]) (fun v s' => ∃ r, v = .bool r ∧ Q (.bool (!r)) s') E s) : wpAny (model prog w) A (call (.builtin "object.__ne__") [.ref x, b]) Q E s := by
  refine wpAny_call (codeAny_call_builtin slotNe.plain PySem.F.cmpEntry_ne ?_)
  refine PySem.W.check_slot PySem.F.cmpKind_ne PySem.F.cmpSplit_ne (I.type.andThen (looks_subIn X ho)) (PySem.F.cmpArgs_ne _ _) ?_
  refine ne_body hu X I hs hf (wpAny_mono h (fun v s' hv => ?_) fun _ _ e => e)
  obtain ⟨r, rfl, q⟩ := hv
  exact ⟨r, rfl, q⟩
theorem rc_ne {b tb : Value} {Q : Value → Shared → Prop} (hu : A.units + 1 < cLine) (F : Fr h₀ L s.heap m) (X₀ : K.In h₀) (I : InstAt s.heap x ox C od) (hb : Looks (model prog w) s.heap (typeOf b) tb) (hn : notFirst K C tb = true) (ho : subIn K (.ref C) (.type "object") = some true)
    (hne : findIn K (.ref C) "__ne__" = some (some (.builtin "object.__ne__"))) (hs : findIn K (.ref C) "__eq__" = some (some (.ref f))) (hf : isFn K (.ref f) = true)
    (h : wpAny (model prog w) A.in1 (call (.ref f) [.ref x, b]) (fun v s' => ∃ r, v = .bool r ∧ Q (.bool (!r)) s') E s) : wpAny (model prog w) A (richCompare .NotEq (.ref x) b) Q E s := by
  have X := X₀.keeps F.keep
  have one : wpAny (model prog w) A (tryCompare (.ref x) "__ne__" b) (fun r s' => ∃ v, r = some v ∧ Q v s') E s := by
    unfold tryCompare
    refine wpAny_bind (ifBound_ne X I hne (call_ne hu X I ho hs hf (wpAny_mono h (fun v s' hv => ?_) fun _ _ e => e)))
    obtain ⟨r, rfl, q⟩ := hv
    exact ⟨r, rfl, wpAny_pure ⟨_, rfl, q⟩⟩
  unfold richCompare
  simp only [oneThing_ref]
  refine wpAny_holding (wpAny_bind (wpAny_cRoomFor (Nat.lt_of_succ_lt hu) ?_))
  refine wpAny_bind (I.type.here (wpAny_bind (hb.here ?_)))
  split
  · rename_i q
    have e : subIn K tb (.ref C) = some false := by
      rcases Bool.or_eq_true_iff.mp hn with e | e
      · rw [beq_iff_eq.mp e] at q; simp at q
      · exact beq_iff_eq.mp e
    refine wpAny_bind ((looks_subIn X e).here ?_)
    simp only [Bool.false_eq_true, if_false]
    refine wpAny_bind (wpAny_mono one (fun r s' z => ?_) fun _ _ e => e)
    obtain ⟨v, rfl, hq⟩ := z
    exact wpAny_pure hq
  · refine wpAny_bind (wpAny_pure ?_)
    simp only [Bool.false_eq_true, if_false]
    refine wpAny_bind (wpAny_mono one (fun r s' z => ?_) fun _ _ e => e)
    obtain ⟨v, rfl, hq⟩ := z
    exact wpAny_pure hq
end
/-- a function's promise kept below the running body -/
theorem run_sub {X : Cx} {CX : CXT} {k : Nat} {f : Addr} {fd : FuncData} {ps : List Str} {sp : Sp} {E : XK} {A : Around} (F : FnOk X.prog X.w X.K X.mg X.base CX k f fd ps sp) (sb : Sub X k A) (hb : L2.Binds X.K fd ps []) (hx : Passes CX X E)
    {pins : List (Addr × Obj)} {σ : L2.St} {H : Hp} {s : Shared} {Q : VK} {us : List Value} {vs : List V} (I : L2.Inv X pins σ H s) (r : Vals vs us) (h : sp vs H Q E) : wpAny (model X.prog X.w) A (call (.ref f) us) (EP X pins σ Q) X.xe s := by
  have hl := F.len _ _ _ _ h
  have e0 : Env0 X.prog X.w X.K X.mg X.base A X.stack s H := by
    have e := I.env0
    exact ⟨by rw [sb.fr]; exact e.frames, e.mod, e.bs, e.bsz, e.funs, e.frf, e.hok, e.bare⟩
  have hl2 : us.length = ps.length := by rw [← r.length]; exact hl
  refine wpAny_call (codeAny_mono (F.run A X.stack s H ⟨us, []⟩ us vs Q E sb.room e0 (by
    have := hb s us I.kIn (by simpa using hl2)
    simpa using this) r h) fun r s' hq => ?_)
  cases r with
  | error e => exact hx pins σ H s e s' I hq
  | ok fl =>
    cases fl with
    | ret u => exact I.after hq
    | next => exact False.elim hq
    | brk => exact False.elim hq
    | cont => exact False.elim hq
/-- what is known of a class with an own == and no own != -/
structure OwnEq (K : PySem.W.Frag) (C f : Addr) : Prop where
  eq : PySem.W.findIn K (.ref C) "__eq__" = some (some (.ref f))
  fn : PySem.W.isFn K (.ref f) = true
  ne : PySem.W.findIn K (.ref C) "__ne__" = some (some (.builtin "object.__ne__"))
  obj : PySem.W.subIn K (.ref C) (.type "object") = some true
/-- x == y of an instance x of C and any y whose class doesn't descend from C -/
def rOwnEq (K : PySem.W.Frag) (C : Addr) (sp : Sp) (E : XK) : R2 := fun x y H Q => ∃ a dx fs t, x = .ref a ∧ H a = some (.ins C dx fs) ∧ TyX K H y t ∧ PySem.W.notFirst K C t = true ∧ sp [.ref a, y] H Q E
def rOwnNe (K : PySem.W.Frag) (C : Addr) (sp : Sp) (E : XK) : R2 := fun x y H Q => ∃ a dx fs t, x = .ref a ∧ H a = some (.ins C dx fs) ∧ TyX K H y t ∧ PySem.W.notFirst K C t = true ∧ sp [.ref a, y] H (fun v H' => ∃ b, v = .bl b ∧ Q (.bl (!b)) H') E
section
variable {X : Cx} {CX : CXT} {k : Nat} {f C : Addr} {fd : FuncData} {ps : List Str} {sp : Sp} {E : XK}
theorem op_ownEq (O : OwnEq X.K C f) (F : FnOk X.prog X.w X.K X.mg X.base CX k f fd ps sp) (hr : Room k X.A) (hb : L2.Binds X.K fd ps []) (hx : Passes CX X E) : OpR X (compareOp .Eq) (rOwnEq X.K C sp E) := by
  intro pins s σ H x y v u Q I rx ry hq
  obtain ⟨a, dx, fs, t, rfl, ha, ty, nf, h⟩ := hq
  cases rx
  obtain ⟨mA, J, _⟩ := ins_get I.hok ha
  obtain ⟨od, J, _⟩ := J.look
  obtain ⟨m, hF⟩ := I.fr
  obtain ⟨P, Z, hP, _⟩ := kit_of I ry ty
  have run : wpAny (model X.prog X.w) X.A (call (.ref f) [.ref a, u]) (PySem.W.CmpBack (EP X pins σ Q)) X.xe s :=
    wpAny_mono (run_fn (us := [.ref a, u]) (vs := [.ref a, y]) F hr hb .nil hx I (.cons rfl (.cons ry .nil)) h) (fun _ _ q => cmpBack q) fun _ _ e => e
  show wpAny (model X.prog X.w) X.A (richCompare .Eq (.ref a) u) (EP X pins σ Q) X.xe s
  exact PySem.W.cmp_K (op := .Eq) hr.units0 hF I.ok.mod.kin J (Z.ty _ s.heap I.kIn hP) nf O.eq O.fn run
theorem op_ownNe (O : OwnEq X.K C f) (F : FnOk X.prog X.w X.K X.mg X.base CX k f fd ps sp) (hr : Room (k + 1) X.A) (hb : L2.Binds X.K fd ps []) (hx : Passes CX X E) : OpR X (compareOp .NotEq) (rOwnNe X.K C sp E) := by
  intro pins s σ H x y v u Q I rx ry hq
  obtain ⟨a, dx, fs, t, rfl, ha, ty, nf, h⟩ := hq
  cases rx
  obtain ⟨mA, J, _⟩ := ins_get I.hok ha
  obtain ⟨od, J, _⟩ := J.look
  obtain ⟨m, hF⟩ := I.fr
  obtain ⟨P, Z, hP, _⟩ := kit_of I ry ty
  have sb : Sub X k X.A.in1 := ⟨hr.in1, rfl⟩
  have run : wpAny (model X.prog X.w) X.A.in1 (call (.ref f) [.ref a, u]) (fun v s' => ∃ r, v = .bool r ∧ EP X pins σ Q (.bool (!r)) s') X.xe s :=
    wpAny_mono (run_sub (us := [.ref a, u]) (vs := [.ref a, y]) F sb hb hx I (.cons rfl (.cons ry .nil)) h) (fun v s' q => by
      obtain ⟨z, H', I', r, b, rfl, q⟩ := q
      cases r
      exact ⟨b, rfl, .bl (!b), H', I', rfl, q⟩) fun _ _ e => e
  show wpAny (model X.prog X.w) X.A (richCompare .NotEq (.ref a) u) (EP X pins σ Q) X.xe s
  exact rc_ne hr.in1.units0 hF I.ok.mod.kin J (Z.ty _ s.heap I.kIn hP) nf O.obj O.ne O.eq O.fn run
end

theorem dunder_mul : PySem.dunder "mul" = ("__mul__" : Str) := by decide +kernel
/-- what a head says of an own class with *, == and no reflected *, no != -/
def opsB (K : PySem.W.Frag) (owns : List Addr) (C : Addr) : Bool :=
  PySem.W.selfFirst K C && (decide (PySem.W.findIn K (.ref C) (dunderR "mul") = some none) && (decide (PySem.W.findIn K (.ref C) "__ne__" = some (some (.builtin "object.__ne__"))) && (decide (PySem.W.subIn K (.ref C) (.type "object") = some true) &&
  ((["NoneType", "int", "bool", "str", "list", "tuple"].all fun b => decide (PySem.W.subIn K (.type b) (.ref C) = some false)) && (owns.all fun D => decide (PySem.W.subIn K (.ref D) (.ref C) = some (decide (D = C))))))))
structure Ops (K : PySem.W.Frag) (owns : List Addr) (C : Addr) : Prop where
  first : PySem.W.selfFirst K C = true
  rmul : PySem.W.findIn K (.ref C) (dunderR "mul") = some none
  ne : PySem.W.findIn K (.ref C) "__ne__" = some (some (.builtin "object.__ne__"))
  obj : PySem.W.subIn K (.ref C) (.type "object") = some true
  tys : ∀ b ∈ ["NoneType", "int", "bool", "str", "list", "tuple"], PySem.W.subIn K (.type b) (.ref C) = some false
  own : ∀ D ∈ owns, PySem.W.subIn K (.ref D) (.ref C) = some (decide (D = C))
theorem ops_ok {K : PySem.W.Frag} {owns : List Addr} {C : Addr} (h : opsB K owns C = true) : Ops K owns C := by
  unfold opsB at h
  simp only [Bool.and_eq_true, decide_eq_true_eq, List.all_eq_true] at h
  obtain ⟨a, b, c, d, e, f⟩ := h
  exact ⟨a, b, c, d, e, f⟩
section
variable {K : PySem.W.Frag} {owns : List Addr} {C D f g : Addr}
theorem Ops.mul (o : Ops K owns C) (m : Meth K C "__mul__" f) : OwnOp K C "mul" f := ⟨o.first, by rw [dunder_mul]; exact m.at_, m.fn, o.rmul⟩
theorem Ops.eq (o : Ops K owns C) (m : Meth K C "__eq__" f) : OwnEq K C f := ⟨m.at_, m.fn, o.ne, o.obj⟩
theorem right_same : RightOf K C "mul" (.ref C) := .inl rfl
theorem Ops.right (o : Ops K owns C) (o2 : Ops K owns D) (m2 : Meth K D "__mul__" g) (hD : D ∈ owns) (ne : D ≠ C) : RightOf K C "mul" (.ref D) :=
  .inr ⟨true, true, ⟨Bool.eq_false_iff.mpr fun q => ne (by have := beq_iff_eq.mp q; injection this with this; exact this.symm), fun M h X => by
    obtain ⟨cd, rest, hcd, hm⟩ := PySem.W.ksp_first o2.first
    exact PySem.W.fills_K X hcd hm (o2.mul m2).find, by rw [o.own D hD, decide_eq_false ne], fun _ M h X => PySem.W.ksp_inPy X (o2.mul m2).find o2.rmul (.inl rfl), fun _ z => nomatch z⟩⟩
theorem Ops.rightT (o : Ops K owns C) {T : String} {fo ro : Option Value} (hT : T ∈ ["NoneType", "int", "bool", "str", "list", "tuple"]) (h1 : fastLookup T (PySem.dunder "mul") = some fo) (h2 : fastLookup T (dunderR "mul") = some ro) : RightOf K C "mul" (.type T) :=
  .inr ⟨_, false, ⟨Bool.eq_false_iff.mpr fun q => (nomatch beq_iff_eq.mp q), fun M h X => PySem.W.ksp_fillsT X h1 h2, o.tys T hT, fun _ M h X => PySem.W.Looks.of_pure rfl, fun _ _ => ⟨ro, h2⟩⟩⟩
theorem Ops.right_int (o : Ops K owns C) : RightOf K C "mul" (.type "int") := o.rightT (fo := some (.builtin "int.__mul__")) (ro := some (.builtin "int.__rmul__")) (by decide) (by kernel_rfl) (by kernel_rfl)
theorem Ops.right_none (o : Ops K owns C) : RightOf K C "mul" (.type "NoneType") := o.rightT (fo := none) (ro := none) (by decide) (by kernel_rfl) (by kernel_rfl)
theorem Ops.right_tuple (o : Ops K owns C) : RightOf K C "mul" (.type "tuple") := o.rightT (fo := some (.builtin "tuple.__mul__")) (ro := some (.builtin "tuple.__rmul__")) (by decide) (by kernel_rfl) (by kernel_rfl)
theorem Ops.right_list (o : Ops K owns C) : RightOf K C "mul" (.type "list") := o.rightT (fo := some (.builtin "list.__mul__")) (ro := some (.builtin "list.__rmul__")) (by decide) (by kernel_rfl) (by kernel_rfl)
theorem Ops.right_str (o : Ops K owns C) : RightOf K C "mul" (.type "str") := o.rightT (fo := some (.builtin "str.__mul__")) (ro := some (.builtin "str.__rmul__")) (by decide) (by kernel_rfl) (by kernel_rfl)
theorem Ops.notFirst (o : Ops K owns C) (hD : D ∈ owns) : PySem.W.notFirst K C (.ref D) = true := by
  unfold PySem.W.notFirst
  by_cases e : D = C
  · subst e
    simp
  · rw [o.own D hD, decide_eq_false e]
    simp
theorem Ops.notFirstT (o : Ops K owns C) {T : String} (hT : T ∈ ["NoneType", "int", "bool", "str", "list", "tuple"]) : PySem.W.notFirst K C (.type T) = true := by
  unfold PySem.W.notFirst
  rw [o.tys T hT]
  simp
end
end Lf

set_option Elab.async false
set_option linter.all false
set_option maxRecDepth 100000
set_option maxHeartbeats 4000000
/-! try: .. except X as e: .. except Y: ..; what a suite asks of e: isinstance, told(). -/
namespace Lf
open PySem PySem.Spec PyProof.Rows L2
/-- clauses: the first one by a name, the others without -/
def wAsM (K : PySem.W.Frag) (c : Value) (i : Nat) (ts : Addr → Value → Option Addr → TS) (rest : Ends → WX) (D : Ends) : WX := fun cls d σ H =>
  ∃ b, PySem.W.exmOne K cls c = some b ∧ (b = true → ∀ a, H a = none → ts a cls d ⟨fun σ' H' => D.nx (σ'.set i none) H', D.rt, fun σ' H' => D.bk (σ'.set i none) H', fun σ' H' => D.ct (σ'.set i none) H'⟩ (σ.set i (some (.ref a))) H) ∧ (b = false → rest D cls d σ H)
/-- with as many slots as there are names -/
def wLen (n : Nat) (W : WX) : WX := fun cls d σ H => σ.length = n → W cls d σ H
section
variable {X : Cx} {x n : Str} {c : Value} {i : Nat} {body suite : List Stmt} {b1 : Stmt} {np pos p3 : Pos} {tb : WX → TS} {ts : Addr → Value → Option Addr → TS} {Wout : WX} {more : List ExceptHandler} {l : List (Value × (Addr → Value → Option Addr → TS))}
theorem ps_try_asM (st : X.stack = X.env :: X.outer) (fr : X.env.frame = some X.env.locals) (nd : X.N.Nodup) (ni : X.N[i]? = some n) (kd : X.env.kindOf n = some .local) (nm : Names X x c) (tk : Takes X Wout)
    (inner : ∀ (W : WX) (pn : List (Addr × Obj)) (xe : Value → Shared → Prop), Takes (X.tr pn xe) W → PassesOwn (model X.prog X.w) X.A X.env xe → PSs (X.tr pn xe) body (tb W))
    (first : ∀ (a : Addr) (o : Obj) (cls : Value) (d : Option Addr) (pn : List (Addr × Obj)), Zc cls d o → (∃ vs, o.data = .fields vs) → PSs (X.suite a ((a, o) :: pn)) (b1 :: suite) (ts a cls d)) (others : HdsOk X more l) :
    PS X (.Try body (.ExceptHandler (some (.Name x np)) (some n) (b1 :: suite) p3 :: more) [] [] pos) (fun D σ H => tb (wLen X.N.length (wAsM X.K c i ts (fun D => wMany X.K Wout D l) D)) D σ H) := by
  refine ⟨fun pins s σ H D I0 h => ?_⟩
  have ok := I0.ok
  have fa : X.A.frames = some (X.env :: X.outer) := by rw [ok.frames, st]
  have lc : Loc X.env.scope n := .inl kd
  refine wpAny_Try_except ?_
  refine wpAny_mono ((inner (wLen X.N.length (wAsM X.K c i ts (fun D => wMany X.K Wout D l) D)) (X.pn ++ pins) (fun e s1 => wpAny (model X.prog X.w) X.A (noteFrame e X.env) (fun _ s2 => wpAny (model X.prog X.w) X.A (setFlight e none) (fun _ s3 =>
    wpAny (model X.prog X.w) X.A (handleBy e X.env (.ExceptHandler (some (.Name x np)) (some n) (b1 :: suite) p3 :: more)) (SP X pins D) X.xe s3) X.xe s2) X.xe s1) (fun u s' q => ?_) PassesOwn.looking).run [] s σ H D (I0.toTry _) h) (fun f s1 q => ?_) (fun e s1 q => q)
  · obtain ⟨a, B, sI, pins', σ', H', cls, d, rfl, J', nb, up, sky, na, os, ag, w⟩ := q
    have J0 : Inv X pins σ' H' sI := J'.ofTry ok
    have sk : Sky B (X.env :: X.outer) a (Zc cls d) X.env.locals s'.heap := by rw [← st]; exact sky
    show wpAny (model X.prog X.w) X.A (noteFrame (.ref a) X.env) _ _ _
    refine Sky.land Zc.steady fa fr sk fun h1 g1 u1 => ?_
    have J1 : Inv X pins σ' H' { s' with heap := h1 } := J0.landed nb g1.1 (up.trans u1) os ag
    obtain ⟨o1, v1, e1, z1, d1⟩ := g1.there
    have off : a ∉ frs (X.env :: X.outer) := fun hm => by
      obtain ⟨_, o', e', nf⟩ := g1.2.2.1.mem hm
      rw [e1] at e'
      cases e'
      exact nf _ d1
    have nL : a ≠ X.env.locals := fun z => off (List.mem_filterMap.mpr ⟨X.env, List.mem_cons_self, by rw [fr, z]⟩)
    have nF : a ∉ X.fs := fun hm => by
      obtain ⟨e, he, q⟩ := List.mem_filterMap.mp hm
      exact off (List.mem_filterMap.mpr ⟨e, List.mem_cons_of_mem _ he, q⟩)
    have S1 := J1.suite e1 d1 na nL nF
    have L1 : PySem.W.Looks (model X.prog X.w) h1 (typeOf (.ref a)) cls := fun A Q E s k q => wpAny_typeOf_ref (k _ _ e1) (by rw [z1.1]; exact q)
    have asks : ∀ {y : Str} {cv : Value} {yp : Pos} {Q : Value → Shared → Prop} {E : Value → Shared → Prop}, Names X y cv → Q cv { s' with heap := h1 } → wpAny (model X.prog X.w) (X.A.mark (some (.ref a))) (eval (.Name y yp) X.env) Q E { s' with heap := h1 } := fun {y cv yp Q E} nm q => by
      obtain ⟨hg, hb, hm | ⟨hm, hv, hn⟩⟩ := nm
      · exact ld_glob (X := X.suite a ((a, o1) :: (X.pn ++ pins))) S1 hg hm q hb
      · exact ld_blt (X := X.suite a ((a, o1) :: (X.pn ++ pins))) S1 hg hm hv q hn hb
    have rest : ∀ {hs : List ExceptHandler} {l' : List (Value × (Addr → Value → Option Addr → TS))}, HdsOk X hs l' → wMany X.K Wout D l' cls d σ' H' →
        wpAny (model X.prog X.w) X.A (handleBy (.ref a) X.env hs) (SP X pins D) X.xe { s' with heap := h1 } := by
      intro hs l' hk
      induction hk with
      | nil =>
        intro w
        refine wpAny_handleBy_nil ?_
        obtain ⟨k1, k2, k3, oe, vs, T, oT, ts', he, hz, hd, f1, hr⟩ := id g1
        unfold PySem.passOn
        refine wpAny_bind (wpAny_field he hd f1 ?_)
        rw [if_neg (show ¬ ((Value.ref T == Value.none) = true) from by simp)]
        have out : wpAny (model X.prog X.w) X.A (setFlight (.ref a) X.env.frame) (fun _ s4 => wpAny (model X.prog X.w) X.A (throw (.ref a) : Sem Flow) (SP X pins D) X.xe s4) X.xe { s' with heap := h1 } := by
          rw [fr]
          exact HandSPX.setFlight_upZ g1 fun h2 b2 u2 => wpAny_throw (tk _ _ ⟨a, B, sI, pins, σ', H', cls, d, rfl, J0, nb, (up.trans u1).trans u2, .inr (.inr (by rw [st]; exact b2)), na, os, ag, w⟩)
        first
          | exact wpAny_bind (wpAny_pure (wpAny_bind out))
          | exact wpAny_bind out
      | @cons y cv ts2 c1 suite2 yp p4 more2 l2 nm2 hsu r ih =>
        intro w
        obtain ⟨b, hb1, yes, no⟩ := w
        refine wpAny_handleBy_cons (codeAny_handlers_test ?_) (by intro q; cases q)
        refine asks nm2 ((PySem.W.exm_one (M := model X.prog X.w) J1.kIn L1 hb1).here ?_)
        cases b with
        | true =>
          refine codeAny_handlers_suite ?_
          refine HandSPX.lands_againZ g1 fun h2 g2 u2 => ?_
          have J2 : Inv X pins σ' H' { s' with heap := h2 } := J0.landed nb g2.1 ((up.trans u1).trans u2) os ag
          obtain ⟨o2, v2, e2, z2, d2⟩ := g2.there
          refine wpAny_mono ((hsu a o2 cls d (X.pn ++ pins) z2 ⟨_, d2⟩).run [] _ _ H' _ (J2.suite e2 d2 na nL nF) (yes rfl a na)) (fun f s6 q => ?_) (fun _ _ z => False.elim z)
          cases f with
          | ret u =>
            obtain ⟨v6, σ6, H6, S6, r6, q6⟩ := q
            exact ⟨_, _, _, S6.unsuite ok, r6, q6⟩
          | next => obtain ⟨σ6, H6, S6, q6⟩ := q; exact ⟨_, _, S6.unsuite ok, q6⟩
          | brk => obtain ⟨σ6, H6, S6, q6⟩ := q; exact ⟨_, _, S6.unsuite ok, q6⟩
          | cont => obtain ⟨σ6, H6, S6, q6⟩ := q; exact ⟨_, _, S6.unsuite ok, q6⟩
        | false =>
          show wpAny _ X.A (handleBy (.ref a) X.env more2) _ _ _
          exact ih (no rfl)
    obtain ⟨b, hb1, yes, no⟩ := w J0.len
    refine wpAny_handleBy_cons (codeAny_handlers_test ?_) (by intro q; cases q)
    refine asks nm ((PySem.W.exm_one (M := model X.prog X.w) J1.kIn L1 hb1).here ?_)
    cases b with
    | false =>
      show wpAny _ X.A (handleBy (.ref a) X.env more) _ _ _
      exact rest others (no rfl)
    | true =>
      refine codeAny_handlers_suite_as ?_
      refine HandSPX.lands_againZ g1 fun h2 g2 u2 => ?_
      have J2 : Inv X pins σ' H' { s' with heap := h2 } := J0.landed nb g2.1 ((up.trans u1).trans u2) os ag
      obtain ⟨o2, v2, e2, z2, d2⟩ := g2.there
      refine store_ok (X := X.suite a ((a, o2) :: (X.pn ++ pins))) (v := .ref a) (J2.suite e2 d2 na nL nF) nd ni lc rfl (fun s5 S5 => ?_) (.inr kd)
      refine wpAny_mono ((first a o2 cls d (X.pn ++ pins) z2 ⟨_, d2⟩).run [] s5 _ H' _ S5 (yes rfl a na)) (fun f s6 q => ?_) (fun _ _ z => False.elim z)
      have gone : ∀ {σ6 : L2.St} {H6 : Hp} {Q : Shared → Prop}, Inv (X.suite a ((a, o2) :: (X.pn ++ pins))) [] σ6 H6 s6 → (∀ s7, Inv X pins (σ6.set i none) H6 s7 → Q s7) →
          wpAny (model X.prog X.w) X.A (do bindName X.env n .none; unbindBehindTheSuite X.env n p3) (fun _ s7 => Q s7) X.xe s6 := fun {σ6 H6 Q} S6 hq => gone_ok (S6.unsuite ok) nd ni kd hq
      cases f with
      | ret u =>
        obtain ⟨v6, σ6, H6, S6, r6, q6⟩ := q
        exact gone S6 fun s7 J7 => ⟨_, _, _, J7, r6, q6⟩
      | next => obtain ⟨σ6, H6, S6, q6⟩ := q; exact gone S6 fun s7 J7 => ⟨_, _, J7, q6⟩
      | brk => obtain ⟨σ6, H6, S6, q6⟩ := q; exact gone S6 fun s7 J7 => ⟨_, _, J7, q6⟩
      | cont => obtain ⟨σ6, H6, S6, q6⟩ := q; exact gone S6 fun s7 J7 => ⟨_, _, J7, q6⟩
  · cases f with
    | ret u =>
      obtain ⟨v, σ', H', J', r, q⟩ := q
      exact ⟨v, σ', H', J'.ofTry ok, r, q⟩
    | next => obtain ⟨σ', H', J', q⟩ := q; exact wpAny_execs_nil ⟨σ', H', J'.ofTry ok, q⟩
    | brk => obtain ⟨σ', H', J', q⟩ := q; exact ⟨σ', H', J'.ofTry ok, q⟩
    | cont => obtain ⟨σ', H', J', q⟩ := q; exact ⟨σ', H', J'.ofTry ok, q⟩
end

/-- a block by a reading that is chosen when its slots and heap are known -/
theorem pss_some {X : Cx} {b : List Stmt} {ts : TS} (h : ∀ D σ H, ts D σ H → ∃ t, PSs X b t ∧ t D σ H) : PSs X b ts := ⟨fun pins s σ H D I q => by
  obtain ⟨t, p, z⟩ := h D σ H q
  exact p.run pins s σ H D I z⟩
theorem pe_some {X : Cx} {e : Expr} {te : TE} (h : ∀ σ H Q, te σ H Q → ∃ t, PE X e t ∧ t σ H Q) : PE X e te := ⟨fun pins s σ H Q I q => by
  obtain ⟨t, p, z⟩ := h σ H Q q
  exact p.run pins s σ H Q I z⟩

/-! ### a def called while an exception is handled: it raises nothing -/
structure FnW (P : Program) (w : World) (K : PySem.W.Frag) (mg : Str → Option Value) (base : Heap) (k : Nat) (f : Addr) (fd : FuncData) (ps : List Str) (sp : Sp) : Prop where
  len : ∀ vs H Q E, sp vs H Q E → vs.length = ps.length
  run : ∀ (A : Around) (outer : List Env) (s : Shared) (H : Hp) (args : Args) (us : List Value) (vs : List V) (Q : VK) (p : Addr × Obj), L2H.RoomH k A → L2H.PinOk outer H s p → Env0 P w K mg base A outer s H → BindsTo s fd args (ps.zip us) → Vals vs us → sp vs H Q E0 →
    codeAny (model P w) A (.call (.ref f) args) (CR CX0 outer P w H s Q E0) s
section
variable {P : Program} {w : World} {K : PySem.W.Frag} {mg : Str → Option Value} {base : Heap} {x qual : Str} {params : Arguments} {body : List Stmt} {scope : Scope} {dvs : List V} {kws : List (Str × V)} {f : Addr} {fd : FuncData}
theorem fnW_of {N ps : List Str} {k : Nat} {sp : Sp} (F : FunD K x qual params body scope dvs kws f fd) (S : FnScope N ps scope) (len : ∀ vs H Q E, sp vs H Q E → vs.length = ps.length)
    (hbody : ∀ (cdv : Value) (A : Around) (outer : List Env) (s : Shared) (H : Hp) (vs : List V) (Q : VK) (p : Addr × Obj), L2H.RoomH k (A.deeper (envOfC qual scope s.heap.objs.size f cdv)) → sp vs H Q E0 →
      ∃ t, PSs (L2H.cxH CX0 P w K mg base N qual scope f cdv A outer s H E0 p) body t ∧ t { nx := fun _ H' => Q .non H', rt := Q } (L2.start N vs) H) : FnW P w K mg base (k + 1) f fd ps sp := by
  obtain ⟨oc, od, dV, kV, doc, pm, an, cdv, ct, osl, rfl, lk, cd, _, _⟩ := F.ex
  refine ⟨len, fun A outer s H args us vs Q p room pin env bd rel told => ?_⟩
  have ln := len _ _ _ _ told
  have KX : K.In s.heap := env.mod.kin.keeps fun b o e => (env.bs b o e).1
  have kinds : ∀ y ∈ ps.zip us, scope.names.lookup y.1 = some .local ∨ (scope.names.lookup y.1 = some .cell ∧ ((cellsFrom (s.heap.objs.size + 1) scope.names []).lookup y.1).isSome = true) := fun ⟨m, v⟩ hy =>
    (S.par m (List.of_mem_zip hy).1).imp id fun q => ⟨q, PySem.W.cellsFrom_some _ _ _ (.inl q)⟩
  refine codeAny_call_function room.depth (KX _ _ lk) rfl S.co S.gen rfl (PySem.W.codeRec_of KX cd) (bd _ _ _ _ ?_)
  refine wpAny_newFunctionEnv_cells S.kind kinds fun en he s1 inC => ?_
  subst he
  refine ⟨(env.mod.nolimit.keeps fun b o e => (env.bs b o e).1).keeps inC.toInCall.keep, codeAny_func ?_⟩
  obtain ⟨t, ht, hq⟩ := hbody cdv A outer s H vs Q p (room.deeper _) told
  have I0 := L2H.inv_startH (CX := CX0) (E := E0) S pin env ln rel inC
  refine wpAny_mono (ht.run [] s1 (L2.start N vs) H _ I0 hq) (fun fl s' hs => ?_) fun e s' hs => hs
  cases fl with
  | ret u =>
    obtain ⟨v, σ', H', J, rv, q⟩ := hs
    exact ⟨v, H', J.os, J.bare, J.base, J.hok, rv, q⟩
  | next =>
    obtain ⟨σ', H', J, q⟩ := hs
    exact ⟨V.non, H', J.os, J.bare, J.base, J.hok, rfl, q⟩
  | brk => obtain ⟨_, _, _, q⟩ := hs; exact q.elim
  | cont => obtain ⟨_, _, _, q⟩ := hs; exact q.elim
/-- told() of one text, there -/
theorem told_okW {t : Str} {j : Nat} {p p2 : Pos} (F : FunD K "told" qual params [.Return (some (.Constant (.str t) j p)) p2] scope [] [] f fd) (S : FnScope ["self"] ["self"] scope) : FnW P w K mg base 1 f fd ["self"] (spTold t) := by
  refine fnW_of F S (fun vs H Q E h => ?_) (fun cdv A outer s H vs Q pp hr h => ?_)
  · obtain ⟨v, rfl, _⟩ := h
    rfl
  · obtain ⟨v, rfl, q⟩ := h
    exact ⟨_, pss_one (ps_ret pe_str), q⟩
end
section
variable {X : Cx} {a C f : Addr} {o1 : Obj} {pn : List (Addr × Obj)} {d : Option Addr} {m : Str} {fd : FuncData} {sp : Sp} {k : Nat}
/-- the caught error as an instance -/
theorem caught_inst {pins : List (Addr × Obj)} {σ : L2.St} {H : Hp} {s : Shared} (I : Inv (X.suite a ((a, o1) :: pn)) pins σ H s) (z : Zc (.ref C) d o1) (fl : ∃ vs, o1.data = .fields vs) (hd : ∀ dx, d = some dx → ∃ fs, H dx = some (exd dx fs) ∧ fs.lookup m = none) :
    ∃ od, PySem.W.InstAt s.heap a o1 C od ∧ PySem.W.shadowIn od m = some false := by
  obtain ⟨g, _⟩ := I.pin (a, o1) (List.mem_append_left _ List.mem_cons_self)
  obtain ⟨vs, hv⟩ := fl
  have nc : PySem.W.notCls o1 = true := by unfold PySem.W.notCls; rw [hv] <;> rfl
  cases d with
  | none => exact ⟨none, ⟨g, z.1, nc, by rw [z.2]; trivial⟩, rfl⟩
  | some dx =>
    obtain ⟨fs, e, lk⟩ := hd dx rfl
    obtain ⟨mA, ns, rel⟩ := exd_at I.hok e
    obtain ⟨od, h2, hk⟩ := lookIn_ns ns
    refine ⟨some od, ⟨g, z.1, nc, by rw [z.2]; exact h2⟩, ?_⟩
    have hm : mA m = none := by
      have r := rel m
      rw [lk] at r
      cases y : mA m with
      | none => rfl
      | some v => rw [y] at r; exact r.elim
    show (PySem.W.lookIn m od).map _ = _
    rw [hk, hm]
    rfl
def tToldC (a : Addr) (d : Option Addr) (m : Str) (sp : Sp) (te : TE) : TE := fun σ H Q => te σ H fun x H1 => x = .ref a ∧ (∀ dx, d = some dx → ∃ fs, H1 dx = some (exd dx fs) ∧ fs.lookup m = none) ∧ sp [.ref a] H1 Q E0
/-- e.m() of the caught error e -/
theorem pe_toldC {o : Expr} {te : TE} {pos apos : Pos} {pl : Sem Bool} (T : IsC X.K C) (M : Meth X.K C m f) (F : FnW X.prog X.w X.K X.mg X.base k f fd ["self"] sp) (hb : L2.Binds X.K fd ["self"] []) (hr : L2H.RoomH k X.A) (z : Zc (.ref C) d o1) (fl : ∃ vs, o1.data = .fields vs)
    (he : PE (X.suite a ((a, o1) :: pn)) o te)
    (ht : eval (.Call (.Attribute o m apos) [] [] pos) X.env = (do
      let ov ← eval o X.env
      standAt apos.atName
      let (f, first) ← holding [ov] (getMethod ov m pl)
      callWith pos f first (backTo pos (starEach [] X.env)) (backToKw pos (keywordEach [] X.env))) := by rfl) :
    PE (X.suite a ((a, o1) :: pn)) (.Call (.Attribute o m apos) [] [] pos) (tToldC a d m sp te) := by
  refine ⟨fun pins s σ H Q I h => ?_⟩
  refine PySem.W.methodCall_KW (pl := pl) (thn (he.run pins s σ H _ I h) fun u s1 hh => ?_) ht
  obtain ⟨x, H1, I1, rx, rfl, hd, q⟩ := hh
  obtain rfl : u = Value.ref a := rx
  obtain ⟨mm, fr⟩ := I1.fr
  obtain ⟨od, J, sh⟩ := caught_inst I1 z fl hd
  refine PySem.W.method_exc fr I1.ok.mod.kin J T.ga T.gg M.at_ M.fn sh (PySem.W.callWith_K0 (first := [.ref a]) I1.kIn M.kp ?_)
  have pin := I1.pin (a, o1) (List.mem_append_left _ List.mem_cons_self)
  have pk : L2H.PinOk (X.suite a ((a, o1) :: pn)).stack H1 s1 (a, o1) := ⟨pin.1, pin.2.1, fun hm => (List.mem_cons.mp (I1.stkSub _ hm)).elim pin.2.2.1 pin.2.2.2.1, pin.2.2.2.2⟩
  have room : L2H.RoomH k (X.suite a ((a, o1) :: pn)).A := ⟨hr.dp, hr.un⟩
  have bd := hb s1 [.ref a] I1.kIn rfl
  refine wpAny_call (codeAny_mono (F.run _ _ s1 H1 ⟨[.ref a], []⟩ [.ref a] [.ref a] Q (a, o1) room pk I1.env0 (by simpa using bd) (.cons rfl .nil) q) fun r s' hq => ?_)
  cases r with
  | error e => exact (show False from hq).elim
  | ok fl' =>
    cases fl' with
    | ret u => exact I1.after hq
    | next => exact hq.elim
    | brk => exact hq.elim
    | cont => exact hq.elim
/-- isinstance(e, c), e the caught error -/
def rIsC (K : PySem.W.Frag) (a C : Addr) (d : Option Addr) : List V → Hp → VK → Prop := fun xs H Q => ∃ (c : V) (cv : Value) (b : Bool),
  xs = [.ref a, c] ∧ ClsV c cv ∧ (∀ dx, d = some dx → ∃ fs, H dx = some (exd dx fs) ∧ fs.lookup ("__class__" : Str) = none) ∧ PySem.W.kitOne K (.ref C) cv = some b ∧ Q (.bl b) H
theorem call_isC (T : IsC X.K C) (z : Zc (.ref C) d o1) (fl : ∃ vs, o1.data = .fields vs) : CallR (X.suite a ((a, o1) :: pn)) (.builtin "isinstance") (rIsC X.K a C d) := by
  intro pins s σ H xs us Q I r h
  obtain ⟨c, cv, b, rfl, k, hd, e, q⟩ := h
  obtain ⟨u1, u2, rfl, r1, r2⟩ := vals2 r
  obtain rfl := k.eq r2
  obtain rfl : u1 = Value.ref a := r1
  obtain ⟨od, J, _⟩ := caught_inst I z fl hd
  exact PySem.W.kia_one (PySem.W.kitx_exc (od := od) T.cl T.ga T.gg T.sb T.ca T.sg T.tk T.ob) I.kIn J e (fun z => nomatch z)
    fun tk => ⟨.bl b, H, I.kept (t' := tk) fun _ _ z => z, rfl, q⟩
end
end Lf

set_option Elab.async false
set_option linter.all false
set_option maxRecDepth 100000
set_option maxHeartbeats 4000000
/-! A head by three kernel runs: the looks, the view, the facts; the facts over the objects at the addresses as. -/
namespace Lf
open PySem PySem.W PySem.Calls PyProof.Rows
/-- classes, dicts, functions and the rest, in this order -/
def isCl : Obj → Bool
  | ⟨_, _, .cls _, _⟩ => true
  | _ => false
def isDi : Obj → Bool
  | ⟨_, _, .dict _ _, _⟩ => true
  | _ => false
def isFu : Obj → Bool
  | ⟨_, _, .func _, _⟩ => true
  | _ => false
def isFi : Obj → Bool
  | ⟨_, _, .fields vs, _⟩ => !vs.isEmpty
  | _ => false
def sorted4 (l : Frag) : Frag := l.filter (fun q => isCl q.2) ++ (l.filter (fun q => isDi q.2) ++ (l.filter (fun q => isFu q.2) ++ l.filter fun q => isFi q.2))
theorem sorted4_sub {l : Frag} {q : Addr × Obj} (h : q ∈ sorted4 l) : q ∈ l := by
  unfold sorted4 at h
  simp only [List.mem_append, List.mem_filter] at h
  rcases h with h | h | h | h <;> exact h.1
def frR (g : Addr → Option Obj) (as : List Addr) : Frag := sorted4 (He.frG g as)
theorem frR_in {as : List Addr} {h : Heap} : (frR h.get? as).In h := fun _ _ e => He.frG_mem (sorted4_sub (He.lookup_mem e))
theorem frR_none {g : Addr → Option Obj} {as : List Addr} {a : Addr} {o : Obj} (h : g a = some o) (ht : He.emptyTab o = true) : (frR g as).lookup a = none := by
  cases e : (frR g as).lookup a with
  | none => rfl
  | some u =>
    have m := He.lookup_mem e
    have z := He.frG_mem (sorted4_sub m)
    rw [h] at z
    obtain rfl := Option.some.inj z
    rw [He.emptyTab_eq ht] at m
    unfold frR sorted4 at m
    simp only [List.mem_append, List.mem_filter] at m
    rcases m with m | m | m | m <;> exact absurd m.2 (by decide)
/-- what is told: the facts, the Bool, the defs' code tables: empty, not among the objects looked at -/
structure SaysR (fa : List He.Fa) (fn : List He.DefD) (tf : List He.Defn) (ex : Frag → Bool) (h : Heap) (K : Frag) : Prop where
  d : He.SaysD fa fn K
  m : ex K = true
  hd : ∀ p ∈ tf, codeHdIn K (He.cT K p).1 (He.cT K p).2 = true
  out : ∀ p ∈ tf, K.lookup (He.cT K p).2 = none
  empty : ∀ p ∈ tf, h.get? (He.cT K p).2 = some { cls := .none, data := .fields #[] }
def obsR (as : List Addr) (fa : List He.Fa) (fn : List He.DefD) (tf : List He.Defn) (ex : Frag → Bool) (g : Addr → Option Obj) : He.AlD × Bool :=
  (He.obsD fa fn (frR g as), ex (frR g as) && He.tabsB g tf (frR g as))
theorem saysR_of {as : List Addr} {fa : List He.Fa} {fn : List He.DefD} {tf : List He.Defn} {ex : Frag → Bool} {h : Heap} (e : obsR as fa fn tf ex h.get? = (He.valD fn, true)) : SaysR fa fn tf ex h (frR h.get? as) := by
  obtain ⟨h1, h2⟩ := He.ba (show (ex (frR h.get? as) && He.tabsB h.get? tf (frR h.get? as)) = true from congrArg Prod.snd e)
  have key : ∀ p ∈ tf, codeHdIn (frR h.get? as) (He.cT (frR h.get? as) p).1 (He.cT (frR h.get? as) p).2 = true ∧ ∃ o, h.get? (He.cT (frR h.get? as) p).2 = some o ∧ He.emptyTab o = true := fun p hp => by
    obtain ⟨k1, k2⟩ := He.ba (List.all_eq_true.mp h2 p hp)
    refine ⟨k1, ?_⟩
    cases q : h.get? (He.cT (frR h.get? as) p).2 with
    | none => rw [q] at k2; cases k2
    | some o => rw [q] at k2; exact ⟨o, rfl, k2⟩
  refine ⟨congrArg Prod.fst e, h1, fun p hp => (key p hp).1, fun p hp => ?_, fun p hp => ?_⟩
  · obtain ⟨_, o, q, z⟩ := key p hp
    exact frR_none q z
  · obtain ⟨_, o, q, z⟩ := key p hp
    rw [q, He.emptyTab_eq z]
def hookR (as : List Addr) (fa : List He.Fa) (fn : List He.DefD) (tf : List He.Defn) (ex : Frag → Bool) : Hook where
  α := He.AlD × Bool
  obs := fun s => obsR as fa fn tf ex s.heap.get?
  val := fun _ => (He.valD fn, true)
  says := fun _ h => ∃ K : Frag, K.In h ∧ SaysR fa fn tf ex h K
  of := fun _ _ e => ⟨_, frR_in, saysR_of e⟩
  keeps := fun _ _ _ ⟨K, hK, c⟩ k => ⟨K, Frag.In.keeps hK k, ⟨c.d, c.m, c.hd, c.out, fun p hp => k _ _ (c.empty p hp)⟩⟩
theorem obsR_eq {as : List Addr} {fa : List He.Fa} {fn : List He.DefD} {tf : List He.Defn} {ex : Frag → Bool} {g : Addr → Option Obj} {s : Shared} (h : ∀ a, g a = s.heap.get? a) : obsR as fa fn tf ex g = (hookR as fa fn tf ex).obs s := by
  have e : g = s.heap.get? := funext h
  rw [e] <;> rfl
theorem three {α A B C : Type} {o : Option α} {f : α → A} {g : α → B} {h : α → C} {a : A} {b : B} {c : C} (x : o.map f = some a) (y : o.map g = some b) (z : o.map h = some c) : o.map (fun s => (f s, g s, h s)) = some (a, b, c) := by
  cases o with
  | none => cases x
  | some s =>
    have x1 : f s = a := Option.some.inj x
    have y1 : g s = b := Option.some.inj y
    have z1 : h s = c := Option.some.inj z
    show some (f s, g s, h s) = _
    rw [x1, y1, z1]
/-- the state behind the top -/
noncomputable def endOf (r : OpenRow) (M : Nat) (w : World) (os : OsState) : Option SharedT := HandSHeadRun.endF (HandSHeadRun.stepQ (HandSHeadRun.denQ HandSHeadRun.tabQ) r.prog w) M r.prog w os
noncomputable def looksOf (r : OpenRow) (w : World) (s : SharedT) : Bool := HandSHeadRun.looksF r.prog (boot_heap w.params) s.abs
noncomputable def viewOf (r : OpenRow) (q : Program) (loose : List PySem.Str) (s : SharedT) := HandSHeadRun.seenQ q loose (importedModules r.prog.main.body) (fun s => xlAt q [] s && recOk r.toRowW.records s) s.abs
theorem run_three {r : OpenRow} {q : Program} {H : Hook} {ob : SharedT → H.α} {M : Nat} {loose : List PySem.Str} {w : World} (a : ∀ os, (endOf r M w os).map (looksOf r w) = some true)
    (b : ∀ os, (endOf r M w os).map (viewOf r q loose) = some (openGood q loose)) (c : ∀ os, (endOf r M w os).map ob = some (H.val w)) : HandSHeadRun.RunEq r q H ob M loose w := fun os => three (a os) (b os) (c os)
end Lf

set_option Elab.async false
set_option linter.all false
set_option maxRecDepth 100000
set_option maxHeartbeats 0
namespace K06
open PySem PySem.Spec PyProof.Rows L2
def top (i : Nat) : Stmt := PySem.Challenge.pw_letterfolds_k06_products_of_maps.main.body.getD i (.Pass ⟨0, 0, 0, 0⟩)
abbrev s_is_number : Stmt := top 1
def d_is_number : He.DefD := ⟨("is_number", none), "is_number", "is_number", defArgs s_is_number, defBody s_is_number, defScope s_is_number, [], []⟩
abbrev s_is_between : Stmt := top 2
def d_is_between : He.DefD := ⟨("is_between", none), "is_between", "is_between", defArgs s_is_between, defBody s_is_between, defScope s_is_between, [], []⟩
abbrev s_is_sequence : Stmt := top 3
def d_is_sequence : He.DefD := ⟨("is_sequence", none), "is_sequence", "is_sequence", defArgs s_is_sequence, defBody s_is_sequence, defScope s_is_sequence, [], []⟩
abbrev s_FoldError_told : Stmt := inClass (top 5) 0
def d_FoldError_told : He.DefD := ⟨("FoldError", some "told"), "told", "FoldError.told", defArgs s_FoldError_told, defBody s_FoldError_told, defScope s_FoldError_told, [], []⟩
abbrev s_NoElement_init : Stmt := inClass (top 6) 0
def d_NoElement_init : He.DefD := ⟨("NoElement", some "__init__"), "__init__", "NoElement.__init__", defArgs s_NoElement_init, defBody s_NoElement_init, defScope s_NoElement_init, [], []⟩
abbrev s_NoElement_told : Stmt := inClass (top 6) 1
def d_NoElement_told : He.DefD := ⟨("NoElement", some "told"), "told", "NoElement.told", defArgs s_NoElement_told, defBody s_NoElement_told, defScope s_NoElement_told, [], []⟩
abbrev s_NoNumber_init : Stmt := inClass (top 7) 0
def d_NoNumber_init : He.DefD := ⟨("NoNumber", some "__init__"), "__init__", "NoNumber.__init__", defArgs s_NoNumber_init, defBody s_NoNumber_init, defScope s_NoNumber_init, [], []⟩
abbrev s_NoNumber_told : Stmt := inClass (top 7) 1
def d_NoNumber_told : He.DefD := ⟨("NoNumber", some "told"), "told", "NoNumber.told", defArgs s_NoNumber_told, defBody s_NoNumber_told, defScope s_NoNumber_told, [], []⟩
abbrev s_Unlike_told : Stmt := inClass (top 8) 0
def d_Unlike_told : He.DefD := ⟨("Unlike", some "told"), "told", "Unlike.told", defArgs s_Unlike_told, defBody s_Unlike_told, defScope s_Unlike_told, [], []⟩
abbrev s_Map_init : Stmt := inClass (top 15) 0
def d_Map_init : He.DefD := ⟨("Map", some "__init__"), "__init__", "Map.__init__", defArgs s_Map_init, defBody s_Map_init, defScope s_Map_init, [], []⟩
abbrev s_Map_eq : Stmt := inClass (top 15) 1
def d_Map_eq : He.DefD := ⟨("Map", some "__eq__"), "__eq__", "Map.__eq__", defArgs s_Map_eq, defBody s_Map_eq, defScope s_Map_eq, [], []⟩
abbrev s_Map_mul : Stmt := inClass (top 15) 2
def d_Map_mul : He.DefD := ⟨("Map", some "__mul__"), "__mul__", "Map.__mul__", defArgs s_Map_mul, defBody s_Map_mul, defScope s_Map_mul, [], []⟩
abbrev s_Part_init : Stmt := inClass (top 16) 0
def d_Part_init : He.DefD := ⟨("Part", some "__init__"), "__init__", "Part.__init__", defArgs s_Part_init, defBody s_Part_init, defScope s_Part_init, [], []⟩
abbrev s_Part_eq : Stmt := inClass (top 16) 1
def d_Part_eq : He.DefD := ⟨("Part", some "__eq__"), "__eq__", "Part.__eq__", defArgs s_Part_eq, defBody s_Part_eq, defScope s_Part_eq, [], []⟩
abbrev s_Part_mul : Stmt := inClass (top 16) 2
def d_Part_mul : He.DefD := ⟨("Part", some "__mul__"), "__mul__", "Part.__mul__", defArgs s_Part_mul, defBody s_Part_mul, defScope s_Part_mul, [], []⟩
abbrev s_Relation_init : Stmt := inClass (top 17) 0
def d_Relation_init : He.DefD := ⟨("Relation", some "__init__"), "__init__", "Relation.__init__", defArgs s_Relation_init, defBody s_Relation_init, defScope s_Relation_init, [], []⟩
abbrev s_Relation_eq : Stmt := inClass (top 17) 1
def d_Relation_eq : He.DefD := ⟨("Relation", some "__eq__"), "__eq__", "Relation.__eq__", defArgs s_Relation_eq, defBody s_Relation_eq, defScope s_Relation_eq, [], []⟩
abbrev s_Relation_mul : Stmt := inClass (top 17) 2
def d_Relation_mul : He.DefD := ⟨("Relation", some "__mul__"), "__mul__", "Relation.__mul__", defArgs s_Relation_mul, defBody s_Relation_mul, defScope s_Relation_mul, [], []⟩
abbrev s_Grid_init : Stmt := inClass (top 18) 0
def d_Grid_init : He.DefD := ⟨("Grid", some "__init__"), "__init__", "Grid.__init__", defArgs s_Grid_init, defBody s_Grid_init, defScope s_Grid_init, [], []⟩
abbrev s_Grid_eq : Stmt := inClass (top 18) 1
def d_Grid_eq : He.DefD := ⟨("Grid", some "__eq__"), "__eq__", "Grid.__eq__", defArgs s_Grid_eq, defBody s_Grid_eq, defScope s_Grid_eq, [], []⟩
abbrev s_Grid_mul : Stmt := inClass (top 18) 2
def d_Grid_mul : He.DefD := ⟨("Grid", some "__mul__"), "__mul__", "Grid.__mul__", defArgs s_Grid_mul, defBody s_Grid_mul, defScope s_Grid_mul, [], []⟩
abbrev s_Toll_init : Stmt := inClass (top 19) 0
def d_Toll_init : He.DefD := ⟨("Toll", some "__init__"), "__init__", "Toll.__init__", defArgs s_Toll_init, defBody s_Toll_init, defScope s_Toll_init, [], []⟩
abbrev s_Toll_eq : Stmt := inClass (top 19) 1
def d_Toll_eq : He.DefD := ⟨("Toll", some "__eq__"), "__eq__", "Toll.__eq__", defArgs s_Toll_eq, defBody s_Toll_eq, defScope s_Toll_eq, [], []⟩
abbrev s_Toll_mul : Stmt := inClass (top 19) 2
def d_Toll_mul : He.DefD := ⟨("Toll", some "__mul__"), "__mul__", "Toll.__mul__", defArgs s_Toll_mul, defBody s_Toll_mul, defScope s_Toll_mul, [], []⟩
abbrev s_are_points : Stmt := top 20
def d_are_points : He.DefD := ⟨("_are_points", none), "_are_points", "_are_points", defArgs s_are_points, defBody s_are_points, defScope s_are_points, [], []⟩
abbrev s_are_integers : Stmt := top 21
def d_are_integers : He.DefD := ⟨("_are_integers", none), "_are_integers", "_are_integers", defArgs s_are_integers, defBody s_are_integers, defScope s_are_integers, [], []⟩
abbrev s_are_costs : Stmt := top 22
def d_are_costs : He.DefD := ⟨("_are_costs", none), "_are_costs", "_are_costs", defArgs s_are_costs, defBody s_are_costs, defScope s_are_costs, [], []⟩
abbrev s_smallest : Stmt := top 23
def d_smallest : He.DefD := ⟨("_smallest", none), "_smallest", "_smallest", defArgs s_smallest, defBody s_smallest, defScope s_smallest, [], []⟩
abbrev s_limited : Stmt := top 24
def d_limited : He.DefD := ⟨("_limited", none), "_limited", "_limited", defArgs s_limited, defBody s_limited, defScope s_limited, [], []⟩
abbrev s_columns : Stmt := top 25
def d_columns : He.DefD := ⟨("_columns", none), "_columns", "_columns", defArgs s_columns, defBody s_columns, defScope s_columns, [], []⟩
abbrev s_sum_of_products : Stmt := top 26
def d_sum_of_products : He.DefD := ⟨("_sum_of_products", none), "_sum_of_products", "_sum_of_products", defArgs s_sum_of_products, defBody s_sum_of_products, defScope s_sum_of_products, [], []⟩
abbrev s_least_sum : Stmt := top 27
def d_least_sum : He.DefD := ⟨("_least_sum", none), "_least_sum", "_least_sum", defArgs s_least_sum, defBody s_least_sum, defScope s_least_sum, [], []⟩
abbrev s_shape_of : Stmt := top 28
def d_shape_of : He.DefD := ⟨("shape_of", none), "shape_of", "shape_of", defArgs s_shape_of, defBody s_shape_of, defScope s_shape_of, [], []⟩
abbrev s_content_of : Stmt := top 29
def d_content_of : He.DefD := ⟨("content_of", none), "content_of", "content_of", defArgs s_content_of, defBody s_content_of, defScope s_content_of, [], []⟩
abbrev s_kind_of : Stmt := top 30
def d_kind_of : He.DefD := ⟨("_kind_of", none), "_kind_of", "_kind_of", defArgs s_kind_of, defBody s_kind_of, defScope s_kind_of, [], []⟩
abbrev s_one_of : Stmt := top 31
def d_one_of : He.DefD := ⟨("one_of", none), "one_of", "one_of", defArgs s_one_of, defBody s_one_of, defScope s_one_of, [], []⟩
abbrev s_L_source : Stmt := top 33
def d_L_source : He.DefD := ⟨("_law_source", none), "_law_source", "_law_source", defArgs s_L_source, defBody s_L_source, defScope s_L_source, [], []⟩
abbrev s_L_draw : Stmt := top 34
def d_L_draw : He.DefD := ⟨("_law_draw", none), "_law_draw", "_law_draw", defArgs s_L_draw, defBody s_L_draw, defScope s_L_draw, [], []⟩
abbrev s_L_pick : Stmt := top 35
def d_L_pick : He.DefD := ⟨("_law_pick", none), "_law_pick", "_law_pick", defArgs s_L_pick, defBody s_L_pick, defScope s_L_pick, [], []⟩
abbrev s_L_images : Stmt := top 36
def d_L_images : He.DefD := ⟨("_law_images", none), "_law_images", "_law_images", defArgs s_L_images, defBody s_L_images, defScope s_L_images, [], []⟩
abbrev s_L_product : Stmt := top 37
def d_L_product : He.DefD := ⟨("_law_product", none), "_law_product", "_law_product", defArgs s_L_product, defBody s_L_product, defScope s_L_product, [], []⟩
abbrev s_L_is_unlike : Stmt := top 38
def d_L_is_unlike : He.DefD := ⟨("_law_is_unlike", none), "_law_is_unlike", "_law_is_unlike", defArgs s_L_is_unlike, defBody s_L_is_unlike, defScope s_L_is_unlike, [], []⟩
abbrev s_L_right : Stmt := top 39
def d_L_right : He.DefD := ⟨("_law_right", none), "_law_right", "_law_right", defArgs s_L_right, defBody s_L_right, defScope s_L_right, [], []⟩
abbrev s_law : Stmt := top 40
def d_law : He.DefD := ⟨("law", none), "law", "law", defArgs s_law, defBody s_law, defScope s_law, [], []⟩
def fn : List He.DefD := [d_is_number, d_is_between, d_is_sequence, d_FoldError_told, d_NoElement_init, d_NoElement_told, d_NoNumber_init, d_NoNumber_told, d_Unlike_told, d_Map_init, d_Map_eq, d_Map_mul, d_Part_init, d_Part_eq, d_Part_mul, d_Relation_init, d_Relation_eq, d_Relation_mul, d_Grid_init, d_Grid_eq, d_Grid_mul, d_Toll_init, d_Toll_eq, d_Toll_mul, d_are_points, d_are_integers, d_are_costs, d_smallest, d_limited, d_columns, d_sum_of_products, d_least_sum, d_shape_of, d_content_of, d_kind_of, d_one_of, d_L_source, d_L_draw, d_L_pick, d_L_images, d_L_product, d_L_is_unlike, d_L_right, d_law]
def fa : List He.Fa := [.glo "FoldError", .glo "NoElement", .glo "NoNumber", .glo "Unlike", .glo "Map", .glo "Part", .glo "Relation", .glo "Grid", .glo "Toll", .glo "is_number", .glo "is_between", .glo "is_sequence", .glo "_are_points", .glo "_are_integers", .glo "_are_costs", .glo "_smallest", .glo "_limited", .glo "_columns", .glo "_sum_of_products", .glo "_least_sum", .glo "shape_of", .glo "content_of", .glo "_kind_of", .glo "one_of", .glo "_law_source", .glo "_law_draw", .glo "_law_pick", .glo "_law_images", .glo "_law_product", .glo "_law_is_unlike", .glo "_law_right", .glo "law", .int "MOST_POINTS" 10, .int "MOST_ROWS" 4, .int "MOST_LEAST" 8, .int "MOST_PERIOD" 8, .int "MOST_COST" 8, .free "ValueError", .free "abs", .free "all", .free "bool", .free "enumerate", .free "int", .free "isinstance", .free "len", .free "list", .free "min", .free "range", .free "set", .free "sorted", .free "sum", .free "tuple", .free "zip", .cls "Map", .mkr "Map", .meth "Map" "__eq__", .meth "Map" "__mul__", .noat "Map" "images", .cls "Part", .mkr "Part", .meth "Part" "__eq__", .meth "Part" "__mul__", .noat "Part" "images", .cls "Relation", .mkr "Relation", .meth "Relation" "__eq__", .meth "Relation" "__mul__", .noat "Relation" "rows", .cls "Grid", .mkr "Grid", .meth "Grid" "__eq__", .meth "Grid" "__mul__", .noat "Grid" "rows", .noat "Grid" "least", .noat "Grid" "period", .cls "Toll", .mkr "Toll", .meth "Toll" "__eq__", .meth "Toll" "__mul__", .noat "Toll" "rows", .noat "Toll" "most", .meth "NoElement" "told", .meth "NoNumber" "told", .meth "Unlike" "told", .exc "Unlike", .exm "NoElement" "FoldError" true, .exm "NoElement" "NoElement" true, .exm "NoElement" "NoNumber" false, .exm "NoElement" "Unlike" false, .exm "NoNumber" "FoldError" true, .exm "NoNumber" "NoElement" false, .exm "NoNumber" "NoNumber" true, .exm "NoNumber" "Unlike" false, .exm "Unlike" "FoldError" true, .exm "Unlike" "NoElement" false, .exm "Unlike" "NoNumber" false, .exm "Unlike" "Unlike" true]
def inis : List (Str × List Str) := [("NoElement", ["place"]), ("NoNumber", ["number"])]
def bares : List Str := ["Unlike"]
def owns : List Str := ["Map", "Part", "Relation", "Grid", "Toll"]
def opsl : List Str := ["Map", "Part", "Relation", "Grid", "Toll"]
def iniB (K : PySem.W.Frag) (p : Str × List Str) : Bool := Lf.errB K (He.ga K p.1) && (decide (PySem.W.findIn K (.ref (He.ga K p.1)) "__init__" = some (some (.ref (He.ma K (He.ga K p.1) "__init__")))) &&
  (decide (PySem.W.typeIn K (.ref (He.ma K (He.ga K p.1) "__init__")) = some (.type "function")) && (p.2.all fun f => decide (PySem.W.findIn K (.ref (He.ga K p.1)) f = some none))))
def isB (K : PySem.W.Frag) (x : Str) : Bool := decide (PySem.W.kitOne K (.ref (He.ga K x)) (.ref (He.ga K "FoldError")) = some true)
/-- an own class among all: what isinstance says of its instances, and of others -/
def ownB (K : PySem.W.Frag) (x : Str) : Bool := decide (PySem.W.findIn K (.ref (He.ga K x)) "__class__" = some (some (.builtin "object.__class__"))) && (decide (PySem.W.specialIn K (.builtin "object.__class__") "__get__" = some (some (.builtin "getset_descriptor.__get__"))) &&
  (decide (PySem.W.takesIn K (.builtin "object.__class__") = some true) && (decide (PySem.W.mroIn K (He.ga K x) (.type "object") = some true) &&
  ((["int", "bool", "str", "list", "tuple"].all fun b => decide (PySem.W.kitOne K (.ref (He.ga K x)) (.type b) = some false)) && ((["NoneType", "int", "bool", "str", "list", "tuple", "dict"].all fun b => decide (PySem.W.kitOne K (.type b) (.ref (He.ga K x)) = some false)) &&
  owns.all fun y => decide (PySem.W.kitOne K (.ref (He.ga K x)) (.ref (He.ga K y)) = some (decide (x = y))))))))
def ex (K : PySem.W.Frag) : Bool := (inis.all fun p => iniB K p && isB K p.1) && ((bares.all fun x => Lf.errB K (He.ga K x) && isB K x) && ((owns.all fun x => ownB K x) && opsl.all fun x => Lf.opsB K (owns.map fun y => He.ga K y) (He.ga K x)))
def loose : List Str := (["is_number", "is_between", "is_sequence", "FoldError", "NoElement", "NoNumber", "Unlike", "Map", "Part", "Relation", "Grid", "Toll", "_are_points", "_are_integers", "_are_costs", "_smallest", "_limited", "_columns", "_sum_of_products", "_least_sum", "shape_of", "content_of", "_kind_of", "one_of", "_law_source", "_law_draw", "_law_pick", "_law_images", "_law_product", "_law_is_unlike"] : List Str) ++ (["_law_right", "MOST_POINTS", "MOST_ROWS", "MOST_LEAST", "MOST_PERIOD", "MOST_COST"] : List Str)
def tf : List He.Defn := [("_law_right", none)]
end K06

set_option Elab.async false
set_option linter.all false
set_option maxRecDepth 100000
set_option maxHeartbeats 0
namespace K06
open PySem PySem.Spec PyProof.Rows L2
abbrev R : PySem.W.OpenRow := PySem.W.OpenLaw.row PySem.Challenge.rw_letterfolds_k06_products_of_maps
abbrev vw : Program := PySem.W.view R.prog [40]
def as : List Addr := List.range 1600
abbrev hk : PySem.W.Hook := Lf.hookR as fa fn tf ex
def ob (s : PySem.W.SharedT) : He.AlD × Bool := Lf.obsR as fa fn tf ex (HandSHeadRun.getT s)
theorem ob_eq (s : PySem.W.SharedT) : ob s = hk.obs s.abs := Lf.obsR_eq (HandSHeadRun.getT_eq s)
theorem runA (w : World) (os : OsState) : (Lf.endOf R 20000 w os).map (Lf.looksOf R w) = some true := by kernel_rfl
theorem runB (w : World) (os : OsState) : (Lf.endOf R 20000 w os).map (Lf.viewOf R vw loose) = some (PySem.W.openGood vw loose) := by kernel_rfl
theorem runC (w : World) (os : OsState) : (Lf.endOf R 20000 w os).map ob = some (hk.val w) := by kernel_rfl
theorem run (w : World) : HandSHeadRun.RunEq R vw hk ob 20000 loose w := Lf.run_three (runA w) (runB w) (runC w)
end K06

set_option Elab.async false
set_option linter.all false
set_option maxRecDepth 100000
set_option maxHeartbeats 8000000
namespace K06
open PySem PySem.Spec PyProof.Rows L2 Lf
/-- a list or a tuple of xs at a -/
def Sq (K : PySem.W.Frag) (H : Hp) (a : Addr) (xs : List V) : Prop := SqL K H a xs ∨ SqT K H a xs
theorem Sq.same {K : PySem.W.Frag} {H H' : Hp} {a : Addr} {xs : List V} (h : Sq K H a xs) (e : Same H H') : Sq K H' a xs := h.imp (L2.Same.seq e) (Lf.SqT.same e)
theorem tyx_l {K : PySem.W.Frag} {H : Hp} {a : Addr} {xs : List V} (h : SqL K H a xs) : TyX K H (.ref a) (.type "list") := by
  rcases h with (h | ⟨o, h⟩) | ⟨o, its, n, hk, hc, _⟩
  · exact .base (.lst h)
  · exact .base (.frz h)
  · exact .kList hk hc
theorem tyx_t {K : PySem.W.Frag} {H : Hp} {a : Addr} {xs : List V} (h : SqT K H a xs) : TyX K H (.ref a) (.type "tuple") := by
  rcases h with (h | ⟨o, h⟩) | ⟨o, its, n, hk, hc, _⟩
  · exact .base (.tup h)
  · exact .fTuple h
  · exact .kTuple hk hc
theorem any_lt {K : PySem.W.Frag} : PySem.W.kitAny K (.type "list") [.type "list", .type "tuple"] = some true ∧ PySem.W.kitAny K (.type "tuple") [.type "list", .type "tuple"] = some true :=
  ⟨kitAny_cons (kit_ty (b := "list") (r := true) (by decide +kernel)) (fun h => nomatch h) (fun _ => rfl),
   kitAny_cons (kit_ty (b := "list") (r := false) (by decide +kernel)) (fun _ => kitAny_cons (kit_ty (b := "tuple") (r := true) (by decide +kernel)) (fun h => nomatch h) (fun _ => rfl)) (fun h => nomatch h)⟩
/-- whether it is an int; of what a row may hold -/
def Flat : V → Prop
  | .non => True
  | .bl _ => True
  | .int _ => True
  | .str _ => True
  | _ => False
def isNum : V → Bool
  | .int _ => true
  | _ => false
def ofInt : V → Bool
  | .int _ => true
  | .bl _ => true
  | _ => false
def ofBool : V → Bool
  | .bl _ => true
  | _ => false
theorem flat_ty {K : PySem.W.Frag} {H : Hp} {x : V} (h : Flat x) : ∃ n, TyX K H x (.type n) ∧ PySem.W.kitOne K (.type n) (.type "int") = some (ofInt x) ∧ PySem.W.kitOne K (.type n) (.type "bool") = some (ofBool x) := by
  cases x with
  | non => exact ⟨_, .base .non, kit_ty (show kitB "NoneType" "int" = some false by decide +kernel), kit_ty (show kitB "NoneType" "bool" = some false by decide +kernel)⟩
  | bl b => exact ⟨_, .base (.bl b), kit_ty (show kitB "bool" "int" = some true by decide +kernel), kit_ty (show kitB "bool" "bool" = some true by decide +kernel)⟩
  | int i => exact ⟨_, .base (.int i), kit_ty (show kitB "int" "int" = some true by decide +kernel), kit_ty (show kitB "int" "bool" = some false by decide +kernel)⟩
  | str s => exact ⟨_, .base (.str s), kit_ty (show kitB "str" "int" = some false by decide +kernel), kit_ty (show kitB "str" "bool" = some false by decide +kernel)⟩
  | byt _ => exact h.elim
  | flt _ => exact h.elim
  | ref _ => exact h.elim
  | ty _ => exact h.elim
def spNum : Sp := fun vs H Q _ => ∃ x, vs = [x] ∧ Flat x ∧ Q (.bl (isNum x)) H
/-- thing between least and most -/
def btw (lo hi : Int) : V → Bool
  | .int i => decide (lo ≤ i) && decide (i ≤ hi)
  | _ => false
def spBtw : Sp := fun vs H Q _ => ∃ x lo hi, vs = [x, .int lo, .int hi] ∧ Flat x ∧ Q (.bl (btw lo hi x)) H
def spSeq (K : PySem.W.Frag) : Sp := fun vs H Q _ => ∃ a xs lo hi, vs = [.ref a, .int lo, .int hi] ∧ Sq K H a xs ∧ ∀ H', Same H H' → Q (.bl (decide (lo ≤ (xs.length : Int)) && decide ((xs.length : Int) ≤ hi))) H'
section
variable {P : Program} {w : World} {K : PySem.W.Frag} {mg : Str → Option Value} {base : Heap}
theorem scNum : FnScope ["thing"] ["thing"] (defScope s_is_number) := ⟨rfl, rfl, rfl, by decide +kernel, rfl, by decide +kernel, by decide +kernel⟩
theorem ok_num {f : Addr} {fd : FuncData} {q : Str} (F : FunD K "is_number" q (defArgs s_is_number) (defBody s_is_number) (defScope s_is_number) [] [] f fd) (zI : mg "isinstance" = none) (zi : mg "int" = none) (zb : mg "bool" = none) :
    FnOk P w K mg base CX0 1 f fd ["thing"] spNum := by
  refine F.ok scNum (fun vs H Q E h => ?_) (fun cdv A outer s H vs Q E hr h => ?_)
  · obtain ⟨x, rfl, _⟩ := h
    rfl
  · obtain ⟨x, rfl, fx, k⟩ := h
    refine ⟨_, PSs.nox (pss_one (ps_ret (pe_and (pe_callB call_isi rfl zI PyProof.Rows.boot_isinstance (pa_cons (pv 0) (pa_cons (pe_bltn (v := .ty "int") rfl zi PyProof.Rows.boot_int rfl) pa_nil)))
      (pe_one (pe_not (pe_callB call_isi rfl zI PyProof.Rows.boot_isinstance (pa_cons (pv 0) (pa_cons (pe_bltn (v := .ty "bool") rfl zb PyProof.Rows.boot_bool rfl) pa_nil)))))))), ?_⟩
    obtain ⟨n, ty, k1, k2⟩ := flat_ty (K := K) (H := H) fx
    refine ⟨_, rfl, x, .ty "int", _, _, _, rfl, .ty _, ty, k1, _, rfl, ?_⟩
    cases x with
    | int i => exact ⟨_, rfl, _, .ty "bool", _, _, _, rfl, .ty _, ty, k2, _, rfl, k⟩
    | bl b => exact ⟨_, rfl, _, .ty "bool", _, _, _, rfl, .ty _, ty, k2, _, rfl, k⟩
    | non => exact k
    | str s => exact k
    | byt _ => exact fx.elim
    | flt _ => exact fx.elim
    | ref _ => exact fx.elim
    | ty _ => exact fx.elim
theorem scBtw : FnScope ["thing", "least", "most"] ["thing", "least", "most"] (defScope s_is_between) := ⟨rfl, rfl, rfl, by decide +kernel, rfl, by decide +kernel, by decide +kernel⟩
theorem ok_btw {f : Addr} {fd : FuncData} {q : Str} (F : FunD K "is_between" q (defArgs s_is_between) (defBody s_is_between) (defScope s_is_between) [] [] f fd) (DN : Def P w K mg base CX0 1 "is_number" ["thing"] spNum) :
    FnOk P w K mg base CX0 2 f fd ["thing", "least", "most"] spBtw := by
  refine F.ok scBtw (fun vs H Q E h => ?_) (fun cdv A outer s H vs Q E hr h => ?_)
  · obtain ⟨x, lo, hi, rfl, _⟩ := h
    rfl
  · obtain ⟨x, lo, hi, rfl, fx, k⟩ := h
    refine ⟨_, PSs.nox (pss_one (ps_ret (pe_and (pe_def DN hr pass0 rfl (pa_cons (pv 0) pa_nil)) (pe_one (pe_chain op_le op_le (pv 1) (pv 0) (pv 2)))))), ?_⟩
    refine ⟨_, rfl, x, rfl, fx, _, rfl, ?_⟩
    cases x with
    | int i =>
      refine ⟨_, rfl, _, rfl, _, _, rfl, rfl, _, rfl, ?_⟩
      refine ite2 (fun c => ⟨_, rfl, _, _, rfl, rfl, ?_⟩) (fun c => ?_)
      · have z : btw lo hi (.int i) = decide (i ≤ hi) := by show (decide (lo ≤ i) && decide (i ≤ hi)) = _; rw [c]; rfl
        rw [z] at k
        exact k
      · have z : btw lo hi (.int i) = false := by
          show (decide (lo ≤ i) && decide (i ≤ hi)) = false
          cases h : decide (lo ≤ i) with
          | true => exact absurd h c
          | false => rfl
        rw [z] at k
        exact k
    | bl b => exact k
    | non => exact k
    | str s => exact k
    | byt _ => exact fx.elim
    | flt _ => exact fx.elim
    | ref _ => exact fx.elim
    | ty _ => exact fx.elim
theorem scSeq : FnScope ["thing", "least", "most"] ["thing", "least", "most"] (defScope s_is_sequence) := ⟨rfl, rfl, rfl, by decide +kernel, rfl, by decide +kernel, by decide +kernel⟩
theorem ok_seq {f : Addr} {fd : FuncData} {q : Str} (F : FunD K "is_sequence" q (defArgs s_is_sequence) (defBody s_is_sequence) (defScope s_is_sequence) [] [] f fd) (zI : mg "isinstance" = none) (zl : mg "list" = none) (zt : mg "tuple" = none) (zn : mg "len" = none) :
    FnOk P w K mg base CX0 1 f fd ["thing", "least", "most"] (spSeq K) := by
  refine F.ok scSeq (fun vs H Q E h => ?_) (fun cdv A outer s H vs Q E hr h => ?_)
  · obtain ⟨a, xs, lo, hi, rfl, _⟩ := h
    rfl
  · obtain ⟨a, xs, lo, hi, rfl, sq, k⟩ := h
    refine ⟨_, PSs.nox (pss_one (ps_ret (pe_and (pe_callB call_isiT rfl zI PyProof.Rows.boot_isinstance (pa_cons (pv 0) (pa_cons (pe_tup (pa_cons (pe_bltn (v := .ty "list") rfl zl PyProof.Rows.boot_list rfl) (pa_cons (pe_bltn (v := .ty "tuple") rfl zt PyProof.Rows.boot_tuple rfl) pa_nil))) pa_nil)))
      (pe_one (pe_chain op_le op_le (pv 1) (pe_callB call_len_seq rfl zn boot_len (pa_cons (pv 0) pa_nil)) (pv 2)))))), ?_⟩
    refine ⟨_, rfl, (by show 2 ≤ sizeLine; decide), fun p np => ?_⟩
    have sm := same_upd (o := .tup [.ty "list", .ty "tuple"]) np
    have sq' := sq.same sm
    have ty : ∃ t, TyX K (upd H p (.tup [.ty "list", .ty "tuple"])) (.ref a) t ∧ PySem.W.kitAny K t [.type "list", .type "tuple"] = some true := by
      rcases sq' with z | z
      · exact ⟨_, tyx_l z, any_lt.1⟩
      · exact ⟨_, tyx_t z, any_lt.2⟩
    obtain ⟨t, ty, ka⟩ := ty
    refine ⟨.ref a, p, _, t, _, true, rfl, upd_same, .cons (.ty _) (.cons (.ty _) .nil), ty, ka, true, rfl, ?_⟩
    refine ifT rfl ⟨_, rfl, _, rfl, a, xs, rfl, sq', _, _, rfl, rfl, _, rfl, ?_⟩
    have kk := k _ sm
    refine ite2 (fun c => ⟨_, rfl, _, _, rfl, rfl, ?_⟩) (fun c => ?_)
    · rw [c] at kk
      exact kk
    · have z : decide (lo ≤ (xs.length : Int)) = false := by
        cases h : decide (lo ≤ (xs.length : Int)) with
        | true => exact absurd h c
        | false => rfl
      rw [z] at kk
      exact kk
end
end K06

set_option Elab.async false
set_option linter.all false
set_option maxRecDepth 100000
set_option maxHeartbeats 8000000
namespace K06
open PySem PySem.Spec PyProof.Rows L2 Lf
/-- what may stand in images: of a map, of a partial one -/
def mapOk (n : Int) (x : V) : Bool := btw 0 (n - 1) x
def partOk (n : Int) (x : V) : Bool := decide (x = .non) || btw 0 (n - 1) x
def spIni (K : PySem.W.Frag) (C : Addr) (ok : Int → V → Bool) : Sp := fun vs H Q _ => ∃ p a dx xs, vs = [.ref p, .ref a] ∧ H p = some (.ins C dx []) ∧ Sq K H a xs ∧ 1 ≤ xs.length ∧ xs.length ≤ 10 ∧ (∀ x ∈ xs, Flat x ∧ ok xs.length x = true) ∧
  ∀ t H', But p H H' → H' p = some (.ins C dx [("images", .ref t)]) → SqT K H' t xs → Q .non H'
section
variable {P : Program} {w : World} {K : PySem.W.Frag} {mg : Str → Option Value} {base : Heap}
theorem SqT.but {K : PySem.W.Frag} {H H' : Hp} {p a C dx : Addr} {fs : List (Str × V)} {xs : List V} (hp : H p = some (.ins C dx fs)) (b : But p H H') (h : SqT K H a xs) : SqT K H' a xs := by
  rcases h with (h | ⟨o, h⟩) | h
  · exact .inl (.inl (b _ _ (fun z => by rw [z, hp] at h; cases h) h))
  · exact .inl (.inr ⟨o, b _ _ (fun z => by rw [z, hp] at h; cases h) h⟩)
  · exact .inr h
theorem scMapI : FnScope ["self", "images", "place", "image"] ["self", "images"] (defScope s_Map_init) := ⟨rfl, rfl, rfl, by decide +kernel, rfl, by decide +kernel, by decide +kernel⟩
theorem ok_mapI {C f : Addr} {fd : FuncData} {q : Str} {tk : Tok} (F : FunD K "__init__" q (defArgs s_Map_init) (defBody s_Map_init) (defScope s_Map_init) [] [] f fd)
    (DS : Def P w K mg base CX0 1 "is_sequence" ["thing", "least", "most"] (spSeq K)) (DB : Def P w K mg base CX0 2 "is_between" ["thing", "least", "most"] spBtw)
    (gM : mg "MOST_POINTS" = some (.int 10 tk)) (zE : mg "enumerate" = none) (zn : mg "len" = none) (zt : mg "tuple" = none) (cl : Cls K C) (nI : NoAttr K C "images") :
    FnOk P w K mg base CX0 3 f fd ["self", "images"] (spIni K C mapOk) := by
  refine F.ok scMapI (fun vs H Q E h => ?_) (fun cdv A outer s H vs Q E hr h => ?_)
  · obtain ⟨p, a, dx, xs, rfl, _⟩ := h
    rfl
  · obtain ⟨p, a, dx, xs, rfl, hp, sq, l1, l10, all, k⟩ := h
    have r1 : Room 1 _ := hr.mono (by decide)
    refine ⟨_, PSs.nox (pss_cons (ps_if (pt_not (pt_val (pe_def DS r1 pass0 rfl (pa_cons (pv 1) (pa_cons pe_int (pa_cons (pe_gint rfl gM) pa_nil)))))) (pss_one ps_never) pss_nil)
      (pss_cons (ps_for PassesOwn.never rfl (pi_enumA rfl zE (pv 1)) (pg_tup rfl (pgs_cons (pg_name (i := 2) scMapI.nd rfl (.inl rfl)) (pgs_cons (pg_name (i := 3) scMapI.nd rfl (.inl rfl)) pgs_nil)))
        (pss_one (ps_if (pt_not (pt_val (pe_def DB hr pass0 rfl (pa_cons (pv 3) (pa_cons pe_int (pa_cons (pe_op op_sub (pe_callB call_len_seq rfl zn boot_len (pa_cons (pv 1) pa_nil)) pe_int) pa_nil)))))) (pss_one ps_never) pss_nil)))
      (pss_one (ps_fld (pv 0) (pe_callTy call_tuple_of rfl zt PyProof.Rows.boot_tuple (pa_cons (pv 1) pa_nil)) rfl)))), ?_⟩
    refine ⟨_, rfl, a, xs, 1, 10, rfl, sq, fun H1 s1 => ⟨_, rfl, ?_⟩⟩
    have e1 : (decide ((1 : Int) ≤ (xs.length : Int)) && decide ((xs.length : Int) ≤ 10)) = true := by
      rw [decide_eq_true (show (1 : Int) ≤ (xs.length : Int) by omega), decide_eq_true (show (xs.length : Int) ≤ 10 by omega)]
      rfl
    rw [e1]
    refine ifF rfl ?_
    have hp1 := s1 _ _ hp
    have sq1 := sq.same s1
    have sq1c := sq1
    cases sq1
    case' inl z =>
      refine ⟨_, rfl, a, xs, rfl, .inl ⟨z, ?_⟩⟩
      have wk : Walk (Ite K a) xs.length (fun H => Same H1 H) (fun i H v H' => ∃ T x, v = .ref T ∧ H T = none ∧ H' = upd H T (.tup [.int (i : Nat), x]) ∧ xs[i]? = some x) := walk_enumL.mono (fun H s => L2.Same.seq s z) (fun i H x H' _ _ y => y)
    case' inr z =>
      refine ⟨_, rfl, a, xs, rfl, .inr ⟨z, ?_⟩⟩
      have wk : Walk (Itet K a) xs.length (fun H => Same H1 H) (fun i H v H' => ∃ T x, v = .ref T ∧ H T = none ∧ H' = upd H T (.tup [.int (i : Nat), x]) ∧ xs[i]? = some x) := walk_enumT.mono (fun H s => Lf.SqT.same s z) (fun i H x H' _ _ y => y)
    all_goals
     have sq1 := sq1c
     refine for_it wk (fun i σ H2 => ∃ v2 v3 : Option V, σ = [some (.ref p), some (.ref a), v2, v3] ∧ Same H1 H2) ⟨none, none, rfl, L2.Same.refl _⟩ (fun i σ H2 _ ⟨_, _, _, s⟩ => s) ?_ ?_
     · rintro i x σ H2 H3 hi ⟨v2, v3, rfl, s2⟩ ⟨T, y, rfl, nT, rfl, hy⟩
       refine ⟨T, _, rfl, SqT.of upd_same, rfl, _, _, rfl, _, _, rfl, rfl, ?_⟩
       have s3 := s2.trans (same_upd (o := .tup [.int (i : Nat), y]) nT)
       obtain ⟨fy, oy⟩ := all y (List.mem_of_getElem? hy)
       refine ⟨_, rfl, _, rfl, a, xs, rfl, sq1.same s3, _, 1, rfl, rfl, y, 0, _, rfl, fy, _, rfl, ?_⟩
       refine ifF (by have z : btw 0 ((xs.length : Int) - 1) y = true := oy; rw [z]; rfl) ⟨_, _, rfl, s3⟩
     · rintro σ H2 ⟨v2, v3, rfl, s2⟩
       have hp2 := s2 _ _ hp1
       rcases sq1.same s2 with z | z
       · refine ⟨_, rfl, a, xs, rfl, .inl ⟨z, fun t nt => ?_⟩⟩
         have np : p ≠ t := ne_of_none hp2 nt
         refine ⟨_, rfl, p, C, dx, [], rfl, (by rw [upd_ne np]; exact hp2), cl, nI, (by show 0 < 1000; decide), ?_⟩
         refine k t _ (fun b o n e => ?_) upd_same (.inl (.inl ?_))
         · rw [upd_ne n]
           exact same_upd nt _ _ (s2 _ _ (s1 _ _ e))
         · rw [upd_ne np.symm]
           exact upd_same
       · refine ⟨_, rfl, a, xs, rfl, .inr ⟨z, ?_⟩⟩
         refine ⟨_, rfl, p, C, dx, [], rfl, hp2, cl, nI, (by show 0 < 1000; decide), ?_⟩
         refine k a _ (fun b o n e => ?_) upd_same (SqT.but hp2 But.upd z)
         rw [upd_ne n]
         exact s2 _ _ (s1 _ _ e)
theorem scPartI : FnScope ["self", "images", "place", "image"] ["self", "images"] (defScope s_Part_init) := ⟨rfl, rfl, rfl, by decide +kernel, rfl, by decide +kernel, by decide +kernel⟩
theorem ok_partI {C f : Addr} {fd : FuncData} {q : Str} {tk : Tok} (F : FunD K "__init__" q (defArgs s_Part_init) (defBody s_Part_init) (defScope s_Part_init) [] [] f fd)
    (DS : Def P w K mg base CX0 1 "is_sequence" ["thing", "least", "most"] (spSeq K)) (DB : Def P w K mg base CX0 2 "is_between" ["thing", "least", "most"] spBtw)
    (gM : mg "MOST_POINTS" = some (.int 10 tk)) (zE : mg "enumerate" = none) (zn : mg "len" = none) (zt : mg "tuple" = none) (cl : Cls K C) (nI : NoAttr K C "images") :
    FnOk P w K mg base CX0 3 f fd ["self", "images"] (spIni K C partOk) := by
  refine F.ok scPartI (fun vs H Q E h => ?_) (fun cdv A outer s H vs Q E hr h => ?_)
  · obtain ⟨p, a, dx, xs, rfl, _⟩ := h
    rfl
  · obtain ⟨p, a, dx, xs, rfl, hp, sq, l1, l10, all, k⟩ := h
    have r1 : Room 1 _ := hr.mono (by decide)
    refine ⟨_, PSs.nox (pss_cons (ps_if (pt_not (pt_val (pe_def DS r1 pass0 rfl (pa_cons (pv 1) (pa_cons pe_int (pa_cons (pe_gint rfl gM) pa_nil)))))) (pss_one ps_never) pss_nil)
      (pss_cons (ps_for PassesOwn.never rfl (pi_enumA rfl zE (pv 1)) (pg_tup rfl (pgs_cons (pg_name (i := 2) scPartI.nd rfl (.inl rfl)) (pgs_cons (pg_name (i := 3) scPartI.nd rfl (.inl rfl)) pgs_nil)))
        (pss_one (ps_if (PW.pt (pw_and (pt_cmp (pc_notN (pv 3))) (pw_and1 (pt_not (pt_val (pe_def DB hr pass0 rfl (pa_cons (pv 3) (pa_cons pe_int (pa_cons (pe_op op_sub (pe_callB call_len_seq rfl zn boot_len (pa_cons (pv 1) pa_nil)) pe_int) pa_nil))))))))) (pss_one ps_never) pss_nil)))
      (pss_one (ps_fld (pv 0) (pe_callTy call_tuple_of rfl zt PyProof.Rows.boot_tuple (pa_cons (pv 1) pa_nil)) rfl)))), ?_⟩
    refine ⟨_, rfl, a, xs, 1, 10, rfl, sq, fun H1 s1 => ⟨_, rfl, ?_⟩⟩
    have e1 : (decide ((1 : Int) ≤ (xs.length : Int)) && decide ((xs.length : Int) ≤ 10)) = true := by
      rw [decide_eq_true (show (1 : Int) ≤ (xs.length : Int) by omega), decide_eq_true (show (xs.length : Int) ≤ 10 by omega)]
      rfl
    rw [e1]
    refine ifF rfl ?_
    have hp1 := s1 _ _ hp
    have sq1 := sq.same s1
    have sq1c := sq1
    cases sq1
    case' inl z =>
      refine ⟨_, rfl, a, xs, rfl, .inl ⟨z, ?_⟩⟩
      have wk : Walk (Ite K a) xs.length (fun H => Same H1 H) (fun i H v H' => ∃ T x, v = .ref T ∧ H T = none ∧ H' = upd H T (.tup [.int (i : Nat), x]) ∧ xs[i]? = some x) := walk_enumL.mono (fun H s => L2.Same.seq s z) (fun i H x H' _ _ y => y)
    case' inr z =>
      refine ⟨_, rfl, a, xs, rfl, .inr ⟨z, ?_⟩⟩
      have wk : Walk (Itet K a) xs.length (fun H => Same H1 H) (fun i H v H' => ∃ T x, v = .ref T ∧ H T = none ∧ H' = upd H T (.tup [.int (i : Nat), x]) ∧ xs[i]? = some x) := walk_enumT.mono (fun H s => Lf.SqT.same s z) (fun i H x H' _ _ y => y)
    all_goals
     have sq1 := sq1c
     refine for_it wk (fun i σ H2 => ∃ v2 v3 : Option V, σ = [some (.ref p), some (.ref a), v2, v3] ∧ Same H1 H2) ⟨none, none, rfl, L2.Same.refl _⟩ (fun i σ H2 _ ⟨_, _, _, s⟩ => s) ?_ ?_
     · rintro i x σ H2 H3 hi ⟨v2, v3, rfl, s2⟩ ⟨T, y, rfl, nT, rfl, hy⟩
       refine ⟨T, _, rfl, SqT.of upd_same, rfl, _, _, rfl, _, _, rfl, rfl, ?_⟩
       have s3 := s2.trans (same_upd (o := .tup [.int (i : Nat), y]) nT)
       obtain ⟨fy, oy⟩ := all y (List.mem_of_getElem? hy)
       refine ⟨_, rfl, _, rfl, ?_⟩
       by_cases hy0 : y = .non
       · subst hy0
         refine ifF rfl ?_
         exact ifF rfl ⟨_, _, rfl, s3⟩
       · refine ifT (by rw [decide_eq_false hy0]; rfl) ?_
         refine ⟨_, rfl, _, rfl, a, xs, rfl, sq1.same s3, _, 1, rfl, rfl, y, 0, _, rfl, fy, _, rfl, ?_⟩
         refine ifF ?_ ⟨_, _, rfl, s3⟩
         have z : (decide (y = .non) || btw 0 ((xs.length : Int) - 1) y) = true := oy
         rw [decide_eq_false hy0] at z
         rw [show btw 0 ((xs.length : Int) - 1) y = true from z]
         rfl
     · rintro σ H2 ⟨v2, v3, rfl, s2⟩
       have hp2 := s2 _ _ hp1
       rcases sq1.same s2 with z | z
       · refine ⟨_, rfl, a, xs, rfl, .inl ⟨z, fun t nt => ?_⟩⟩
         have np : p ≠ t := ne_of_none hp2 nt
         refine ⟨_, rfl, p, C, dx, [], rfl, (by rw [upd_ne np]; exact hp2), cl, nI, (by show 0 < 1000; decide), ?_⟩
         refine k t _ (fun b o n e => ?_) upd_same (.inl (.inl ?_))
         · rw [upd_ne n]
           exact same_upd nt _ _ (s2 _ _ (s1 _ _ e))
         · rw [upd_ne np.symm]
           exact upd_same
       · refine ⟨_, rfl, a, xs, rfl, .inr ⟨z, ?_⟩⟩
         refine ⟨_, rfl, p, C, dx, [], rfl, hp2, cl, nI, (by show 0 < 1000; decide), ?_⟩
         refine k a _ (fun b o n e => ?_) upd_same (SqT.but hp2 But.upd z)
         rw [upd_ne n]
         exact s2 _ _ (s1 _ _ e)
end
end K06

set_option Elab.async false
set_option linter.all false
set_option maxRecDepth 100000
set_option maxHeartbeats 8000000
namespace K06
open PySem PySem.Spec PyProof.Rows L2 Lf
/-- what the head says, for one module -/
structure Txt (P : Program) (w : World) (K : PySem.W.Frag) (mg : Str → Option Value) (base : Heap) : Prop where
  d : He.SaysD fa fn K
  m : ex K = true
  gl : ∀ (i : Nat) (x : Str), fa[i]? = some (.glo x) → mg x = some (.ref (He.ga K x))
  fr : ∀ (i : Nat) (x : Str), fa[i]? = some (.free x) → mg x = none
  it : ∀ (i : Nat) (x : Str) (v : Int), fa[i]? = some (.int x v) → ∃ t, mg x = some (.int v t)
structure OwnC (K : PySem.W.Frag) (x : Str) : Prop where
  ha : PySem.W.findIn K (.ref (He.ga K x)) "__class__" = some (some (.builtin "object.__class__"))
  hn : PySem.W.specialIn K (.builtin "object.__class__") "__get__" = some (some (.builtin "getset_descriptor.__get__"))
  tk : PySem.W.takesIn K (.builtin "object.__class__") = some true
  hm : PySem.W.mroIn K (He.ga K x) (.type "object") = some true
  no : ∀ b ∈ ["int", "bool", "str", "list", "tuple"], PySem.W.kitOne K (.ref (He.ga K x)) (.type b) = some false
  on : ∀ b ∈ ["NoneType", "int", "bool", "str", "list", "tuple", "dict"], PySem.W.kitOne K (.type b) (.ref (He.ga K x)) = some false
  is : ∀ y ∈ owns, PySem.W.kitOne K (.ref (He.ga K x)) (.ref (He.ga K y)) = some (decide (x = y))
theorem ownB_ok {K : PySem.W.Frag} {x : Str} (h : ownB K x = true) : OwnC K x := by
  unfold ownB at h
  simp only [Bool.and_eq_true, decide_eq_true_eq, List.all_eq_true] at h
  obtain ⟨a, b, c, d, e, f, g⟩ := h
  exact ⟨a, b, c, d, e, f, g⟩
abbrev cls (K : PySem.W.Frag) : List Addr := owns.map fun y => He.ga K y
section
variable {P : Program} {w : World} {K : PySem.W.Frag} {mg : Str → Option Value} {base : Heap}
theorem Txt.own (T : Txt P w K mg base) {x : Str} (h : x ∈ owns) : OwnC K x :=
  ownB_ok (List.all_eq_true.mp (He.ba (He.ba (He.ba T.m).2).2).1 x h)
theorem Txt.ops (T : Txt P w K mg base) {x : Str} (h : x ∈ opsl) : Ops K (cls K) (He.ga K x) :=
  ops_ok (List.all_eq_true.mp (He.ba (He.ba (He.ba T.m).2).2).2 x h)
/-- which of the own classes a type is -/
def IsOf (K : PySem.W.Frag) (t : Value) (c : Option Str) : Prop := ∀ y ∈ owns, PySem.W.kitOne K t (.ref (He.ga K y)) = some (decide (c = some y))
theorem OwnC.isOf {x : Str} (o : OwnC K x) : IsOf K (.ref (He.ga K x)) (some x) := fun y hy => by
  rw [o.is y hy]
  congr 1
  simp
theorem Txt.isOf (T : Txt P w K mg base) {b : String} (h : b ∈ ["NoneType", "int", "bool", "str", "list", "tuple", "dict"]) : IsOf K (.type b) none := fun y hy => by
  rw [(T.own hy).on b h]
  congr 1
theorem OwnC.ty {x : Str} {H : Hp} {a dx : Addr} {fs : List (Str × V)} (o : OwnC K x) (cl : L2.Cls K (He.ga K x)) (h : H a = some (.ins (He.ga K x) dx fs)) : TyX K H (.ref a) (.ref (He.ga K x)) := .base (.ins h cl o.ha o.hn o.tk o.hm)
end
/-- an element of a class, or what is none: its shape -/
inductive ShOf (K : PySem.W.Frag) (H : Hp) : V → Option (List V) → Prop
  | map {a dx t : Addr} {xs : List V} (h : H a = some (.ins (He.ga K "Map") dx [("images", .ref t)])) (q : SqT K H t xs) : ShOf K H (.ref a) (some [.str "map", .int xs.length])
  | part {a dx t : Addr} {xs : List V} (h : H a = some (.ins (He.ga K "Part") dx [("images", .ref t)])) (q : SqT K H t xs) : ShOf K H (.ref a) (some [.str "part", .int xs.length])
  | rel {a dx t : Addr} {xs : List V} (h : H a = some (.ins (He.ga K "Relation") dx [("rows", .ref t)])) (q : SqT K H t xs) : ShOf K H (.ref a) (some [.str "relation", .int xs.length])
  | grid {a dx t : Addr} {xs : List V} {l p : Int} {fs : List (Str × V)} (h : H a = some (.ins (He.ga K "Grid") dx fs)) (h1 : fs.lookup ("rows" : Str) = some (.ref t)) (h2 : fs.lookup ("least" : Str) = some (.int l)) (h3 : fs.lookup ("period" : Str) = some (.int p)) (q : SqT K H t xs) : ShOf K H (.ref a) (some [.str "grid", .int xs.length, .int l, .int p])
  | no {x : V} {b : String} (h : TyX K H x (.type b)) (hb : b ∈ ["NoneType", "int", "bool", "str", "list", "tuple", "dict"]) : ShOf K H x none
def spShape (K : PySem.W.Frag) : Sp := fun vs H Q _ => ∃ x s, vs = [x] ∧ ShOf K H x s ∧ (s = none → Q .non H) ∧ ∀ ys, s = some ys → ∀ p, H p = none → Q (.ref p) (upd H p (.tup ys))
section
variable {P : Program} {w : World} {K : PySem.W.Frag} {mg : Str → Option Value} {base : Heap}
theorem scShape : FnScope ["x"] ["x"] (defScope s_shape_of) := ⟨rfl, rfl, rfl, by decide +kernel, rfl, by decide +kernel, by decide +kernel⟩
theorem ok_shape {f : Addr} {fd : FuncData} {q : Str} (F : FunD K "shape_of" q (defArgs s_shape_of) (defBody s_shape_of) (defScope s_shape_of) [] [] f fd) (T : Txt P w K mg base) : FnOk P w K mg base CX0 1 f fd ["x"] (spShape K) := by
  have zI : mg "isinstance" = none := T.fr 43 "isinstance" rfl
  have zn : mg "len" = none := T.fr 44 "len" rfl
  have g0 := T.gl 4 "Map" rfl
  have g1 := T.gl 5 "Part" rfl
  have g2 := T.gl 6 "Relation" rfl
  have g3 := T.gl 7 "Grid" rfl
  have g4 := T.gl 8 "Toll" rfl
  have c0 : L2.Cls K (He.ga K "Map") := He.cls_ok (T.d.fact 53 (f := .cls "Map") rfl)
  have c1 : L2.Cls K (He.ga K "Part") := He.cls_ok (T.d.fact 58 (f := .cls "Part") rfl)
  have c2 : L2.Cls K (He.ga K "Relation") := He.cls_ok (T.d.fact 63 (f := .cls "Relation") rfl)
  have c3 : L2.Cls K (He.ga K "Grid") := He.cls_ok (T.d.fact 68 (f := .cls "Grid") rfl)
  have n0 : NoAttr K (He.ga K "Map") "images" := He.noat_ok (T.d.fact 57 (f := .noat "Map" "images") rfl)
  have n1 : NoAttr K (He.ga K "Part") "images" := He.noat_ok (T.d.fact 62 (f := .noat "Part" "images") rfl)
  have n2 : NoAttr K (He.ga K "Relation") "rows" := He.noat_ok (T.d.fact 67 (f := .noat "Relation" "rows") rfl)
  have n3 : NoAttr K (He.ga K "Grid") "rows" := He.noat_ok (T.d.fact 72 (f := .noat "Grid" "rows") rfl)
  have n4 : NoAttr K (He.ga K "Grid") "least" := He.noat_ok (T.d.fact 73 (f := .noat "Grid" "least") rfl)
  have n5 : NoAttr K (He.ga K "Grid") "period" := He.noat_ok (T.d.fact 74 (f := .noat "Grid" "period") rfl)
  refine F.ok scShape (fun vs H Q E h => ?_) (fun cdv A outer s H vs Q E hr h => ?_)
  · obtain ⟨x, s, rfl, _⟩ := h
    rfl
  · obtain ⟨x, s, rfl, sh, kn, ks⟩ := h
    refine ⟨_, PSs.nox (pss_cons (ps_if (pt_val (pe_callB call_isi rfl zI PyProof.Rows.boot_isinstance (pa_cons (pv 0) (pa_cons (pe_cl rfl g0) pa_nil)))) (pss_one (ps_ret (pe_tup (pa_cons pe_str (pa_cons (pe_callB call_len_seq rfl zn boot_len (pa_cons (pe_fld (pv 0) rfl) pa_nil)) pa_nil))))) pss_nil)
      (pss_cons (ps_if (pt_val (pe_callB call_isi rfl zI PyProof.Rows.boot_isinstance (pa_cons (pv 0) (pa_cons (pe_cl rfl g1) pa_nil)))) (pss_one (ps_ret (pe_tup (pa_cons pe_str (pa_cons (pe_callB call_len_seq rfl zn boot_len (pa_cons (pe_fld (pv 0) rfl) pa_nil)) pa_nil))))) pss_nil)
      (pss_cons (ps_if (pt_val (pe_callB call_isi rfl zI PyProof.Rows.boot_isinstance (pa_cons (pv 0) (pa_cons (pe_cl rfl g2) pa_nil)))) (pss_one (ps_ret (pe_tup (pa_cons pe_str (pa_cons (pe_callB call_len_seq rfl zn boot_len (pa_cons (pe_fld (pv 0) rfl) pa_nil)) pa_nil))))) pss_nil)
      (pss_cons (ps_if (pt_val (pe_callB call_isi rfl zI PyProof.Rows.boot_isinstance (pa_cons (pv 0) (pa_cons (pe_cl rfl g3) pa_nil)))) (pss_one (ps_ret (pe_tup (pa_cons pe_str (pa_cons (pe_callB call_len_seq rfl zn boot_len (pa_cons (pe_fld (pv 0) rfl) pa_nil)) (pa_cons (pe_fld (pv 0) rfl) (pa_cons (pe_fld (pv 0) rfl) pa_nil))))))) pss_nil)
      (pss_cons (ps_if (pt_val (pe_callB call_isi rfl zI PyProof.Rows.boot_isinstance (pa_cons (pv 0) (pa_cons (pe_cl rfl g4) pa_nil)))) (pss_one ps_never) pss_nil)
      (pss_one (ps_ret pe_non))))))), ?_⟩
    cases sh with
    | map h q =>
      have ty := (T.own (x := "Map") (by decide)).ty c0 h
      have is := (T.own (x := "Map") (by decide)).isOf
      refine ⟨_, rfl, _, .ref _, _, _, _, rfl, .own _, ty, is "Map" (by decide), _, rfl, ?_⟩
      refine ifT (by decide +kernel) ?_
      refine ⟨_, rfl, _, _, _, _, _, rfl, h, c0, n0, rfl, _, _, rfl, .inr q, ?_⟩
      exact ⟨(by show 2 ≤ sizeLine; decide), fun p np => ks _ rfl p np⟩
    | part h q =>
      have ty := (T.own (x := "Part") (by decide)).ty c1 h
      have is := (T.own (x := "Part") (by decide)).isOf
      refine ⟨_, rfl, _, .ref _, _, _, _, rfl, .own _, ty, is "Map" (by decide), _, rfl, ?_⟩
      refine ifF (by decide +kernel) ?_
      refine ⟨_, rfl, _, .ref _, _, _, _, rfl, .own _, ty, is "Part" (by decide), _, rfl, ?_⟩
      refine ifT (by decide +kernel) ?_
      refine ⟨_, rfl, _, _, _, _, _, rfl, h, c1, n1, rfl, _, _, rfl, .inr q, ?_⟩
      exact ⟨(by show 2 ≤ sizeLine; decide), fun p np => ks _ rfl p np⟩
    | rel h q =>
      have ty := (T.own (x := "Relation") (by decide)).ty c2 h
      have is := (T.own (x := "Relation") (by decide)).isOf
      refine ⟨_, rfl, _, .ref _, _, _, _, rfl, .own _, ty, is "Map" (by decide), _, rfl, ?_⟩
      refine ifF (by decide +kernel) ?_
      refine ⟨_, rfl, _, .ref _, _, _, _, rfl, .own _, ty, is "Part" (by decide), _, rfl, ?_⟩
      refine ifF (by decide +kernel) ?_
      refine ⟨_, rfl, _, .ref _, _, _, _, rfl, .own _, ty, is "Relation" (by decide), _, rfl, ?_⟩
      refine ifT (by decide +kernel) ?_
      refine ⟨_, rfl, _, _, _, _, _, rfl, h, c2, n2, rfl, _, _, rfl, .inr q, ?_⟩
      exact ⟨(by show 2 ≤ sizeLine; decide), fun p np => ks _ rfl p np⟩
    | grid h h1 h2 h3 q =>
      have ty := (T.own (x := "Grid") (by decide)).ty c3 h
      have is := (T.own (x := "Grid") (by decide)).isOf
      refine ⟨_, rfl, _, .ref _, _, _, _, rfl, .own _, ty, is "Map" (by decide), _, rfl, ?_⟩
      refine ifF (by decide +kernel) ?_
      refine ⟨_, rfl, _, .ref _, _, _, _, rfl, .own _, ty, is "Part" (by decide), _, rfl, ?_⟩
      refine ifF (by decide +kernel) ?_
      refine ⟨_, rfl, _, .ref _, _, _, _, rfl, .own _, ty, is "Relation" (by decide), _, rfl, ?_⟩
      refine ifF (by decide +kernel) ?_
      refine ⟨_, rfl, _, .ref _, _, _, _, rfl, .own _, ty, is "Grid" (by decide), _, rfl, ?_⟩
      refine ifT (by decide +kernel) ?_
      refine ⟨_, rfl, _, _, _, _, _, rfl, h, c3, n3, h1, _, _, rfl, .inr q, ?_⟩
      refine ⟨_, rfl, _, _, _, _, _, rfl, h, c3, n4, h2, ?_⟩
      refine ⟨_, rfl, _, _, _, _, _, rfl, h, c3, n5, h3, ?_⟩
      exact ⟨(by show 4 ≤ sizeLine; decide), fun p np => ks _ rfl p np⟩
    | no ty hb =>
      have is := T.isOf hb
      refine ⟨_, rfl, _, .ref _, _, _, _, rfl, .own _, ty, is "Map" (by decide), _, rfl, ?_⟩
      refine ifF (by decide +kernel) ?_
      refine ⟨_, rfl, _, .ref _, _, _, _, rfl, .own _, ty, is "Part" (by decide), _, rfl, ?_⟩
      refine ifF (by decide +kernel) ?_
      refine ⟨_, rfl, _, .ref _, _, _, _, rfl, .own _, ty, is "Relation" (by decide), _, rfl, ?_⟩
      refine ifF (by decide +kernel) ?_
      refine ⟨_, rfl, _, .ref _, _, _, _, rfl, .own _, ty, is "Grid" (by decide), _, rfl, ?_⟩
      refine ifF (by decide +kernel) ?_
      refine ⟨_, rfl, _, .ref _, _, _, _, rfl, .own _, ty, is "Toll" (by decide), _, rfl, ?_⟩
      refine ifF (by decide +kernel) ?_
      exact kn rfl
end
end K06

set_option Elab.async false
set_option linter.all false
set_option maxRecDepth 100000
set_option maxHeartbeats 8000000
namespace K06
open PySem PySem.Spec PyProof.Rows L2 Lf
/-- a map or a partial map of images xs -/
def El (K : PySem.W.Frag) (H : Hp) (x : V) (c : Str) (xs : List V) : Prop := ∃ a dx t, x = .ref a ∧ H a = some (.ins (He.ga K c) dx [("images", .ref t)]) ∧ SqT K H t xs
theorem El.same {K : PySem.W.Frag} {H H' : Hp} {x : V} {c : Str} {xs : List V} (h : El K H x c xs) (e : Same H H') : El K H' x c xs := by
  obtain ⟨a, dx, t, rfl, h, q⟩ := h
  exact ⟨a, dx, t, rfl, e _ _ h, Lf.SqT.same e q⟩
/-- the data of a flat value -/
def dOf : V → PyData
  | .bl b => .bool b
  | .int i => .int i
  | .str s => .str s
  | _ => .none
theorem flat_dp {K : PySem.W.Frag} {H : Hp} {x : V} (h : Flat x) : Dp K H x (dOf x) := by
  cases x with
  | non => exact .non
  | bl b => exact .bl b
  | int i => exact .int i
  | str s => exact .str s
  | byt _ => exact h.elim
  | flt _ => exact h.elim
  | ref _ => exact h.elim
  | ty _ => exact h.elim
theorem flat_dpAll {K : PySem.W.Frag} {H : Hp} : ∀ {xs : List V}, (∀ x ∈ xs, Flat x) → DpAll K H xs (xs.map dOf)
  | [], _ => .nil
  | x :: xs, h => .cons (flat_dp (h x (by simp))) (flat_dpAll fun y hy => h y (by simp [hy]))
/-- an image: a number or nothing -/
def Img (x : V) : Prop := x = .non ∨ ∃ i : Int, x = .int i
theorem Img.flat {x : V} (h : Img x) : Flat x := by
  rcases h with rfl | ⟨i, rfl⟩ <;> exact True.intro
theorem one_can {x : V} (h : Img x) : PyData.canLay0 (dOf x) = true ∧ PyData.depth (dOf x) = 0 := by
  rcases h with rfl | ⟨i, rfl⟩ <;> simp [dOf, PyData.canLay0, PyData.depth]
theorem flat_all : ∀ {xs : List V}, (∀ x ∈ xs, Img x) → PyData.canLayAll0 (xs.map dOf) = true ∧ PyData.depthAll (xs.map dOf) = 0
  | [], _ => by simp [PyData.canLayAll0, PyData.depthAll]
  | x :: xs, h => by
    have a := one_can (h x (by simp))
    have b := flat_all (xs := xs) fun y hy => h y (by simp [hy])
    simp [PyData.canLayAll0, PyData.depthAll, a.1, a.2, b.1, b.2]
theorem flat_can {xs : List V} (h : ∀ x ∈ xs, Img x) : SeqAt.shaped (.tuple (xs.map dOf)) = true := by
  have a := flat_all h
  unfold SeqAt.shaped
  simp [PyData.canLay0, PyData.depth, a.1, a.2]
theorem same_eqv {xs : List V} (h : ∀ x ∈ xs, Img x) : PyData.eqv (.tuple (xs.map dOf)) (.tuple (xs.map dOf)) = true := SeqAt.eqv_refl _ (SeqAt.canLay_of_shaped (flat_can h))
theorem img_dpAll {K : PySem.W.Frag} {H : Hp} {xs : List V} (h : ∀ x ∈ xs, Img x) : DpAll K H xs (xs.map dOf) := flat_dpAll fun x hx => (h x hx).flat
def spEqS (K : PySem.W.Frag) (c : Str) : Sp := fun vs H Q _ => ∃ x y xs, vs = [x, y] ∧ El K H x c xs ∧ El K H y c xs ∧ (∀ x ∈ xs, Img x) ∧ Q (.bl true) H
section
variable {P : Program} {w : World} {K : PySem.W.Frag} {mg : Str → Option Value} {base : Heap}
theorem scEqM : FnScope ["self", "other"] ["self", "other"] (defScope s_Map_eq) := ⟨rfl, rfl, rfl, by decide +kernel, rfl, by decide +kernel, by decide +kernel⟩
theorem ok_eqM {f : Addr} {fd : FuncData} {q : Str} (F : FunD K "__eq__" q (defArgs s_Map_eq) (defBody s_Map_eq) (defScope s_Map_eq) [] [] f fd) (T : Txt P w K mg base) : FnOk P w K mg base CX0 1 f fd ["self", "other"] (spEqS K "Map") := by
  have zI : mg "isinstance" = none := T.fr 43 "isinstance" rfl
  have g0 := T.gl 4 "Map" rfl
  have c0 : L2.Cls K (He.ga K "Map") := He.cls_ok (T.d.fact 53 (f := .cls "Map") rfl)
  have n0 : NoAttr K (He.ga K "Map") "images" := He.noat_ok (T.d.fact 57 (f := .noat "Map" "images") rfl)
  refine F.ok scEqM (fun vs H Q E h => ?_) (fun cdv A outer s H vs Q E hr h => ?_)
  · obtain ⟨x, y, xs, rfl, _⟩ := h
    rfl
  · obtain ⟨x, y, xs, rfl, ⟨a, dx, t, rfl, ha, qa⟩, ⟨b, dy, u, rfl, hb, qb⟩, fl, k⟩ := h
    refine ⟨_, PSs.nox (pss_one (ps_ret (pe_and (pe_callB call_isi rfl zI PyProof.Rows.boot_isinstance (pa_cons (pv 1) (pa_cons (pe_cl rfl g0) pa_nil))) (pe_one (pe_cmpR (op_eqD hr.units) (pe_fld (pv 0) rfl) (pe_fld (pv 1) rfl) (nomark _)))))), ?_⟩
    have ty := (T.own (x := "Map") (by decide)).ty c0 hb
    have is := (T.own (x := "Map") (by decide)).isOf
    refine ⟨_, rfl, _, .ref _, _, _, _, rfl, .own _, ty, is "Map" (by decide), _, rfl, ?_⟩
    refine ifT (by decide +kernel) ?_
    refine ⟨_, rfl, _, _, _, _, _, rfl, ha, c0, n0, rfl, _, rfl, _, _, _, _, _, rfl, hb, c0, n0, rfl, ?_⟩
    refine ⟨_, _, .tup qa (img_dpAll fl), .tup qb (img_dpAll fl), flat_can fl, flat_can fl, ?_⟩
    rw [same_eqv fl]
    exact k
theorem scEqP : FnScope ["self", "other"] ["self", "other"] (defScope s_Part_eq) := ⟨rfl, rfl, rfl, by decide +kernel, rfl, by decide +kernel, by decide +kernel⟩
theorem ok_eqP {f : Addr} {fd : FuncData} {q : Str} (F : FunD K "__eq__" q (defArgs s_Part_eq) (defBody s_Part_eq) (defScope s_Part_eq) [] [] f fd) (T : Txt P w K mg base) : FnOk P w K mg base CX0 1 f fd ["self", "other"] (spEqS K "Part") := by
  have zI : mg "isinstance" = none := T.fr 43 "isinstance" rfl
  have g0 := T.gl 5 "Part" rfl
  have c0 : L2.Cls K (He.ga K "Part") := He.cls_ok (T.d.fact 58 (f := .cls "Part") rfl)
  have n0 : NoAttr K (He.ga K "Part") "images" := He.noat_ok (T.d.fact 62 (f := .noat "Part" "images") rfl)
  refine F.ok scEqP (fun vs H Q E h => ?_) (fun cdv A outer s H vs Q E hr h => ?_)
  · obtain ⟨x, y, xs, rfl, _⟩ := h
    rfl
  · obtain ⟨x, y, xs, rfl, ⟨a, dx, t, rfl, ha, qa⟩, ⟨b, dy, u, rfl, hb, qb⟩, fl, k⟩ := h
    refine ⟨_, PSs.nox (pss_one (ps_ret (pe_and (pe_callB call_isi rfl zI PyProof.Rows.boot_isinstance (pa_cons (pv 1) (pa_cons (pe_cl rfl g0) pa_nil))) (pe_one (pe_cmpR (op_eqD hr.units) (pe_fld (pv 0) rfl) (pe_fld (pv 1) rfl) (nomark _)))))), ?_⟩
    have ty := (T.own (x := "Part") (by decide)).ty c0 hb
    have is := (T.own (x := "Part") (by decide)).isOf
    refine ⟨_, rfl, _, .ref _, _, _, _, rfl, .own _, ty, is "Part" (by decide), _, rfl, ?_⟩
    refine ifT (by decide +kernel) ?_
    refine ⟨_, rfl, _, _, _, _, _, rfl, ha, c0, n0, rfl, _, rfl, _, _, _, _, _, rfl, hb, c0, n0, rfl, ?_⟩
    refine ⟨_, _, .tup qa (img_dpAll fl), .tup qb (img_dpAll fl), flat_can fl, flat_can fl, ?_⟩
    rw [same_eqv fl]
    exact k
end
end K06

set_option Elab.async false
set_option linter.all false
set_option maxRecDepth 100000
set_option maxHeartbeats 8000000
namespace K06
open PySem PySem.Spec PyProof.Rows L2 Lf
/-- the names of the two kinds -/
def low : Str → Str := fun c => if c = "Map" then "map" else "part"
theorem El.shape {K : PySem.W.Frag} {H : Hp} {x : V} {c : Str} {xs : List V} (hc : c ∈ (["Map", "Part"] : List Str)) (h : El K H x c xs) : ShOf K H x (some [.str (low c), .int xs.length]) := by
  obtain ⟨a, dx, t, rfl, h, q⟩ := h
  simp only [List.mem_cons, List.not_mem_nil, or_false] at hc
  rcases hc with rfl | rfl
  · exact .map h q
  · have e : low "Part" = "part" := by decide +kernel
    rw [e]
    exact .part h q
/-- a new instance of a class, made by its __init__ from a list or tuple -/
theorem made_same {H0 H' : Hp} {p dx C : Addr} (np : H0 p = none) (nd : H0 dx = none) (b : But p (upd (upd H0 dx (.own p)) p (.ins C dx [])) H') : Same H0 H' := fun c o h => by
  have n1 : c ≠ p := ne_of_none h np
  have n2 : c ≠ dx := ne_of_none h nd
  exact b c o n1 (by rw [upd_ne n1, upd_ne n2]; exact h)
theorem mk_in {K : PySem.W.Frag} {c : Str} {ok : Int → V → Bool} {H0 : Hp} {a x dx : Addr} {xs : List V} {Q : VK} {E : XK} (np : H0 x = none) (nd : H0 dx = none) (ne : dx ≠ x) (q : Sq K H0 a xs) (l1 : 1 ≤ xs.length) (l10 : xs.length ≤ 10)
    (all : ∀ y ∈ xs, Flat y ∧ ok xs.length y = true) (k : ∀ y H', Same H0 H' → El K H' y c xs → Q y H') :
    spIni K (He.ga K c) ok [.ref x, .ref a] (upd (upd H0 dx (.own x)) x (.ins (He.ga K c) dx [])) (fun v H2 => v = .non ∧ Q (.ref x) H2) E := by
  have s1 : Same H0 (upd (upd H0 dx (.own x)) x (.ins (He.ga K c) dx [])) := made_same np nd (But.refl)
  refine ⟨x, a, dx, xs, rfl, upd_same, q.same s1, l1, l10, all, fun t H' b ht qt => ⟨rfl, ?_⟩⟩
  exact k _ _ (made_same np nd b) ⟨x, dx, t, rfl, ht, qt⟩
def spCont (K : PySem.W.Frag) : Sp := fun vs H Q _ => ∃ x c xs, vs = [x] ∧ c ∈ (["Map", "Part"] : List Str) ∧ El K H x c xs ∧ ∀ t H', Same H H' → SqT K H' t xs → Q (.ref t) H'
def spKind (K : PySem.W.Frag) : Sp := fun vs H Q _ => ∃ x c xs, vs = [x] ∧ c ∈ (["Map", "Part"] : List Str) ∧ El K H x c xs ∧ ∀ H', Same H H' → Q (.str (low c)) H'
section
variable {P : Program} {w : World} {K : PySem.W.Frag} {mg : Str → Option Value} {base : Heap}
theorem Txt.el (T : Txt P w K mg base) {c : Str} (hc : c ∈ (["Map", "Part"] : List Str)) : c ∈ owns ∧ L2.Cls K (He.ga K c) ∧ NoAttr K (He.ga K c) "images" ∧ mg c = some (.ref (He.ga K c)) := by
  have c0 : L2.Cls K (He.ga K "Map") := He.cls_ok (T.d.fact 53 (f := .cls "Map") rfl)
  have c1 : L2.Cls K (He.ga K "Part") := He.cls_ok (T.d.fact 58 (f := .cls "Part") rfl)
  have n0 : NoAttr K (He.ga K "Map") "images" := He.noat_ok (T.d.fact 57 (f := .noat "Map" "images") rfl)
  have n1 : NoAttr K (He.ga K "Part") "images" := He.noat_ok (T.d.fact 62 (f := .noat "Part" "images") rfl)
  simp only [List.mem_cons, List.not_mem_nil, or_false] at hc
  rcases hc with rfl | rfl
  · exact ⟨by decide, c0, n0, T.gl 4 "Map" rfl⟩
  · exact ⟨by decide, c1, n1, T.gl 5 "Part" rfl⟩
theorem scKind : FnScope ["x", "shape"] ["x"] (defScope s_kind_of) := ⟨rfl, rfl, rfl, by decide +kernel, rfl, by decide +kernel, by decide +kernel⟩
theorem ok_kind {f : Addr} {fd : FuncData} {q : Str} (F : FunD K "_kind_of" q (defArgs s_kind_of) (defBody s_kind_of) (defScope s_kind_of) [] [] f fd) (T : Txt P w K mg base) (DS : Def P w K mg base CX0 1 "shape_of" ["x"] (spShape K)) : FnOk P w K mg base CX0 2 f fd ["x"] (spKind K) := by
  refine F.ok scKind (fun vs H Q E h => ?_) (fun cdv A outer s H vs Q E hr h => ?_)
  · obtain ⟨x, c, xs, rfl, _⟩ := h
    rfl
  · obtain ⟨x, c, xs, rfl, hc, el, k⟩ := h
    refine ⟨_, PSs.nox (pss_cons (ps_set (i := 1) scKind.nd rfl (Or.inl rfl) (pe_def DS hr pass0 rfl (pa_cons (pv 0) pa_nil)))
      (pss_cons (ps_if (pt_cmp (pc_isN (pv 1))) (pss_one ps_never) pss_nil)
      (pss_one (ps_ret (pe_ix ix_tup (pv 1) pe_int (fun _ _ => rfl)))))), ?_⟩
    refine ⟨_, rfl, x, some [.str (low c), .int xs.length], rfl, el.shape hc, ⟨fun z => (nomatch z), fun ys e p np => ?_⟩⟩
    cases e
    refine ⟨_, rfl, _, rfl, ?_⟩
    refine ifF rfl ?_
    refine ⟨_, rfl, p, _, 0, .str (low c), rfl, rfl, SqT.of upd_same, rfl, ?_⟩
    exact k _ (same_upd np)
theorem scCont : FnScope ["x"] ["x"] (defScope s_content_of) := ⟨rfl, rfl, rfl, by decide +kernel, rfl, by decide +kernel, by decide +kernel⟩
theorem ok_cont {f : Addr} {fd : FuncData} {q : Str} (F : FunD K "content_of" q (defArgs s_content_of) (defBody s_content_of) (defScope s_content_of) [] [] f fd) (T : Txt P w K mg base) : FnOk P w K mg base CX0 1 f fd ["x"] (spCont K) := by
  have zI : mg "isinstance" = none := T.fr 43 "isinstance" rfl
  refine F.ok scCont (fun vs H Q E h => ?_) (fun cdv A outer s H vs Q E hr h => ?_)
  · obtain ⟨x, c, xs, rfl, _⟩ := h
    rfl
  · obtain ⟨x, c, xs, rfl, hc, el, k⟩ := h
    obtain ⟨ho, cl, na, _⟩ := T.el hc
    refine ⟨_, PSs.nox (pss_cons (ps_if (pt_val (pe_callB call_isiT rfl zI PyProof.Rows.boot_isinstance (pa_cons (pv 0) (pa_cons (pe_tup (pa_cons (pe_cl rfl (T.gl 4 "Map" rfl)) (pa_cons (pe_cl rfl (T.gl 5 "Part" rfl)) pa_nil))) pa_nil)))) (pss_one (ps_ret (pe_fld (pv 0) rfl))) pss_nil)
      (pss_one ps_never)), ?_⟩
    refine ⟨_, rfl, (by show 2 ≤ sizeLine; decide), fun p np => ?_⟩
    have sm := same_upd (o := .tup [.ref (He.ga K "Map"), .ref (He.ga K "Part")]) np
    obtain ⟨a, dx, t, rfl, ha, qa⟩ := el.same sm
    have ty := (T.own ho).ty cl ha
    have is := (T.own ho).isOf
    have ka : PySem.W.kitAny K (.ref (He.ga K c)) [.ref (He.ga K "Map"), .ref (He.ga K "Part")] = some true := by
      refine kitAny_cons (is "Map" (by decide)) (fun z => ?_) (fun _ => rfl)
      refine kitAny_cons (is "Part" (by decide)) (fun z2 => ?_) (fun _ => rfl)
      simp only [List.mem_cons, List.not_mem_nil, or_false] at hc
      rcases hc with rfl | rfl
      · exact absurd z (by decide +kernel)
      · exact absurd z2 (by decide +kernel)
    refine ⟨_, p, _, _, _, true, rfl, upd_same, .cons (.own _) (.cons (.own _) .nil), ty, ka, true, rfl, ?_⟩
    refine ifT rfl ?_
    exact ⟨_, rfl, _, _, _, _, _, rfl, ha, cl, na, rfl, k _ _ sm qa⟩
end
end K06

set_option Elab.async false
set_option linter.all false
set_option maxRecDepth 100000
set_option maxHeartbeats 8000000
namespace K06
open PySem PySem.Spec PyProof.Rows L2 Lf
/-- the images of the one -/
def idV (n : Nat) : List V := (List.range n).map fun i => .int (i : Nat)
theorem rgV_id (n : Nat) : rgV 0 (n : Nat) = idV n := by
  unfold rgV idV
  rw [show ((n : Int) - 0).toNat = n by omega]
  apply List.map_congr_left
  intro i _
  simp
theorem idV_len (n : Nat) : (idV n).length = n := by simp [idV]
theorem idV_ok {n : Nat} : ∀ y ∈ idV n, Flat y ∧ btw 0 ((n : Nat) - 1) y = true := fun y hy => by
  unfold idV at hy
  obtain ⟨i, hi, rfl⟩ := List.mem_map.mp hy
  have := List.mem_range.mp hi
  refine ⟨True.intro, ?_⟩
  show (decide ((0 : Int) ≤ (i : Nat)) && decide (((i : Nat) : Int) ≤ (n : Nat) - 1)) = true
  rw [decide_eq_true (by omega), decide_eq_true (by omega)]
  rfl
theorem idV_part {n : Nat} : ∀ y ∈ idV n, Flat y ∧ partOk (n : Nat) y = true := fun y hy => by
  refine ⟨(idV_ok y hy).1, ?_⟩
  show (decide (y = .non) || btw 0 _ y) = true
  rw [(idV_ok y hy).2]
  simp
def spOne (K : PySem.W.Frag) : Sp := fun vs H Q _ => ∃ x c xs, vs = [x] ∧ c ∈ (["Map", "Part"] : List Str) ∧ El K H x c xs ∧ 1 ≤ xs.length ∧ xs.length ≤ 10 ∧ ∀ y H', Same H H' → El K H' y c (idV xs.length) → Q y H'
/-- a class whose instances are made from images -/
structure MadeC (P : Program) (w : World) (K : PySem.W.Frag) (mg : Str → Option Value) (base : Heap) (c : Str) (ok : Int → V → Bool) : Prop where
  ex : ∃ f fd, L2.Mk K (He.ga K c) f ∧ FnOk P w K mg base CX0 3 f fd ["self", "images"] (spIni K (He.ga K c) ok) ∧ L2.Binds K fd ["self", "images"] []
section
variable {P : Program} {w : World} {K : PySem.W.Frag} {mg : Str → Option Value} {base : Heap}
theorem made_M (T : Txt P w K mg base) (DS : Def P w K mg base CX0 1 "is_sequence" ["thing", "least", "most"] (spSeq K)) (DB : Def P w K mg base CX0 2 "is_between" ["thing", "least", "most"] spBtw) : MadeC P w K mg base "Map" mapOk := by
  obtain ⟨t, gt⟩ := T.it 32 "MOST_POINTS" 10 rfl
  obtain ⟨fd, F⟩ := T.d.def_ 9 (d := d_Map_init) rfl
  have m : L2.Mk K (He.ga K "Map") (He.ma K (He.ga K "Map") "__init__") := He.mkr_ok (T.d.fact 54 (f := .mkr "Map") rfl)
  have c0 : L2.Cls K (He.ga K "Map") := He.cls_ok (T.d.fact 53 (f := .cls "Map") rfl)
  have n0 : NoAttr K (He.ga K "Map") "images" := He.noat_ok (T.d.fact 57 (f := .noat "Map" "images") rfl)
  exact ⟨_, fd, m, ok_mapI F DS DB gt (T.fr 41 "enumerate" rfl) (T.fr 44 "len" rfl) (T.fr 51 "tuple" rfl) c0 n0, F.bindsN fun _ _ _ _ _ _ us hl => match us, hl with | [_, _], _ => rfl⟩
theorem made_P (T : Txt P w K mg base) (DS : Def P w K mg base CX0 1 "is_sequence" ["thing", "least", "most"] (spSeq K)) (DB : Def P w K mg base CX0 2 "is_between" ["thing", "least", "most"] spBtw) : MadeC P w K mg base "Part" partOk := by
  obtain ⟨t, gt⟩ := T.it 32 "MOST_POINTS" 10 rfl
  obtain ⟨fd, F⟩ := T.d.def_ 12 (d := d_Part_init) rfl
  have m : L2.Mk K (He.ga K "Part") (He.ma K (He.ga K "Part") "__init__") := He.mkr_ok (T.d.fact 59 (f := .mkr "Part") rfl)
  have c0 : L2.Cls K (He.ga K "Part") := He.cls_ok (T.d.fact 58 (f := .cls "Part") rfl)
  have n0 : NoAttr K (He.ga K "Part") "images" := He.noat_ok (T.d.fact 62 (f := .noat "Part" "images") rfl)
  exact ⟨_, fd, m, ok_partI F DS DB gt (T.fr 41 "enumerate" rfl) (T.fr 44 "len" rfl) (T.fr 51 "tuple" rfl) c0 n0, F.bindsN fun _ _ _ _ _ _ us hl => match us, hl with | [_, _], _ => rfl⟩
theorem scOne : FnScope ["x", "kind", "points"] ["x"] (defScope s_one_of) := ⟨rfl, rfl, rfl, by decide +kernel, rfl, by decide +kernel, by decide +kernel⟩
theorem ok_one {f : Addr} {fd : FuncData} {q : Str} (F : FunD K "one_of" q (defArgs s_one_of) (defBody s_one_of) (defScope s_one_of) [] [] f fd) (T : Txt P w K mg base) (DK : Def P w K mg base CX0 2 "_kind_of" ["x"] (spKind K)) (DC : Def P w K mg base CX0 1 "content_of" ["x"] (spCont K))
    (M : MadeC P w K mg base "Map" mapOk) (N : MadeC P w K mg base "Part" partOk) : FnOk P w K mg base CX0 5 f fd ["x"] (spOne K) := by
  obtain ⟨fM, dM, mM, FM, bM⟩ := M.ex
  obtain ⟨fN, dN, mN, FN, bN⟩ := N.ex
  have zl : mg "list" = none := T.fr 45 "list" rfl
  have zr : mg "range" = none := T.fr 47 "range" rfl
  have zn : mg "len" = none := T.fr 44 "len" rfl
  refine F.ok scOne (fun vs H Q E h => ?_) (fun cdv A outer s H vs Q E hr h => ?_)
  · obtain ⟨x, c, xs, rfl, _⟩ := h
    rfl
  · obtain ⟨x, c, xs, rfl, hc, el, l1, l10, k⟩ := h
    have r1 : Room 1 _ := hr.mono (by decide)
    have r2 : Room 2 _ := hr.mono (by decide)
    refine ⟨_, PSs.nox (pss_cons (ps_set (i := 1) scOne.nd rfl (Or.inl rfl) (pe_def DK r2 pass0 rfl (pa_cons (pv 0) pa_nil)))
      (pss_cons (ps_set (i := 2) scOne.nd rfl (Or.inr rfl) (pe_listRg rfl rfl zl (prg_1 rfl zr (pe_callB call_len_seq rfl zn boot_len (pa_cons (pe_def DC r1 pass0 rfl (pa_cons (pv 0) pa_nil)) pa_nil)))))
      (pss_cons (ps_if (pt_cmpR op_eq (pv 1) pe_str (nomark _)) (pss_one (ps_ret (pe_make mM FM hr rfl (T.gl 4 "Map" rfl) bM .nil pass0 (pa_cons (pv 2) pa_nil)))) pss_nil)
      (pss_cons (ps_if (pt_cmpR op_eq (pv 1) pe_str (nomark _)) (pss_one (ps_ret (pe_make mN FN hr rfl (T.gl 5 "Part" rfl) bN .nil pass0 (pa_cons (pv 2) pa_nil)))) pss_nil)
      (pss_cons (ps_if (pt_cmpR op_eq (pv 1) pe_str (nomark _)) (pss_one ps_never) pss_nil)
      (pss_cons (ps_if (pt_cmpR op_eq (pv 1) pe_str (nomark _)) (pss_one ps_never) pss_nil)
      (pss_one ps_never))))))), ?_⟩
    refine ⟨_, rfl, x, c, xs, rfl, hc, el, fun H1 s1 => ?_⟩
    refine ⟨_, rfl, x, c, xs, rfl, hc, el.same s1, fun t H2 s2 qt => ?_⟩
    refine ⟨t, xs, rfl, .inr qt, (xs.length : Int), rfl, ⟨by decide, by decide, by omega, by omega, by omega⟩, fun l nl => ?_⟩
    have s3 := (s1.trans s2).trans (same_upd (o := .lst (rgV 0 (xs.length : Int))) nl)
    rw [rgV_id] at s3 ⊢
    have hl : L2.upd H2 l (.lst (idV xs.length)) l = some (.lst (idV xs.length)) := upd_same
    simp only [List.mem_cons, List.not_mem_nil, or_false] at hc
    rcases hc with rfl | rfl
    · have e : low "Map" = "map" := by decide +kernel
      refine ⟨_, rfl, rfl, _, rfl, ?_⟩
      refine ifT (by rw [e]; rfl) ?_
      refine ⟨_, rfl, fun p dx np nd ne => ?_⟩
      exact mk_in np nd ne (.inl (SqL.of hl)) (by rw [idV_len]; exact l1) (by rw [idV_len]; exact l10) (by rw [idV_len]; exact idV_ok) fun y H' s4 e4 => k y H' (s3.trans s4) e4
    · have e : low "Part" = "part" := by decide +kernel
      refine ⟨_, rfl, rfl, _, rfl, ?_⟩
      refine ifF (by rw [e]; rfl) ?_
      refine ⟨_, rfl, rfl, _, rfl, ?_⟩
      refine ifT (by rw [e]; rfl) ?_
      refine ⟨_, rfl, fun p dx np nd ne => ?_⟩
      exact mk_in np nd ne (.inl (SqL.of hl)) (by rw [idV_len]; exact l1) (by rw [idV_len]; exact l10) (by rw [idV_len]; exact idV_part) fun y H' s4 e4 => k y H' (s3.trans s4) e4
end
end K06

set_option Elab.async false
set_option linter.all false
set_option maxRecDepth 100000
set_option maxHeartbeats 8000000
namespace K06
open PySem PySem.Spec PyProof.Rows L2 Lf
/-- where y takes an image -/
def thru (ys : List V) : V → V
  | .int i => ys.getD i.toNat .non
  | _ => .non
/-- the data of two shapes -/
def shD (c : Str) (n : Nat) : PyData := .tuple [.str (low c), .int (n : Nat)]
theorem thru_ok {n : Nat} {ys : List V} (hy : ys.length = n) (z : V) : True := True.intro
def okOf (c : Str) : Int → V → Bool := if c = "Map" then mapOk else partOk
def spMul (K : PySem.W.Frag) (c : Str) : Sp := fun vs H Q E => ∃ x y xs, vs = [x, y] ∧ El K H x c xs ∧ 1 ≤ xs.length ∧ xs.length ≤ 10 ∧
  ((∃ ys, El K H y c ys ∧ ys.length = xs.length ∧ (∀ z ∈ xs, Flat z ∧ okOf c xs.length z = true) ∧ (∀ z ∈ ys, Flat z ∧ okOf c xs.length z = true) ∧ ∀ r H', Same H H' → El K H' r c (xs.map (thru ys)) → Q r H') ∨
   (∃ s d, ShOf K H y s ∧ d = (match s with | some zs => .tuple (zs.map dOf) | none => .none) ∧ PyData.eqv (shD c xs.length) d = false ∧ SeqAt.shaped d = true ∧ (∀ zs, s = some zs → ∀ z ∈ zs, Flat z) ∧ ∀ H', Same H H' → E (.ref (He.ga K "Unlike")) none H'))
theorem tyx_same {K : PySem.W.Frag} {H H' : Hp} {x : V} {t : Value} (e : Same H H') (h : TyX K H x t) : TyX K H' x t := by
  cases h with
  | base b =>
    cases b with
    | non => exact .base .non
    | bl b => exact .base (.bl b)
    | int i => exact .base (.int i)
    | str s => exact .base (.str s)
    | flt f => exact .base (.flt f)
    | lst h => exact .base (.lst (e _ _ h))
    | frz h => exact .base (.frz (e _ _ h))
    | tup h => exact .base (.tup (e _ _ h))
    | dK h => exact .base (.dK (e _ _ h))
    | dT h => exact .base (.dT (e _ _ h))
    | ins h a b c d f => exact .base (.ins (e _ _ h) a b c d f)
  | byt b => exact .byt b
  | set h => exact .set (e _ _ h)
  | kList h c => exact .kList h c
  | kTuple h c => exact .kTuple h c
  | kDict h c => exact .kDict h c
  | fTuple h => exact .fTuple (e _ _ h)
  | fDict h => exact .fDict (e _ _ h)
theorem ShOf.same {K : PySem.W.Frag} {H H' : Hp} {x : V} {s : Option (List V)} (e : Same H H') (h : ShOf K H x s) : ShOf K H' x s := by
  cases h with
  | map h q => exact .map (e _ _ h) (Lf.SqT.same e q)
  | part h q => exact .part (e _ _ h) (Lf.SqT.same e q)
  | rel h q => exact .rel (e _ _ h) (Lf.SqT.same e q)
  | grid h a b c q => exact .grid (e _ _ h) a b c (Lf.SqT.same e q)
  | no h b => exact .no (tyx_same e h) b
theorem del_same {H H3 : Hp} {a : Addr} {o : HO} (s : Same H H3) (n : H3 a = none) : Same H (delH (L2.upd H3 a o) a) := fun b u e => by
  have nb : b ≠ a := ne_of_none (s _ _ e) n
  show (if b = a then none else L2.upd H3 a o b) = some u
  rw [if_neg nb, upd_ne nb]
  exact s _ _ e
theorem shD_ok {c : Str} {n : Nat} (hc : c ∈ (["Map", "Part"] : List Str)) : SeqAt.shaped (shD c n) = true := by
  simp only [List.mem_cons, List.not_mem_nil, or_false] at hc
  have e1 : low "Map" = "map" := by decide +kernel
  have e2 : low "Part" = "part" := by decide +kernel
  have o1 : PyData.strOk "map" = true := by decide +kernel
  have o2 : PyData.strOk "part" = true := by decide +kernel
  unfold shD SeqAt.shaped
  rcases hc with rfl | rfl
  · simp [e1, PyData.canLay0, PyData.canLayAll0, PyData.depth, PyData.depthAll, o1]
  · simp [e2, PyData.canLay0, PyData.canLayAll0, PyData.depth, PyData.depthAll, o2]
theorem dp_two {K : PySem.W.Frag} {H : Hp} {p : Addr} {s : Str} {i : Int} (h : H p = some (.tup [.str s, .int i])) : Dp K H (.ref p) (.tuple [.str s, .int i]) := .tup (SqT.of h) (.cons (.str s) (.cons (.int i) .nil))
section
variable {P : Program} {w : World} {K : PySem.W.Frag} {mg : Str → Option Value} {base : Heap}
theorem map_img {n : Nat} {z : V} (h : mapOk (n : Nat) z = true) : ∃ i : Nat, z = .int (i : Nat) ∧ i < n := by
  unfold mapOk btw at h
  cases z with
  | int i =>
    simp only [Bool.and_eq_true, decide_eq_true_eq] at h
    exact ⟨i.toNat, by congr 1; omega, by omega⟩
  | _ => cases h
theorem thru_get {ys : List V} {i : Nat} {v : V} (h : ys[i]? = some v) : thru ys (.int (i : Nat)) = v := by
  show ys.getD (i : Int).toNat .non = v
  rw [Int.toNat_natCast, List.getD_eq_getElem?_getD, h]
  rfl
theorem yesT {σ : L2.St} {H : Hp} {A B : Hp → Prop} (h : A H) : tYes σ H fun b H3 => if b = true then A H3 else B H3 := by
  show if true = true then A H else B H
  rw [if_pos rfl]
  exact h
theorem scMulM : FnScope ["self", "other", "image"] ["self", "other"] (defScope s_Map_mul) := ⟨rfl, rfl, rfl, by decide +kernel, rfl, by decide +kernel, by decide +kernel⟩
theorem ok_mulM {f : Addr} {fd : FuncData} {q : Str} (F : FunD K "__mul__" q (defArgs s_Map_mul) (defBody s_Map_mul) (defScope s_Map_mul) [] [] f fd) (T : Txt P w K mg base) (DS : Def P w K mg base CX0 1 "shape_of" ["x"] (spShape K))
    (M : MadeC P w K mg base "Map" mapOk) : FnOk P w K mg base (L2.CX P w) 5 f fd ["self", "other"] (spMul K "Map") := by
  obtain ⟨fM, dM, mM, FM, bM⟩ := M.ex
  have k0 := T.d.fact 84 (f := .exc "Unlike") rfl
  refine F.ok scMulM (fun vs H Q E h => ?_) (fun cdv A outer s H vs Q E hr h => ?_)
  · obtain ⟨x, y, xs, rfl, _⟩ := h
    rfl
  · obtain ⟨x, y, xs', rfl, ex, l1, l10, h⟩ := h
    have r1 : Room 1 _ := hr.mono (by decide)
    refine ⟨_, pss_cons (ps_if (pt_cmpR (op_neD hr.units) (pe_def DS r1 pass0 rfl (pa_cons (pv 0) pa_nil)) (pe_def DS r1 pass0 rfl (pa_cons (pv 1) pa_nil)) (nomark _)) (pss_one (ps_raise rfl (takes_of rfl rfl rfl rfl) (pmk_ret rfl (pe_bare PySem.F.excBase_ValueError (He.exc_ok k0).1 (T.gl 3 "Unlike" rfl) (He.exc_ok k0).2.1 rfl)))) pss_nil)
      (PSs.nox (pss_one (ps_ret (pe_make mM FM hr rfl (T.gl 4 "Map" rfl) bM .nil pass0 (pa_cons (pe_lc (own := [("image", 2)]) (g := gName 2) (te := tOp (rIxT K) (tFld K (tVar 1) "images") (tVar 2)) (by rfl) scMulM.nd (pi_tup (pe_fld (pv 0) rfl)) (blkOk_by (own := [("image", 2)]) (N := ["self", "other", "image"]) (sc := defScope s_Map_mul) (by decide +kernel)) (fun _ _ _ _ _ => pg_name (i := 2) scMulM.nd rfl (Or.inl rfl)) (fun _ _ _ _ _ => pts_nil)
        (fun _ _ _ _ _ => by exact pe_ix ix_tup (pe_fld (pv 1) rfl) (pv 2) (fun _ _ => rfl))) pa_nil))))), ?_⟩
    have cl : L2.Cls K (He.ga K "Map") := (T.el (c := "Map") (by decide)).2.1
    have na : NoAttr K (He.ga K "Map") "images" := (T.el (c := "Map") (by decide)).2.2.1
    have hM : (("Map" : Str) ∈ (["Map", "Part"] : List Str)) := by decide
    have e1 : low "Map" = "map" := by decide +kernel
    refine ⟨_, rfl, x, some [.str (low "Map"), .int xs'.length], rfl, ex.shape hM, ⟨fun z => (nomatch z), fun zs e p np => ?_⟩⟩
    cases e
    have s1 := same_upd (o := .tup [.str (low "Map"), .int xs'.length]) np
    have hp : L2.upd H p (.tup [.str (low "Map"), .int xs'.length]) p = some (.tup [.str (low "Map"), .int xs'.length]) := upd_same
    generalize L2.upd H p (.tup [.str (low "Map"), .int xs'.length]) = H1 at s1 hp ⊢
    rcases h with ⟨ys, ey, ly, ox, oy, k⟩ | ⟨s, d, sh, rfl, ne, sd, fl, k⟩
    · refine ⟨_, rfl, y, some [.str (low "Map"), .int ys.length], rfl, (ey.same s1).shape hM, ⟨fun z => (nomatch z), fun zs e p2 np2 => ?_⟩⟩
      cases e
      have s2 := s1.trans (same_upd (o := .tup [.str (low "Map"), .int ys.length]) np2)
      have hp1 : L2.upd H1 p2 (.tup [.str (low "Map"), .int ys.length]) p = some (.tup [.str (low "Map"), .int xs'.length]) := same_upd np2 _ _ hp
      have hp2 : L2.upd H1 p2 (.tup [.str (low "Map"), .int ys.length]) p2 = some (.tup [.str (low "Map"), .int ys.length]) := upd_same
      generalize L2.upd H1 p2 (.tup [.str (low "Map"), .int ys.length]) = H2 at s2 hp1 hp2 ⊢
      rw [ly] at hp2
      refine ⟨_, _, dp_two hp1, dp_two hp2, shD_ok hM, shD_ok hM, _, rfl, ?_⟩
      refine ifF (eqv_same (shD_ok (c := "Map") (n := xs'.length) hM)) ?_
      obtain ⟨a, dx, t, rfl, ha, qa⟩ := ex.same s2
      obtain ⟨b, dy, u, rfl, hb, qb⟩ := ey.same s2
      refine ⟨_, rfl, _, _, _, _, _, rfl, ha, cl, na, rfl, t, rfl, ⟨_, qa⟩, fun D nD => ?_⟩
      refine lc_tup (K := K) (a := t) (xs := xs') (fun i Hc => But D H2 Hc ∧ Hc D = some (.lst ((xs'.take i).map (thru ys)))) ⟨But.upd, by rw [upd_same]; rfl⟩ (fun i Hc _ ⟨bc, _⟩ => ?_) (fun i z Hc hz ⟨bc, hD⟩ => ?_) (fun Hc ⟨bc, hD⟩ => ?_)
      · exact SqT.same (Same.but (Same.refl _) nD bc) qa
      · obtain ⟨j, rfl, lj⟩ := map_img (ox z (List.mem_of_getElem? hz)).2
        refine ⟨rfl, yesT ?_⟩
        have sc := Same.but (L2.Same.refl _) nD bc
        obtain ⟨v, hv⟩ : ∃ v, ys[j]? = some v := ⟨ys[j]'(by omega), List.getElem?_eq_getElem (by omega)⟩
        refine ⟨_, rfl, _, _, _, _, _, rfl, sc _ _ hb, cl, na, rfl, _, rfl, u, ys, (j : Nat), v, rfl, rfl, SqT.same sc qb, atI_nat hv, ?_⟩
        refine ⟨_, hD, ?_, But.trans bc But.upd, ?_⟩
        · rw [List.length_map, List.length_take]
          exact Nat.lt_of_le_of_lt (Nat.min_le_right _ _) (by show xs'.length < 16777216; omega)
        · rw [upd_same, take_snoc hz, List.map_append, List.map_cons, List.map_nil, thru_get hv]
      · rw [List.take_length] at hD
        refine fun q dq nq ndq neq => ?_
        refine mk_in nq ndq neq (.inl (SqL.of hD)) (by rw [List.length_map]; exact l1) (by rw [List.length_map]; exact l10) (fun z hz => ?_) (fun r H' s4 e4 => k r H' ((s2.trans (Same.but (L2.Same.refl _) nD bc)).trans s4) e4)
        obtain ⟨z0, hz0, rfl⟩ := List.mem_map.mp hz
        obtain ⟨j, rfl, lj⟩ := map_img (ox z0 hz0).2
        obtain ⟨v, hv⟩ : ∃ v, ys[j]? = some v := ⟨ys[j]'(by omega), List.getElem?_eq_getElem (by omega)⟩
        rw [thru_get hv, List.length_map]
        exact oy v (List.mem_of_getElem? hv)
    · have fin : ∀ (H3 : Hp), Same H H3 → ∀ a : Addr, H3 a = none → ∃ (a' : Addr) (cls : Value), V.ref a = .ref a' ∧ L2.upd H3 a (ExO (.ref (He.ga K "Unlike")) a) a' = some (ExO cls a') ∧ Fr0 H a' ∧
          (cls = .ref (He.ga K "Unlike")) ∧ E cls none (delH (L2.upd H3 a (ExO (.ref (He.ga K "Unlike")) a)) a') := fun H3 s3 a na =>
        ⟨a, _, rfl, upd_same, fr0_none (by
          cases e : H a with
          | none => rfl
          | some o => rw [s3 _ _ e] at na; cases na), rfl, k _ (del_same s3 na)⟩
      cases s with
      | none =>
        refine ⟨_, rfl, y, none, rfl, sh.same s1, ⟨fun _ => ?_, fun zs e => nomatch e⟩⟩
        refine ⟨_, _, dp_two hp, .non, shD_ok hM, sd, _, rfl, ?_⟩
        refine ifT (by rw [show shD "Map" xs'.length = .tuple [.str (low "Map"), .int (xs'.length : Nat)] from rfl] at ne; rw [ne]; rfl) ?_
        intro a na
        obtain ⟨a', cls, h1, h2, h3, rfl, h5⟩ := fin H1 s1 a na
        exact ⟨a', _, h1, h2, h3, raises_own (He.exc_ok k0).2.2.1 (He.exc_ok k0).2.2.2, h5⟩
      | some zs =>
        refine ⟨_, rfl, y, some zs, rfl, sh.same s1, ⟨fun z => (nomatch z), fun ws e p2 np2 => ?_⟩⟩
        cases e
        have s2 := s1.trans (same_upd (o := .tup zs) np2)
        have hp1 : L2.upd H1 p2 (.tup zs) p = some (.tup [.str (low "Map"), .int xs'.length]) := same_upd np2 _ _ hp
        have hp2 : L2.upd H1 p2 (.tup zs) p2 = some (.tup zs) := upd_same
        generalize L2.upd H1 p2 (.tup zs) = H2 at s2 hp1 hp2 ⊢
        refine ⟨_, _, dp_two hp1, .tup (SqT.of hp2) (flat_dpAll (fl zs rfl)), shD_ok hM, sd, _, rfl, ?_⟩
        refine ifT (by rw [show shD "Map" xs'.length = .tuple [.str (low "Map"), .int (xs'.length : Nat)] from rfl] at ne; rw [ne]; rfl) ?_
        intro a na
        obtain ⟨a', cls, h1, h2, h3, rfl, h5⟩ := fin H2 s2 a na
        exact ⟨a', _, h1, h2, h3, raises_own (He.exc_ok k0).2.2.1 (He.exc_ok k0).2.2.2, h5⟩
theorem part_img {n : Nat} {z : V} (h : partOk (n : Nat) z = true) : z = .non ∨ ∃ i : Nat, z = .int (i : Nat) ∧ i < n := by
  unfold partOk at h
  by_cases e : z = .non
  · exact .inl e
  · rw [decide_eq_false e] at h
    exact .inr (map_img h)
theorem scMulP : FnScope ["self", "other", "image"] ["self", "other"] (defScope s_Part_mul) := ⟨rfl, rfl, rfl, by decide +kernel, rfl, by decide +kernel, by decide +kernel⟩
theorem ok_mulP {f : Addr} {fd : FuncData} {q : Str} (F : FunD K "__mul__" q (defArgs s_Part_mul) (defBody s_Part_mul) (defScope s_Part_mul) [] [] f fd) (T : Txt P w K mg base) (DS : Def P w K mg base CX0 1 "shape_of" ["x"] (spShape K))
    (M : MadeC P w K mg base "Part" partOk) : FnOk P w K mg base (L2.CX P w) 5 f fd ["self", "other"] (spMul K "Part") := by
  obtain ⟨fM, dM, mM, FM, bM⟩ := M.ex
  have k0 := T.d.fact 84 (f := .exc "Unlike") rfl
  refine F.ok scMulP (fun vs H Q E h => ?_) (fun cdv A outer s H vs Q E hr h => ?_)
  · obtain ⟨x, y, xs, rfl, _⟩ := h
    rfl
  · obtain ⟨x, y, xs', rfl, ex, l1, l10, h⟩ := h
    have r1 : Room 1 _ := hr.mono (by decide)
    refine ⟨_, pss_cons (ps_if (pt_cmpR (op_neD hr.units) (pe_def DS r1 pass0 rfl (pa_cons (pv 0) pa_nil)) (pe_def DS r1 pass0 rfl (pa_cons (pv 1) pa_nil)) (nomark _)) (pss_one (ps_raise rfl (takes_of rfl rfl rfl rfl) (pmk_ret rfl (pe_bare PySem.F.excBase_ValueError (He.exc_ok k0).1 (T.gl 3 "Unlike" rfl) (He.exc_ok k0).2.1 rfl)))) pss_nil)
      (PSs.nox (pss_one (ps_ret (pe_make mM FM hr rfl (T.gl 5 "Part" rfl) bM .nil pass0 (pa_cons (pe_lc (own := [("image", 2)]) (g := gName 2) (te := tIf (tB (tIsN (tVar 2))) (tC .non) (tOp (rIxT K) (tFld K (tVar 1) "images") (tVar 2))) (by rfl) scMulP.nd (pi_tup (pe_fld (pv 0) rfl)) (blkOk_by (own := [("image", 2)]) (N := ["self", "other", "image"]) (sc := defScope s_Part_mul) (by decide +kernel)) (fun _ _ _ _ _ => pg_name (i := 2) scMulP.nd rfl (Or.inl rfl)) (fun _ _ _ _ _ => pts_nil)
        (fun _ _ _ _ _ => by exact pe_ifExp (pt_cmp (pc_isN (pv 2))) pe_non (pe_ix ix_tup (pe_fld (pv 1) rfl) (pv 2) (fun _ _ => rfl)))) pa_nil))))), ?_⟩
    have cl : L2.Cls K (He.ga K "Part") := (T.el (c := "Part") (by decide)).2.1
    have na : NoAttr K (He.ga K "Part") "images" := (T.el (c := "Part") (by decide)).2.2.1
    have hM : (("Part" : Str) ∈ (["Map", "Part"] : List Str)) := by decide
    have e1 : low "Part" = "part" := by decide +kernel
    refine ⟨_, rfl, x, some [.str (low "Part"), .int xs'.length], rfl, ex.shape hM, ⟨fun z => (nomatch z), fun zs e p np => ?_⟩⟩
    cases e
    have s1 := same_upd (o := .tup [.str (low "Part"), .int xs'.length]) np
    have hp : L2.upd H p (.tup [.str (low "Part"), .int xs'.length]) p = some (.tup [.str (low "Part"), .int xs'.length]) := upd_same
    generalize L2.upd H p (.tup [.str (low "Part"), .int xs'.length]) = H1 at s1 hp ⊢
    rcases h with ⟨ys, ey, ly, ox, oy, k⟩ | ⟨s, d, sh, rfl, ne, sd, fl, k⟩
    · refine ⟨_, rfl, y, some [.str (low "Part"), .int ys.length], rfl, (ey.same s1).shape hM, ⟨fun z => (nomatch z), fun zs e p2 np2 => ?_⟩⟩
      cases e
      have s2 := s1.trans (same_upd (o := .tup [.str (low "Part"), .int ys.length]) np2)
      have hp1 : L2.upd H1 p2 (.tup [.str (low "Part"), .int ys.length]) p = some (.tup [.str (low "Part"), .int xs'.length]) := same_upd np2 _ _ hp
      have hp2 : L2.upd H1 p2 (.tup [.str (low "Part"), .int ys.length]) p2 = some (.tup [.str (low "Part"), .int ys.length]) := upd_same
      generalize L2.upd H1 p2 (.tup [.str (low "Part"), .int ys.length]) = H2 at s2 hp1 hp2 ⊢
      rw [ly] at hp2
      refine ⟨_, _, dp_two hp1, dp_two hp2, shD_ok hM, shD_ok hM, _, rfl, ?_⟩
      refine ifF (eqv_same (shD_ok (c := "Part") (n := xs'.length) hM)) ?_
      obtain ⟨a, dx, t, rfl, ha, qa⟩ := ex.same s2
      obtain ⟨b, dy, u, rfl, hb, qb⟩ := ey.same s2
      refine ⟨_, rfl, _, _, _, _, _, rfl, ha, cl, na, rfl, t, rfl, ⟨_, qa⟩, fun D nD => ?_⟩
      refine lc_tup (K := K) (a := t) (xs := xs') (fun i Hc => But D H2 Hc ∧ Hc D = some (.lst ((xs'.take i).map (thru ys)))) ⟨But.upd, by rw [upd_same]; rfl⟩ (fun i Hc _ ⟨bc, _⟩ => ?_) (fun i z Hc hz ⟨bc, hD⟩ => ?_) (fun Hc ⟨bc, hD⟩ => ?_)
      · exact SqT.same (Same.but (Same.refl _) nD bc) qa
      · refine ⟨rfl, yesT ?_⟩
        have sc := Same.but (L2.Same.refl _) nD bc
        have fit : ((xs'.take i).map (thru ys)).length < sizeLine := by
          rw [List.length_map, List.length_take]
          exact Nat.lt_of_le_of_lt (Nat.min_le_right _ _) (by show xs'.length < 16777216; omega)
        refine ⟨_, rfl, _, rfl, ?_⟩
        rcases part_img (ox z (List.mem_of_getElem? hz)).2 with rfl | ⟨j, rfl, lj⟩
        · refine ifT rfl ?_
          refine ⟨_, hD, fit, But.trans bc But.upd, ?_⟩
          rw [upd_same, take_snoc hz, List.map_append, List.map_cons, List.map_nil]
          rfl
        · refine ifF rfl ?_
          obtain ⟨v, hv⟩ : ∃ v, ys[j]? = some v := ⟨ys[j]'(by omega), List.getElem?_eq_getElem (by omega)⟩
          refine ⟨_, rfl, _, _, _, _, _, rfl, sc _ _ hb, cl, na, rfl, _, rfl, u, ys, (j : Nat), v, rfl, rfl, SqT.same sc qb, atI_nat hv, ?_⟩
          refine ⟨_, hD, fit, But.trans bc But.upd, ?_⟩
          rw [upd_same, take_snoc hz, List.map_append, List.map_cons, List.map_nil, thru_get hv]
      · rw [List.take_length] at hD
        refine fun q dq nq ndq neq => ?_
        refine mk_in nq ndq neq (.inl (SqL.of hD)) (by rw [List.length_map]; exact l1) (by rw [List.length_map]; exact l10) (fun z hz => ?_) (fun r H' s4 e4 => k r H' ((s2.trans (Same.but (L2.Same.refl _) nD bc)).trans s4) e4)
        obtain ⟨z0, hz0, rfl⟩ := List.mem_map.mp hz
        rw [List.length_map]
        rcases part_img (ox z0 hz0).2 with rfl | ⟨j, rfl, lj⟩
        · exact ⟨True.intro, rfl⟩
        · obtain ⟨v, hv⟩ : ∃ v, ys[j]? = some v := ⟨ys[j]'(by omega), List.getElem?_eq_getElem (by omega)⟩
          rw [thru_get hv]
          exact oy v (List.mem_of_getElem? hv)
    · have fin : ∀ (H3 : Hp), Same H H3 → ∀ a : Addr, H3 a = none → ∃ (a' : Addr) (cls : Value), V.ref a = .ref a' ∧ L2.upd H3 a (ExO (.ref (He.ga K "Unlike")) a) a' = some (ExO cls a') ∧ Fr0 H a' ∧
          (cls = .ref (He.ga K "Unlike")) ∧ E cls none (delH (L2.upd H3 a (ExO (.ref (He.ga K "Unlike")) a)) a') := fun H3 s3 a na =>
        ⟨a, _, rfl, upd_same, fr0_none (by
          cases e : H a with
          | none => rfl
          | some o => rw [s3 _ _ e] at na; cases na), rfl, k _ (del_same s3 na)⟩
      cases s with
      | none =>
        refine ⟨_, rfl, y, none, rfl, sh.same s1, ⟨fun _ => ?_, fun zs e => nomatch e⟩⟩
        refine ⟨_, _, dp_two hp, .non, shD_ok hM, sd, _, rfl, ?_⟩
        refine ifT (by rw [show shD "Part" xs'.length = .tuple [.str (low "Part"), .int (xs'.length : Nat)] from rfl] at ne; rw [ne]; rfl) ?_
        intro a na
        obtain ⟨a', cls, h1, h2, h3, rfl, h5⟩ := fin H1 s1 a na
        exact ⟨a', _, h1, h2, h3, raises_own (He.exc_ok k0).2.2.1 (He.exc_ok k0).2.2.2, h5⟩
      | some zs =>
        refine ⟨_, rfl, y, some zs, rfl, sh.same s1, ⟨fun z => (nomatch z), fun ws e p2 np2 => ?_⟩⟩
        cases e
        have s2 := s1.trans (same_upd (o := .tup zs) np2)
        have hp1 : L2.upd H1 p2 (.tup zs) p = some (.tup [.str (low "Part"), .int xs'.length]) := same_upd np2 _ _ hp
        have hp2 : L2.upd H1 p2 (.tup zs) p2 = some (.tup zs) := upd_same
        generalize L2.upd H1 p2 (.tup zs) = H2 at s2 hp1 hp2 ⊢
        refine ⟨_, _, dp_two hp1, .tup (SqT.of hp2) (flat_dpAll (fl zs rfl)), shD_ok hM, sd, _, rfl, ?_⟩
        refine ifT (by rw [show shD "Part" xs'.length = .tuple [.str (low "Part"), .int (xs'.length : Nat)] from rfl] at ne; rw [ne]; rfl) ?_
        intro a na
        obtain ⟨a', cls, h1, h2, h3, rfl, h5⟩ := fin H2 s2 a na
        exact ⟨a', _, h1, h2, h3, raises_own (He.exc_ok k0).2.2.1 (He.exc_ok k0).2.2.2, h5⟩
end
end K06

set_option Elab.async false
set_option linter.all false
set_option maxRecDepth 100000
set_option maxHeartbeats 8000000
namespace K06
open PySem PySem.Spec PyProof.Rows L2 Lf
/-- a source of draws of which at most n were mixed -/
def Src (H : Hp) (l : Addr) (n : Nat) : Prop := ∃ a b c : Int, H l = some (.lst [.int a, .int b, .int c]) ∧ 0 ≤ a ∧ (0 ≤ b ∧ b < 2147483587) ∧ 0 ≤ c ∧ c ≤ n
def spSource : Sp := fun vs H Q _ => ∃ n : Int, vs = [.int n] ∧ ∀ l H', H l = none → Same H H' → Src H' l 0 → Q (.ref l) H'
def spDraw : Sp := fun vs H Q _ => ∃ (l : Addr) (n : Nat) (m : Int), vs = [.ref l, .int m] ∧ Src H l n ∧ n ≤ 1000000 ∧ 0 < m ∧ m ≤ 1000 ∧ ∀ (k : Int) H', 0 ≤ k → k < m → But l H H' → Src H' l (n + 1) → Q (.int k) H'
section
variable {P : Program} {w : World} {K : PySem.W.Frag} {mg : Str → Option Value} {base : Heap}
theorem scSource : FnScope ["_law_cell"] ["_law_cell"] (defScope s_L_source) := ⟨rfl, rfl, rfl, by decide +kernel, rfl, by decide +kernel, by decide +kernel⟩
theorem ok_source {f : Addr} {fd : FuncData} {q : Str} (F : FunD K "_law_source" q (defArgs s_L_source) (defBody s_L_source) (defScope s_L_source) [] [] f fd) (zA : mg "abs" = none) (zI : mg "int" = none) :
    FnOk P w K mg base CX0 1 f fd ["_law_cell"] spSource := by
  refine F.ok scSource (fun vs H Q E h => ?_) (fun cdv A outer s H vs Q E hr h => ?_)
  · obtain ⟨n, rfl, _⟩ := h
    rfl
  · obtain ⟨n, rfl, k⟩ := h
    refine ⟨_, PSs.nox (pss_cons (ps_set (i := 0) scSource.nd rfl (.inl rfl) (pe_callB call_abs rfl zA boot_abs (pa_cons (pv 0) pa_nil)))
      (pss_one (ps_ret (pe_lst (pa_cons (pe_op op_mul (pv 0) (pe_callTy call_int1 rfl zI boot_int (pa_cons (pe_cmpR op_ge (pv 0) (pe_op op_pow pe_int pe_int) (nomark _)) pa_nil)))
        (pa_cons (pe_op op_mod (pe_callTy call_int1 rfl zI boot_int (pa_cons (pv 0) pa_nil)) pe_int)
        (pa_cons pe_int pa_nil))))))), ?_⟩
    refine ⟨_, rfl, n, rfl, ?_⟩
    have nn : 0 ≤ (if n < 0 then -n else n) := by split <;> omega
    generalize (if n < 0 then -n else n) = a at nn ⊢
    refine ⟨_, rfl, _, rfl, 10, 18, rfl, rfl, ⟨by decide, by decide, by decide⟩, a, _, rfl, rfl, .inr ⟨_, rfl, a, _, rfl, rfl, .inr ?_, ?_⟩⟩
    · split <;> decide
    refine ⟨_, rfl, .inl ⟨a, rfl, a, 2147483587, rfl, rfl, (show (0 : Int) < 2147483587 by decide), ?_⟩⟩
    refine ⟨(by show 3 ≤ sizeLine; decide), fun l hl => k l _ hl (same_upd hl) ⟨_, _, _, upd_same, ?_, ?_, by decide, by decide⟩⟩
    · split
      · omega
      · simp
    · constructor <;> omega
theorem scDraw : FnScope ["_law_source_here", "_law_many", "_law_digit", "_law_mixed"] ["_law_source_here", "_law_many"] (defScope s_L_draw) := ⟨rfl, rfl, rfl, by decide +kernel, rfl, by decide +kernel, by decide +kernel⟩
theorem ok_draw {f : Addr} {fd : FuncData} {q : Str} (F : FunD K "_law_draw" q (defArgs s_L_draw) (defBody s_L_draw) (defScope s_L_draw) [] [] f fd) (zI : mg "int" = none) :
    FnOk P w K mg base CX0 1 f fd ["_law_source_here", "_law_many"] spDraw := by
  refine F.ok scDraw (fun vs H Q E h => ?_) (fun cdv A outer s H vs Q E hr h => ?_)
  · obtain ⟨l, n, m, rfl, _⟩ := h
    rfl
  · obtain ⟨l, n, m, rfl, ⟨a, b, c, hl, ha, ⟨hb1, hb2⟩, hc1, hc2⟩, n1, m0, m1, k⟩ := h
    have gI (i : Int) := i
    refine ⟨_, PSs.nox (pss_cons (ps_if (pt_cmpR op_gt (pe_ix ix_list (pv 0) pe_int (fun _ _ => rfl)) pe_int (nomark _))
        (pss_cons (ps_set (i := 2) scDraw.nd rfl (.inl rfl) (pe_op op_mod (pe_callTy call_int1 rfl zI boot_int (pa_cons (pe_ix ix_list (pv 0) pe_int (fun _ _ => rfl)) pa_nil)) (pv 1)))
        (pss_cons (ps_asg (pe_op op_fdiv (pe_ix ix_list (pv 0) pe_int (fun _ _ => rfl)) (pv 1)) (pg_sub (pv 0) pe_int set_list))
        (pss_one (ps_ret (pv 2))))) pss_nil)
      (pss_cons (ps_asg (pe_op op_add (pe_ix ix_list (pv 0) pe_int (fun _ _ => rfl)) pe_int) (pg_sub (pv 0) pe_int set_list))
      (pss_cons (ps_set (i := 3) scDraw.nd rfl (.inl rfl) (pe_op op_mod (pe_callTy call_int1 rfl zI boot_int (pa_cons (pe_op op_mul (pe_op op_add (pe_op op_add (pe_ix ix_list (pv 0) pe_int (fun _ _ => rfl)) (pe_op op_mul pe_int (pe_ix ix_list (pv 0) pe_int (fun _ _ => rfl)))) pe_int) pe_int) pa_nil)) pe_int))
      (pss_cons (ps_set (i := 3) scDraw.nd rfl (.inl rfl) (pe_op op_mod (pe_callTy call_int1 rfl zI boot_int (pa_cons (pe_op op_mul (pv 3) (pe_op op_add (pe_op op_fdiv (pv 3) pe_int) pe_int)) pa_nil)) pe_int))
      (pss_one (ps_ret (pe_op op_mod (pe_callTy call_int1 rfl zI boot_int (pa_cons (pe_op op_fdiv (pe_op op_mod (pe_callTy call_int1 rfl zI boot_int (pa_cons (pe_op op_mul (pv 3) (pe_op op_add (pe_op op_fdiv (pv 3) pe_int) pe_int)) pa_nil)) pe_int) pe_int) pa_nil)) (pv 1)))))))), ?_⟩
    have at0 : atI [V.int a, V.int b, V.int c] 0 = some (.int a) := rfl
    refine ⟨_, rfl, l, _, 0, _, rfl, rfl, SqL.of hl, at0, a, 0, rfl, rfl, _, rfl, ?_⟩
    refine ite2 (fun h0 => ?_) (fun h0 => ?_)
    · refine ⟨_, rfl, l, _, 0, _, rfl, rfl, SqL.of hl, at0, .inl ⟨a, rfl, _, rfl, a, m, rfl, rfl, m0, ?_⟩⟩
      refine ⟨_, rfl, l, _, 0, _, rfl, rfl, SqL.of hl, at0, _, rfl, a, m, rfl, rfl, ⟨m0, by omega⟩, ?_⟩
      refine ⟨_, rfl, l, _, 0, 0, rfl, rfl, hl, rfl, ?_⟩
      exact ⟨_, rfl, k _ _ (Int.emod_nonneg _ (by omega)) (Int.emod_lt_of_pos _ m0) But.upd ⟨_, b, c, upd_same, Int.ediv_nonneg ha (by omega), ⟨hb1, hb2⟩, hc1, by omega⟩⟩
    · have at2 : atI [V.int a, V.int b, V.int c] 2 = some (.int c) := rfl
      have at1' : atI [V.int a, V.int b, V.int (c + 1)] 1 = some (.int b) := rfl
      have at2' : atI [V.int a, V.int b, V.int (c + 1)] 2 = some (.int (c + 1)) := rfl
      refine ⟨_, rfl, l, _, 2, _, rfl, rfl, SqL.of hl, at2, c, 1, rfl, rfl, _, rfl, l, _, 2, 2, rfl, rfl, hl, rfl, ?_⟩
      have hl' : L2.upd H l (.lst [V.int a, V.int b, V.int (c + 1)]) l = some (.lst [V.int a, V.int b, V.int (c + 1)]) := upd_same
      have bt : But l H (L2.upd H l (.lst [V.int a, V.int b, V.int (c + 1)])) := But.upd
      refine ⟨_, rfl, l, _, 1, _, rfl, rfl, SqL.of hl', at1', _, rfl, l, _, 2, _, rfl, rfl, SqL.of hl', at2', 7919, (c + 1), rfl, rfl, .inl ⟨by omega, by omega⟩, b, _, rfl, rfl, _, 13, rfl, rfl, _, 48271, rfl, rfl, .inl ⟨by omega, by omega⟩, .inl ⟨_, rfl, _, 2147483629, rfl, rfl, (show (0 : Int) < 2147483629 by decide), ?_⟩⟩
      generalize hz : (b + 7919 * (c + 1) + 13) * 48271 = z
      have z1 : 0 ≤ z % 2147483629 := Int.emod_nonneg _ (by decide)
      have z2 : z % 2147483629 < 2147483629 := Int.emod_lt_of_pos _ (by decide)
      obtain ⟨u, hu⟩ : ∃ u, z % 2147483629 = u := ⟨_, rfl⟩
      rw [hu] at z1 z2
      refine ⟨_, rfl, _, rfl, u, 1019, congrArg V.int hu, rfl, ⟨by decide, by decide⟩, _, 69621, rfl, rfl, u, _, congrArg V.int hu, rfl, .inl ⟨by omega, by omega⟩, .inl ⟨_, rfl, _, 2147483579, rfl, rfl, (show (0 : Int) < 2147483579 by decide), ?_⟩⟩
      generalize hy : u * (u / 1019 + 69621) = y
      have y1 : 0 ≤ y % 2147483579 := Int.emod_nonneg _ (by decide)
      have y2 : y % 2147483579 < 2147483579 := Int.emod_lt_of_pos _ (by decide)
      obtain ⟨v, hv⟩ : ∃ v, y % 2147483579 = v := ⟨_, rfl⟩
      rw [hv] at y1 y2
      refine ⟨_, rfl, _, rfl, v, 2003, congrArg V.int hv, rfl, ⟨by decide, by decide⟩, _, 40692, rfl, rfl, v, _, congrArg V.int hv, rfl, .inl ⟨by omega, by omega⟩, .inl ⟨_, rfl, _, 2147483549, rfl, rfl, (show (0 : Int) < 2147483549 by decide), ?_⟩⟩
      refine ⟨_, 3, rfl, rfl, ⟨by decide, by decide⟩, .inl ⟨_, rfl, _, rfl, _, m, rfl, rfl, m0, ?_⟩⟩
      exact k _ _ (Int.emod_nonneg _ (by omega)) (Int.emod_lt_of_pos _ m0) But.upd ⟨a, b, c + 1, upd_same, ha, ⟨hb1, hb2⟩, by omega, by omega⟩
end
end K06

set_option Elab.async false
set_option linter.all false
set_option maxRecDepth 100000
set_option maxHeartbeats 8000000
namespace K06
open PySem PySem.Spec PyProof.Rows L2 Lf
def spPick : Sp := fun vs H Q _ => ∃ (l s : Addr) (n : Nat) (xs : List V), vs = [.ref l, .ref s] ∧ Src H l n ∧ n ≤ 1000000 ∧ H s = some (.lst xs) ∧ s ≠ l ∧ 1 ≤ xs.length ∧ xs.length ≤ 1000 ∧ ∀ x H', x ∈ xs → But l H H' → Src H' l (n + 1) → Q x H'
def spProd (K : PySem.W.Frag) : Sp := fun vs H Q _ => ∃ (a b : Addr) (xs ys : List V), vs = [.ref a, .ref b] ∧ SqT K H a xs ∧ SqT K H b ys ∧ xs.length ≤ 10 ∧ (∀ z ∈ xs, partOk ys.length z = true) ∧ ∀ t H', Same H H' → H t = none → H' t = some (.tup (xs.map (thru ys))) → Q (.ref t) H'
section
variable {P : Program} {w : World} {K : PySem.W.Frag} {mg : Str → Option Value} {base : Heap}
theorem scPick : FnScope ["_law_source_here", "_law_some"] ["_law_source_here", "_law_some"] (defScope s_L_pick) := ⟨rfl, rfl, rfl, by decide +kernel, rfl, by decide +kernel, by decide +kernel⟩
theorem ok_pick {f : Addr} {fd : FuncData} {q : Str} (F : FunD K "_law_pick" q (defArgs s_L_pick) (defBody s_L_pick) (defScope s_L_pick) [] [] f fd) (zn : mg "len" = none) (DD : Def P w K mg base CX0 1 "_law_draw" ["_law_source_here", "_law_many"] spDraw) :
    FnOk P w K mg base CX0 2 f fd ["_law_source_here", "_law_some"] spPick := by
  refine F.ok scPick (fun vs H Q E h => ?_) (fun cdv A outer s H vs Q E hr h => ?_)
  · obtain ⟨l, s, n, xs, rfl, _⟩ := h
    rfl
  · obtain ⟨l, s, n, xs, rfl, src, n1, hs, ne, l1, l2, k⟩ := h
    refine ⟨_, PSs.nox (pss_one (ps_ret (pe_ix ix_list (pv 1) (pe_def DD hr pass0 rfl (pa_cons (pv 0) (pa_cons (pe_callB call_len_seq rfl zn boot_len (pa_cons (pv 1) pa_nil)) pa_nil))) (fun _ _ => rfl)))), ?_⟩
    refine ⟨_, rfl, _, rfl, _, rfl, s, xs, rfl, .inl (SqL.of hs), l, n, xs.length, rfl, src, n1, by omega, by omega, fun i H' i0 i1 b src' => ?_⟩
    obtain ⟨j, rfl⟩ : ∃ j : Nat, i = (j : Nat) := ⟨i.toNat, by omega⟩
    have hj : j < xs.length := by omega
    refine ⟨s, xs, (j : Nat), xs[j], rfl, rfl, SqL.of (b _ _ ne hs), atI_nat (List.getElem?_eq_getElem hj), ?_⟩
    exact k _ _ (List.getElem_mem hj) b src'
theorem scProd : FnScope ["_law_one", "_law_other", "_law_image"] ["_law_one", "_law_other"] (defScope s_L_product) := ⟨rfl, rfl, rfl, by decide +kernel, rfl, by decide +kernel, by decide +kernel⟩
theorem ok_prod {f : Addr} {fd : FuncData} {q : Str} (F : FunD K "_law_product" q (defArgs s_L_product) (defBody s_L_product) (defScope s_L_product) [] [] f fd) (zt : mg "tuple" = none) :
    FnOk P w K mg base CX0 1 f fd ["_law_one", "_law_other"] (spProd K) := by
  refine F.ok scProd (fun vs H Q E h => ?_) (fun cdv A outer s H vs Q E hr h => ?_)
  · obtain ⟨a, b, xs, ys, rfl, _⟩ := h
    rfl
  · obtain ⟨a, b, xs, ys, rfl, qa, qb, l10, ox, k⟩ := h
    refine ⟨_, PSs.nox (pss_one (ps_ret (pe_callTy call_tuple_of rfl zt PyProof.Rows.boot_tuple (pa_cons (pe_lc (own := [("_law_image", 2)]) (g := gName 2) (te := tIf (tB (tIsN (tVar 2))) (tC .non) (tOp (rIxT K) (tVar 1) (tVar 2))) (by rfl) scProd.nd (pi_tup (pv 0)) (blkOk_by (own := [("_law_image", 2)]) (N := ["_law_one", "_law_other", "_law_image"]) (sc := defScope s_L_product) (by decide +kernel)) (fun _ _ _ _ _ => pg_name (i := 2) scProd.nd rfl (Or.inl rfl)) (fun _ _ _ _ _ => pts_nil)
        (fun _ _ _ _ _ => by exact pe_ifExp (pt_cmp (pc_isN (pv 2))) pe_non (pe_ix ix_tup (pv 1) (pv 2) (fun _ _ => rfl)))) pa_nil)))), ?_⟩
    refine ⟨_, rfl, a, rfl, ⟨_, qa⟩, fun D nD => ?_⟩
    refine lc_tup (K := K) (a := a) (xs := xs) (fun i Hc => But D H Hc ∧ Hc D = some (.lst ((xs.take i).map (thru ys)))) ⟨But.upd, by rw [upd_same]; rfl⟩ (fun i Hc _ ⟨bc, _⟩ => ?_) (fun i z Hc hz ⟨bc, hD⟩ => ?_) (fun Hc ⟨bc, hD⟩ => ?_)
    · exact SqT.same (Same.but (Same.refl _) nD bc) qa
    · refine ⟨rfl, yesT ?_⟩
      have sc := Same.but (L2.Same.refl _) nD bc
      have fit : ((xs.take i).map (thru ys)).length < sizeLine := by
        rw [List.length_map, List.length_take]
        exact Nat.lt_of_le_of_lt (Nat.min_le_right _ _) (by show xs.length < 16777216; omega)
      refine ⟨_, rfl, _, rfl, ?_⟩
      rcases part_img (ox z (List.mem_of_getElem? hz)) with rfl | ⟨j, rfl, lj⟩
      · refine ifT rfl ?_
        refine ⟨_, hD, fit, But.trans bc But.upd, ?_⟩
        rw [upd_same, take_snoc hz, List.map_append, List.map_cons, List.map_nil]
        rfl
      · refine ifF rfl ?_
        obtain ⟨v, hv⟩ : ∃ v, ys[j]? = some v := ⟨ys[j], List.getElem?_eq_getElem lj⟩
        refine ⟨_, rfl, _, rfl, b, ys, (j : Nat), v, rfl, rfl, SqT.same sc qb, atI_nat hv, ?_⟩
        refine ⟨_, hD, fit, But.trans bc But.upd, ?_⟩
        rw [upd_same, take_snoc hz, List.map_append, List.map_cons, List.map_nil, thru_get hv]
    · rw [List.take_length] at hD
      have sc := Same.but (L2.Same.refl _) nD bc
      refine ⟨D, _, rfl, .inl ⟨SqL.of hD, fun t nt => ?_⟩⟩
      have nt0 : H t = none := by
        cases e : H t with
        | none => rfl
        | some o => rw [sc _ _ e] at nt; cases nt
      exact k t _ (sc.trans (same_upd nt)) nt0 upd_same
end
end K06

set_option Elab.async false
set_option linter.all false
set_option maxRecDepth 100000
set_option maxHeartbeats 8000000
namespace K06
open PySem PySem.Spec PyProof.Rows L2 Lf
theorem Src.up {H : Hp} {l : Addr} {n m : Nat} (h : Src H l n) (e : n ≤ m) : Src H l m := by
  obtain ⟨a, b, c, h1, h2, h3, h4, h5⟩ := h
  exact ⟨a, b, c, h1, h2, h3, h4, by omega⟩
theorem Src.same {H H' : Hp} {l : Addr} {n : Nat} (h : Src H l n) (e : Same H H') : Src H' l n := by
  obtain ⟨a, b, c, h1, h2⟩ := h
  exact ⟨a, b, c, e _ _ h1, h2⟩
/-- an image of a map, or of a partial one -/
def imgOk (part : Bool) (n : Nat) (z : V) : Prop := partOk n z = true ∧ (part = false → mapOk n z = true)
def spImages : Sp := fun vs H Q _ => ∃ (l : Addr) (n size : Nat) (part : Bool), vs = [.ref l, .int size, .bl part] ∧ Src H l n ∧ n + 40 ≤ 1000000 ∧ 1 ≤ size ∧ size ≤ 10 ∧
  ∀ t xs H', But l H H' → H t = none → H' t = some (.tup xs) → xs.length = size → (∀ z ∈ xs, imgOk part size z) → Src H' l (n + 40) → Q (.ref t) H'
abbrev rLen (K : PySem.W.Frag) : List V → Hp → VK → Prop := fun xs H Q => ∃ p ys, xs = [V.ref p] ∧ (SqL K H p ys ∨ SqT K H p ys) ∧ Q (V.int ys.length) H
abbrev tePop (K : PySem.W.Frag) : TE := tBM K "list" rPopAt (tVar 4) (tCons (fun σ H Q => (tCons (tVar 0) (tCons (tCB (rLen K) (tCons (tVar 4) tNil)) tNil)) σ H fun vs H1 => spDraw vs H1 Q E0) tNil)
abbrev tePick : TE := fun σ H Q => (tCons (tVar 0) (tCons (tVar 3) tNil)) σ H fun vs H1 => spPick vs H1 Q E0
theorem some_ok {part : Bool} {size : Nat} : ∀ z ∈ idV size ++ (List.replicate (if part = true then (1 : Int) else 0).toNat [V.non]).flatten, imgOk part size z := fun z hz => by
  rcases List.mem_append.mp hz with h | h
  · exact ⟨(idV_part z h).2, fun _ => (idV_ok z h).2⟩
  · cases part with
    | false => simp at h
    | true =>
      have e : (if true = true then (1 : Int) else 0).toNat = 1 := rfl
      rw [e] at h
      simp at h
      subst h
      exact ⟨rfl, fun z => nomatch z⟩
/-- the end: a tuple of picks -/
theorem fin_pick {K : PySem.W.Frag} {H : Hp} {l s : Addr} {n size : Nat} {part : Bool} {sm : List V} {v4 v5 : Option V} {Q : VK} (src : Src H l n) (n1 : n + size ≤ 1000000) (s10 : size ≤ 10) (hs : H s = some (.lst sm)) (nsl : s ≠ l) (lens : 1 ≤ sm.length ∧ sm.length ≤ 1000)
    (ok : ∀ z ∈ sm, imgOk part size z) (k : ∀ t xs H', But l H H' → H t = none → H' t = some (.tup xs) → xs.length = size → (∀ z ∈ xs, imgOk part size z) → Src H' l (n + size) → Q (.ref t) H') :
    (tCB (fun xs H Q => ∃ p ys, xs = [V.ref p] ∧ ((SqL K H p ys ∧ ∀ (l : Addr), H l = none → Q (V.ref l) (L2.upd H l (HO.tup ys))) ∨ SqT K H p ys ∧ Q (V.ref p) H)) (tCons (tLc (iRng1 (tCons (tVar 1) tNil)) (gName 5) tYes tePick [5]) tNil))
      [some (.ref l), some (.int (size : Nat)), some (.bl part), some (.ref s), v4, v5] H Q := by
  refine ⟨_, rfl, (size : Nat), rfl, by omega, by omega, fun D nD => ?_⟩
  have nDl : D ≠ l := fun z => by
    obtain ⟨a, b, c, h, _⟩ := src
    rw [← z, nD] at h
    cases h
  have nsD : s ≠ D := fun z => by rw [z, nD] at hs; cases hs
  refine lc_range (lo := 0) (n := size) (fun i Hc => (∀ b o, b ≠ l → b ≠ D → H b = some o → Hc b = some o) ∧ Src Hc l (n + i) ∧ ∃ acc, Hc D = some (.lst acc) ∧ acc.length = i ∧ ∀ z ∈ acc, imgOk part size z) ⟨fun b o _ nb e => by rw [upd_ne nb]; exact e, ?_, [], upd_same, rfl, fun z hz => by cases hz⟩ (fun i Hc hi ⟨bc, sc, acc, hD, la, oa⟩ => ?_) (fun Hc ⟨bc, sc, acc, hD, la, oa⟩ => ?_)
  · obtain ⟨a, b, c, h, r⟩ := src
    exact ⟨a, b, c, by rw [upd_ne nDl.symm]; exact h, r⟩
  · refine ⟨rfl, yesT ?_⟩
    refine ⟨_, rfl, _, rfl, l, s, n + i, sm, rfl, sc, by omega, bc _ _ nsl nsD hs, nsl, lens.1, lens.2, fun x H' hx b' src' => ?_⟩
    have hD' := b' _ _ nDl hD
    refine ⟨acc, hD', by show acc.length < 16777216; omega, fun b o nl nb e => by rw [upd_ne nb]; exact b' _ _ nl (bc _ _ nl nb e), ?_, acc ++ [x], upd_same, by simp [la], fun z hz => ?_⟩
    · obtain ⟨a, b, c, h, r⟩ := src'
      exact ⟨a, b, c, by rw [upd_ne nDl.symm]; exact h, r⟩
    · rcases List.mem_append.mp hz with h | h
      · exact oa z h
      · rw [List.mem_singleton.mp h]
        exact ok x hx
  · refine ⟨D, acc, rfl, .inl ⟨SqL.of hD, fun t nt => ?_⟩⟩
    have ntl : t ≠ l := fun z => by
      obtain ⟨a, b, c, h, _⟩ := sc
      rw [← z, nt] at h
      cases h
    have ntD : t ≠ D := fun z => by rw [z, hD] at nt; cases nt
    refine k t acc _ (fun b o nl e => ?_) ?_ upd_same la oa ?_
    · have nb : b ≠ D := ne_of_none e nD
      have nt' : b ≠ t := ne_of_none (bc _ _ nl nb e) nt
      rw [upd_ne nt']
      exact bc _ _ nl nb e
    · cases e : H t with
      | none => rfl
      | some o => rw [bc _ _ ntl ntD e] at nt; cases nt
    · obtain ⟨a, b, c, h, r⟩ := sc
      exact ⟨a, b, c, by rw [upd_ne ntl.symm]; exact h, r⟩
theorem seq_ix {j n : Nat} (h : j < n) : seqIndex? (j : Nat) n = some j := by
  unfold seqIndex?
  split <;> simp <;> omega
/-- the end: the numbers in a drawn order -/
theorem fin_pop {K : PySem.W.Frag} {H : Hp} {l s e0 : Addr} {n size : Nat} {part : Bool} {sm : List V} {v5 : Option V} {Q : VK} (src : Src H l n) (n1 : n + size ≤ 1000000) (s10 : size ≤ 10) (he : H e0 = some (.lst sm)) (nel : e0 ≠ l) (lens : sm.length = size)
    (ok : ∀ z ∈ sm, imgOk part size z) (k : ∀ t xs H', (∀ b o, b ≠ l → b ≠ e0 → H b = some o → H' b = some o) → H t = none → H' t = some (.tup xs) → xs.length = size → (∀ z ∈ xs, imgOk part size z) → Src H' l (n + size) → Q (.ref t) H') :
    (tCB (fun xs H Q => ∃ p ys, xs = [V.ref p] ∧ ((SqL K H p ys ∧ ∀ (l : Addr), H l = none → Q (V.ref l) (L2.upd H l (HO.tup ys))) ∨ SqT K H p ys ∧ Q (V.ref p) H)) (tCons (tLc (iRng1 (tCons (tVar 1) tNil)) (gName 5) tYes (tePop K) [5]) tNil))
      [some (.ref l), some (.int (size : Nat)), some (.bl part), some (.ref s), some (.ref e0), v5] H Q := by
  refine ⟨_, rfl, (size : Nat), rfl, by omega, by omega, fun D nD => ?_⟩
  have nDl : D ≠ l := fun z => by
    obtain ⟨a, b, c, h, _⟩ := src
    rw [← z, nD] at h
    cases h
  have neD : e0 ≠ D := fun z => by rw [z, nD] at he; cases he
  refine lc_range (lo := 0) (n := size) (fun i Hc => (∀ b o, b ≠ l → b ≠ e0 → b ≠ D → H b = some o → Hc b = some o) ∧ Src Hc l (n + i) ∧ (∃ acc, Hc D = some (.lst acc) ∧ acc.length = i ∧ ∀ z ∈ acc, imgOk part size z) ∧ ∃ rem, Hc e0 = some (.lst rem) ∧ rem.length + i = size ∧ ∀ z ∈ rem, imgOk part size z)
    ⟨fun b o _ _ nb e => by rw [upd_ne nb]; exact e, ?_, ⟨[], upd_same, rfl, fun z hz => by cases hz⟩, sm, by rw [upd_ne neD]; exact he, by omega, ok⟩ (fun i Hc hi ⟨bc, sc, ⟨acc, hD, la, oa⟩, rem, hE, lr, or'⟩ => ?_) (fun Hc ⟨bc, sc, ⟨acc, hD, la, oa⟩, rem, hE, _⟩ => ?_)
  · obtain ⟨a, b, c, h, r⟩ := src
    exact ⟨a, b, c, by rw [upd_ne nDl.symm]; exact h, r⟩
  · refine ⟨rfl, yesT ?_⟩
    refine ⟨_, rfl, .inl ⟨rfl, _, SqL.of hE⟩, _, rfl, _, rfl, e0, rem, rfl, .inl (SqL.of hE), l, n + i, rem.length, rfl, sc, by omega, by omega, by omega, fun j H' j0 j1 b' src' => ?_⟩
    obtain ⟨j, rfl⟩ : ∃ j' : Nat, j = (j' : Nat) := ⟨j.toNat, by omega⟩
    have hj : j < rem.length := by omega
    have hE' := b' _ _ nel hE
    have hD' := b' _ _ nDl hD
    refine ⟨e0, rem, (j : Nat), j, rem[j], rfl, rfl, hE', by omega, by omega, seq_ix hj, List.getElem?_eq_getElem hj, ?_⟩
    refine ⟨acc, by rw [upd_ne neD.symm]; exact hD', by show acc.length < 16777216; omega, fun b o nl ne nb e => by rw [upd_ne nb, upd_ne ne]; exact b' _ _ nl (bc _ _ nl ne nb e), ?_, ⟨acc ++ [rem[j]], upd_same, by simp [la], fun z hz => ?_⟩, rem.eraseIdx j, by rw [upd_ne neD, upd_same], ?_, fun z hz => or' z (List.mem_of_mem_eraseIdx hz)⟩
    · obtain ⟨a, b, c, h, r⟩ := src'
      exact ⟨a, b, c, by rw [upd_ne nDl.symm, upd_ne nel.symm]; exact h, r⟩
    · rcases List.mem_append.mp hz with h | h
      · exact oa z h
      · rw [List.mem_singleton.mp h]
        exact or' _ (List.getElem_mem hj)
    · rw [List.length_eraseIdx_of_lt hj]
      omega
  · refine ⟨D, acc, rfl, .inl ⟨SqL.of hD, fun t nt => ?_⟩⟩
    have ntl : t ≠ l := fun z => by
      obtain ⟨a, b, c, h, _⟩ := sc
      rw [← z, nt] at h
      cases h
    have ntD : t ≠ D := fun z => by rw [z, hD] at nt; cases nt
    have nte : t ≠ e0 := fun z => by rw [z, hE] at nt; cases nt
    refine k t acc _ (fun b o nl ne e => ?_) ?_ upd_same la oa ?_
    · have nb : b ≠ D := ne_of_none e nD
      have nt' : b ≠ t := ne_of_none (bc _ _ nl ne nb e) nt
      rw [upd_ne nt']
      exact bc _ _ nl ne nb e
    · cases e : H t with
      | none => rfl
      | some o => rw [bc _ _ ntl nte ntD e] at nt; cases nt
    · obtain ⟨a, b, c, h, r⟩ := sc
      exact ⟨a, b, c, by rw [upd_ne ntl.symm]; exact h, r⟩
section
variable {P : Program} {w : World} {K : PySem.W.Frag} {mg : Str → Option Value} {base : Heap}
theorem scImages : FnScope ["_law_source_here", "_law_size", "_law_is_part", "_law_some", "_law_left", "_law_point"] ["_law_source_here", "_law_size", "_law_is_part"] (defScope s_L_images) := ⟨rfl, rfl, rfl, by decide +kernel, rfl, by decide +kernel, by decide +kernel⟩
theorem ok_images {f : Addr} {fd : FuncData} {q : Str} (F : FunD K "_law_images" q (defArgs s_L_images) (defBody s_L_images) (defScope s_L_images) [] [] f fd) (zn : mg "len" = none) (zl : mg "list" = none) (zr : mg "range" = none) (zI : mg "int" = none) (zt : mg "tuple" = none)
    (DD : Def P w K mg base CX0 1 "_law_draw" ["_law_source_here", "_law_many"] spDraw) (DP : Def P w K mg base CX0 2 "_law_pick" ["_law_source_here", "_law_some"] spPick) :
    FnOk P w K mg base CX0 3 f fd ["_law_source_here", "_law_size", "_law_is_part"] spImages := by
  refine F.ok scImages (fun vs H Q E h => ?_) (fun cdv A outer s H vs Q E hr h => ?_)
  · obtain ⟨l, n, size, part, rfl, _⟩ := h
    rfl
  · obtain ⟨l, n, size, part, rfl, src, n1, s1, s10, k⟩ := h
    have r1 : Room 1 _ := hr.mono (by decide)
    refine ⟨_, PSs.nox (pss_cons (ps_set (i := 3) scImages.nd rfl (Or.inr rfl) (pe_op op_cat (pe_listRg rfl rfl zl (prg_1 rfl zr (pv 1))) (pe_op op_rep (pe_lst (pa_cons pe_non pa_nil)) (pe_callTy call_int1 rfl zI boot_int (pa_cons (pv 2) pa_nil)))))
      (pss_cons (ps_if (pt_cmpR op_eq (pe_def DD r1 pass0 rfl (pa_cons (pv 0) (pa_cons pe_int pa_nil))) pe_int (nomark _))
        (pss_one (ps_set (i := 3) scImages.nd rfl (Or.inr rfl) (pe_lst (pa_cons (pe_def DP hr pass0 rfl (pa_cons (pv 0) (pa_cons (pv 3) pa_nil))) (pa_cons (pe_def DP hr pass0 rfl (pa_cons (pv 0) (pa_cons (pv 3) pa_nil))) pa_nil))))) pss_nil)
      (pss_cons (ps_if (PW.pt (pw_and (pt_not (pt_val (pv 2))) (pw_and1 (pt_cmpR op_eq (pe_def DD r1 pass0 rfl (pa_cons (pv 0) (pa_cons pe_int pa_nil))) pe_int (nomark _)))))
        (pss_cons (ps_set (i := 4) scImages.nd rfl (Or.inr rfl) (pe_listRg rfl rfl zl (prg_1 rfl zr (pv 1))))
        (pss_one (ps_ret (pe_callTy call_tuple_of rfl zt PyProof.Rows.boot_tuple (pa_cons (pe_lc (own := [("_law_point", 5)]) (g := gName 5) (te := tePop K) (by rfl) scImages.nd (pi_range1 rfl zr (pa_cons (pv 1) pa_nil)) (blkOk_by (own := [("_law_point", 5)]) (N := ["_law_source_here", "_law_size", "_law_is_part", "_law_some", "_law_left", "_law_point"]) (sc := defScope s_L_images) (by decide +kernel)) (fun _ _ _ _ _ => pg_name (i := 5) scImages.nd rfl (Or.inl rfl)) (fun _ _ _ _ _ => pts_nil)
          (fun _ _ _ _ _ => by exact pe_bm PySem.F.plainAttrs_list PySem.F.slot_list_pop PySem.F.type_list_pop mt_popAt (pv 4) (pa_cons (pe_def DD r1 pass0 rfl (pa_cons (pv 0) (pa_cons (pe_callB call_len_seq rfl zn boot_len (pa_cons (pv 4) pa_nil)) pa_nil))) pa_nil))) pa_nil))))) pss_nil)
      (pss_one (ps_ret (pe_callTy call_tuple_of rfl zt PyProof.Rows.boot_tuple (pa_cons (pe_lc (own := [("_law_point", 5)]) (g := gName 5) (te := tePick) (by rfl) scImages.nd (pi_range1 rfl zr (pa_cons (pv 1) pa_nil)) (blkOk_by (own := [("_law_point", 5)]) (N := ["_law_source_here", "_law_size", "_law_is_part", "_law_some", "_law_left", "_law_point"]) (sc := defScope s_L_images) (by decide +kernel)) (fun _ _ _ _ _ => pg_name (i := 5) scImages.nd rfl (Or.inl rfl)) (fun _ _ _ _ _ => pts_nil)
          (fun _ _ _ _ _ => by exact pe_def DP hr pass0 rfl (pa_cons (pv 0) (pa_cons (pv 3) pa_nil)))) pa_nil))))))), ?_⟩
    have hl0 : ∃ o, H l = some o := ⟨_, src.choose_spec.choose_spec.choose_spec.1⟩
    obtain ⟨ol, hl0⟩ := hl0
    refine ⟨_, rfl, (size : Nat), rfl, ⟨by decide, by decide, by omega, by omega, by omega⟩, fun q nq => ?_⟩
    rw [rgV_id]
    have sq := same_upd (o := .lst (idV size)) nq
    have hq : L2.upd H q (.lst (idV size)) q = some (.lst (idV size)) := upd_same
    generalize L2.upd H q (.lst (idV size)) = H1 at sq hq ⊢
    refine ⟨(by show 1 ≤ sizeLine; decide), fun r nr => ?_⟩
    have sr := sq.trans (same_upd (o := .lst [V.non]) nr)
    have hq2 : L2.upd H1 r (.lst [V.non]) q = some (.lst (idV size)) := same_upd nr _ _ hq
    have hr2 : L2.upd H1 r (.lst [V.non]) r = some (.lst [V.non]) := upd_same
    generalize L2.upd H1 r (.lst [V.non]) = H2 at sr hq2 hr2 ⊢
    refine ⟨_, rfl, .inr ⟨part, rfl, r, _, [V.non], rfl, rfl, hr2, ?_, ?_, ?_, fun u nu => ?_⟩⟩
    · split <;> decide
    · split <;> decide
    · split <;> decide
    have su := sr.trans (same_upd (o := .lst (List.replicate (if part = true then (1 : Int) else 0).toNat [V.non]).flatten) nu)
    have hq3 : L2.upd H2 u (.lst (List.replicate (if part = true then (1 : Int) else 0).toNat [V.non]).flatten) q = some (.lst (idV size)) := same_upd nu _ _ hq2
    have hu3 : L2.upd H2 u (.lst (List.replicate (if part = true then (1 : Int) else 0).toNat [V.non]).flatten) u = some (.lst (List.replicate (if part = true then (1 : Int) else 0).toNat [V.non]).flatten) := upd_same
    have len : ((List.replicate (if part = true then (1 : Int) else 0).toNat [V.non]).flatten).length ≤ 1 := by cases part <;> decide
    have ok := some_ok (part := part) (size := size)
    generalize L2.upd H2 u (.lst (List.replicate (if part = true then (1 : Int) else 0).toNat [V.non]).flatten) = H3 at su hq3 hu3 ⊢
    generalize (List.replicate (if part = true then (1 : Int) else 0).toNat [V.non]).flatten = no at su hq3 hu3 len ok ⊢
    refine ⟨q, u, idV size, no, rfl, rfl, hq3, hu3, by rw [idV_len]; show size + no.length ≤ 16777216; omega, fun s ns => ?_⟩
    have ss := su.trans (same_upd (o := .lst (idV size ++ no)) ns)
    have hs : L2.upd H3 s (.lst (idV size ++ no)) s = some (.lst (idV size ++ no)) := upd_same
    have nsl : s ≠ l := fun z => by
      have := su _ _ hl0
      rw [← z, ns] at this
      cases this
    have lens : 1 ≤ (idV size ++ no).length ∧ (idV size ++ no).length ≤ 1000 := by
      rw [List.length_append, idV_len]
      omega
    generalize L2.upd H3 s (.lst (idV size ++ no)) = H4 at ss hs ⊢
    generalize idV size ++ no = sm at hs ok lens ⊢
    have srcs := src.same ss
    refine ⟨_, rfl, l, n, 3, rfl, srcs, by omega, by decide, by decide, fun i H5 i0 i1 b5 src5 => ?_⟩
    refine ⟨rfl, _, rfl, ?_⟩
    have hs5 := b5 _ _ nsl hs
    have b05 : But l H H5 := But.trans (But.of ss) b5
    have none8 : ∀ {H8 : Hp} {m : Nat} {t : Addr}, But l H H8 → Src H8 l m → H8 t = none → H t = none := fun {H8 m t} b sc nt => by
      obtain ⟨a, b1, c, h, _⟩ := sc
      have ntl : t ≠ l := fun z => by rw [← z, nt] at h; cases h
      cases e : H t with
      | none => rfl
      | some o => rw [b _ _ ntl e] at nt; cases nt
    have endPick : ∀ {H8 : Hp} {s8 : Addr} {sm8 : List V} {m : Nat} {v4 v5 : Option V}, But l H H8 → Src H8 l m → m ≤ n + 4 → H8 s8 = some (.lst sm8) → s8 ≠ l → (1 ≤ sm8.length ∧ sm8.length ≤ 1000) → (∀ z ∈ sm8, imgOk part size z) →
        (tCB (fun xs H Q => ∃ p ys, xs = [V.ref p] ∧ ((SqL K H p ys ∧ ∀ (l : Addr), H l = none → Q (V.ref l) (L2.upd H l (HO.tup ys))) ∨ SqT K H p ys ∧ Q (V.ref p) H)) (tCons (tLc (iRng1 (tCons (tVar 1) tNil)) (gName 5) tYes tePick [5]) tNil))
          [some (.ref l), some (.int (size : Nat)), some (.bl part), some (.ref s8), v4, v5] H8 Q := fun {H8 s8 sm8 m v4 v5} b08 src8 m4 hs8 ns8 len8 ok8 =>
      fin_pick src8 (by omega) s10 hs8 ns8 len8 ok8 fun t xs H' b nt ht lx ox sx => k t xs H' (But.trans b08 b) (none8 b08 src8 nt) ht lx ox (sx.up (by omega))
    have endPop : ∀ {H8 : Hp} {s8 : Addr} {m : Nat} {v5 : Option V}, But l H H8 → Src H8 l m → m ≤ n + 4 → ∀ e0 : Addr, H8 e0 = none →
        (tCB (fun xs H Q => ∃ p ys, xs = [V.ref p] ∧ ((SqL K H p ys ∧ ∀ (l : Addr), H l = none → Q (V.ref l) (L2.upd H l (HO.tup ys))) ∨ SqT K H p ys ∧ Q (V.ref p) H)) (tCons (tLc (iRng1 (tCons (tVar 1) tNil)) (gName 5) tYes (tePop K) [5]) tNil))
          [some (.ref l), some (.int (size : Nat)), some (.bl part), some (.ref s8), some (.ref e0), v5] (L2.upd H8 e0 (.lst (idV size))) Q := fun {H8 s8 m v5} b08 src8 m4 e0 ne0 => by
      have sm0 := same_upd (o := .lst (idV size)) ne0
      have nel : e0 ≠ l := fun z => by
        obtain ⟨a, b1, c, h, _⟩ := src8
        rw [← z, ne0] at h
        cases h
      refine fin_pop (src8.same sm0) (by omega) s10 upd_same nel (idV_len size) (fun z hz => ⟨(idV_part z hz).2, fun _ => (idV_ok z hz).2⟩) fun t xs H' b nt ht lx ox sx => ?_
      have nt8 : H8 t = none := by
        cases e : H8 t with
        | none => rfl
        | some o => rw [sm0 _ _ e] at nt; cases nt
      refine k t xs H' (fun c o nl e => ?_) (none8 b08 src8 nt8) ht lx ox (sx.up (by omega))
      have e8 := b08 _ _ nl e
      exact b _ _ nl (ne_of_none e8 ne0) (sm0 _ _ e8)
    refine ite2 (fun _ => ?_) (fun _ => ?_)
    case' refine_2 =>
      have b08 := b05
      have hs8 := hs5
      have ns8 := nsl
      have len8 := lens
      have ok8 := ok
      have src8 := src5.up (show n + 1 ≤ n + 3 by omega)
    case' refine_1 =>
      refine ⟨_, rfl, _, rfl, l, s, n + 1, sm, rfl, src5, by omega, hs5, nsl, lens.1, lens.2, fun x H6 hx b6 src6 => ?_⟩
      refine ⟨_, rfl, _, rfl, l, s, n + 2, sm, rfl, src6, by omega, b6 _ _ nsl hs5, nsl, lens.1, lens.2, fun y H7 hy b7 src7 => ?_⟩
      refine ⟨(by show 2 ≤ sizeLine; decide), fun s2 ns2 => ?_⟩
      have b08 := (b05.trans (b6.trans b7)).trans (But.of (same_upd (o := .lst [x, y]) ns2))
      have hs8 : L2.upd H7 s2 (.lst [x, y]) s2 = some (.lst [x, y]) := upd_same
      have ns8 : s2 ≠ l := fun z => by
        obtain ⟨a, b1, c, h, _⟩ := src7
        rw [← z, ns2] at h
        cases h
      have len8 : 1 ≤ [x, y].length ∧ [x, y].length ≤ 1000 := ⟨by show 1 ≤ 2; decide, by show 2 ≤ 1000; decide⟩
      have ok8 : ∀ z ∈ [x, y], imgOk part size z := fun z hz => by
        rcases List.mem_cons.mp hz with rfl | hz
        · exact ok _ hx
        · rw [List.mem_singleton.mp hz]
          exact ok _ hy
      have src8 := src7.same (same_upd (o := .lst [x, y]) ns2)
    all_goals
      refine ⟨_, rfl, _, rfl, ?_⟩
      cases part with
      | true =>
        refine ifF rfl ?_
        exact endPick b08 src8 (by omega) hs8 ns8 len8 ok8
      | false =>
        refine ifT rfl ?_
        refine ⟨_, rfl, l, n + 3, 4, rfl, src8, by omega, by decide, by decide, fun j H9 j0 j1 b9 src9 => ?_⟩
        refine ⟨rfl, _, rfl, ?_⟩
        refine ite2 (fun _ => ?_) (fun _ => ?_)
        · refine ⟨_, rfl, (size : Nat), rfl, ⟨by decide, by decide, by omega, by omega, by omega⟩, fun e0 ne0 => ?_⟩
          rw [rgV_id]
          exact endPop (b08.trans b9) src9 (by omega) e0 ne0
        · exact endPick (b08.trans b9) src9 (by omega) (b9 _ _ ns8 hs8) ns8 len8 ok8
end
end K06

set_option Elab.async false
set_option linter.all false
set_option maxRecDepth 100000
set_option maxHeartbeats 8000000
namespace K06
open PySem PySem.Spec PyProof.Rows L2 Lf
/-- of the one row [0] -/
def spInts (K : PySem.W.Frag) : Sp := fun vs H Q _ => ∃ a, vs = [.ref a, .int 1] ∧ SqL K H a [.int 0] ∧ ∀ H', Same H H' → Q (.bl true) H'
def spSmall : Sp := fun vs H Q _ => ∃ e l p : Int, vs = [.int e, .int l, .int p] ∧ e < l ∧ Q (.int e) H
section
variable {P : Program} {w : World} {K : PySem.W.Frag} {mg : Str → Option Value} {base : Heap}
theorem scSmall : FnScope ["entry", "least", "period"] ["entry", "least", "period"] (defScope s_smallest) := ⟨rfl, rfl, rfl, by decide +kernel, rfl, by decide +kernel, by decide +kernel⟩
theorem ok_small {f : Addr} {fd : FuncData} {q : Str} (F : FunD K "_smallest" q (defArgs s_smallest) (defBody s_smallest) (defScope s_smallest) [] [] f fd) : FnOk P w K mg base CX0 1 f fd ["entry", "least", "period"] spSmall := by
  refine F.ok scSmall (fun vs H Q E h => ?_) (fun cdv A outer s H vs Q E hr h => ?_)
  · obtain ⟨e, l, p, rfl, _⟩ := h
    rfl
  · obtain ⟨e, l, p, rfl, lt, k⟩ := h
    refine ⟨_, PSs.nox (pss_cons (ps_if (pt_cmpR op_lt (pv 0) (pv 1) (nomark _)) (pss_one (ps_ret (pv 0))) pss_nil) (pss_one ps_never)), ?_⟩
    refine ⟨_, rfl, _, rfl, e, l, rfl, rfl, _, rfl, ?_⟩
    exact ifT (decide_eq_true lt) ⟨_, rfl, k⟩
theorem scInts : FnScope ["row", "many", "entry"] ["row", "many"] (defScope s_are_integers) := ⟨rfl, rfl, rfl, by decide +kernel, rfl, by decide +kernel, by decide +kernel⟩
theorem ok_ints {f : Addr} {fd : FuncData} {q : Str} (F : FunD K "_are_integers" q (defArgs s_are_integers) (defBody s_are_integers) (defScope s_are_integers) [] [] f fd) (za : mg "all" = none)
    (DS : Def P w K mg base CX0 1 "is_sequence" ["thing", "least", "most"] (spSeq K)) (DN : Def P w K mg base CX0 1 "is_number" ["thing"] spNum) : FnOk P w K mg base CX0 2 f fd ["row", "many"] (spInts K) := by
  refine F.ok scInts (fun vs H Q E h => ?_) (fun cdv A outer s H vs Q E hr h => ?_)
  · obtain ⟨a, rfl, _⟩ := h
    rfl
  · obtain ⟨a, rfl, sq, k⟩ := h
    refine ⟨_, PSs.nox (pss_one (ps_ret (pe_and (pe_def DS hr pass0 rfl (pa_cons (pv 0) (pa_cons (pv 1) (pa_cons (pv 1) pa_nil)))) (pe_one (pe_callB (cr_all rfl) rfl za (by decide +kernel)
      (pa_cons (pe_lc (own := [("entry", 2)]) (g := gName 2) (by rfl) scInts.nd (pi_list (pv 0)) (blkOk_by (own := [("entry", 2)]) (N := ["row", "many", "entry"]) (sc := defScope s_are_integers) (by decide +kernel)) (fun _ _ _ _ _ => pg_name (i := 2) scInts.nd rfl (Or.inl rfl)) (fun _ _ _ _ _ => pts_nil)
        (fun _ _ _ _ _ => by exact pe_and (pe_def DN hr pass0 rfl (pa_cons (pv 2) pa_nil)) (pe_one (pe_cmpR op_ge (pv 2) pe_int (nomark _))))) pa_nil)))))), ?_⟩
    refine ⟨_, rfl, _, rfl, _, rfl, a, [.int 0], 1, 1, rfl, .inl sq, fun H1 s1 => ⟨_, rfl, ?_⟩⟩
    refine ifT rfl ?_
    refine ⟨_, rfl, a, rfl, ⟨_, L2.Same.seq s1 sq⟩, fun D nD => ?_⟩
    refine lc_list (K := K) (a := a) (xs := [.int 0]) (fun i Hc => But D H1 Hc ∧ Hc D = some (.lst (List.replicate i (V.bl true)))) ⟨But.upd, upd_same⟩ (fun i Hc _ ⟨bc, _⟩ => L2.Same.seq (Same.but (L2.Same.refl _) nD bc) (L2.Same.seq s1 sq)) (fun i z Hc hz ⟨bc, hD⟩ => ?_) (fun Hc ⟨bc, hD⟩ => ?_)
    · have i0 : i = 0 ∧ z = .int 0 := by
        cases i with
        | zero => exact ⟨rfl, (Option.some.inj hz).symm⟩
        | succ i => simp at hz
      obtain ⟨rfl, rfl⟩ := i0
      refine ⟨rfl, yesT ?_⟩
      refine ⟨_, rfl, .int 0, rfl, True.intro, _, rfl, ?_⟩
      refine ifT rfl ?_
      exact ⟨_, rfl, 0, 0, rfl, rfl, _, hD, by show 0 < 16777216; decide, But.trans bc But.upd, upd_same⟩
    · refine ⟨D, [true], rfl, SqL.of hD, ?_⟩
      exact k _ (s1.trans (Same.but (L2.Same.refl _) nD bc))
end
end K06

set_option Elab.async false
set_option linter.all false
set_option maxRecDepth 100000
set_option maxHeartbeats 8000000
namespace K06
open PySem PySem.Spec PyProof.Rows L2 Lf
def spGridI (K : PySem.W.Frag) : Sp := fun vs H Q _ => ∃ p r row dx, vs = [.ref p, .ref r, .int 1, .int 1] ∧ H p = some (.ins (He.ga K "Grid") dx []) ∧ SqL K H r [.ref row] ∧ SqL K H row [.int 0] ∧
  ∀ t u fs H', But p H H' → H' p = some (.ins (He.ga K "Grid") dx fs) → fs.lookup ("rows" : Str) = some (.ref t) → fs.lookup ("least" : Str) = some (.int 1) → fs.lookup ("period" : Str) = some (.int 1) → SqT K H' t [.ref u] → Q .non H'
abbrev rTup (K : PySem.W.Frag) : List V → Hp → VK → Prop := fun xs H Q => ∃ p ys, xs = [V.ref p] ∧ ((SqL K H p ys ∧ ∀ (l : Addr), H l = none → Q (V.ref l) (L2.upd H l (HO.tup ys))) ∨ SqT K H p ys ∧ Q (V.ref p) H)
abbrev teSmall : TE := fun σ H Q => (tCons (tVar 6) (tCons (tVar 2) (tCons (tVar 3) tNil))) σ H fun vs H1 => spSmall vs H1 Q E0
abbrev teRow (K : PySem.W.Frag) : TE := tCB (rTup K) (tCons (tLc (iList K (tVar 5)) (gName 6) tYes teSmall [6]) tNil)
/-- the scope of the comprehension over the rows -/
def scRow : Scope := { kind := .function, names := [(".0", .local), ("row", .local), ("tuple", .globalImplicit), ("least", .cell), ("period", .cell)], isGenerator := false, isCoroutine := false }
section
variable {P : Program} {w : World} {K : PySem.W.Frag} {mg : Str → Option Value} {base : Heap}
theorem scGridI : FnScope ["self", "rows", "least", "period", "place", "row", "entry"] ["self", "rows", "least", "period"] (defScope s_Grid_init) := ⟨rfl, rfl, rfl, by decide +kernel, rfl, by decide +kernel, by decide +kernel⟩
theorem ok_gridI {f : Addr} {fd : FuncData} {q : Str} (F : FunD K "__init__" q (defArgs s_Grid_init) (defBody s_Grid_init) (defScope s_Grid_init) [] [] f fd) (T : Txt P w K mg base)
    (DS : Def P w K mg base CX0 1 "is_sequence" ["thing", "least", "most"] (spSeq K)) (DB : Def P w K mg base CX0 2 "is_between" ["thing", "least", "most"] spBtw) (DI : Def P w K mg base CX0 2 "_are_integers" ["row", "many"] (spInts K)) (DM : Def P w K mg base CX0 1 "_smallest" ["entry", "least", "period"] spSmall) :
    FnOk P w K mg base CX0 3 f fd ["self", "rows", "least", "period"] (spGridI K) := by
  obtain ⟨tr, gr⟩ := T.it 33 "MOST_ROWS" 4 rfl
  obtain ⟨tl, gl⟩ := T.it 34 "MOST_LEAST" 8 rfl
  obtain ⟨tp, gp⟩ := T.it 35 "MOST_PERIOD" 8 rfl
  have zE : mg "enumerate" = none := T.fr 41 "enumerate" rfl
  have zn : mg "len" = none := T.fr 44 "len" rfl
  have zt : mg "tuple" = none := T.fr 51 "tuple" rfl
  have cl : L2.Cls K (He.ga K "Grid") := He.cls_ok (T.d.fact 68 (f := .cls "Grid") rfl)
  have n3 : NoAttr K (He.ga K "Grid") "rows" := He.noat_ok (T.d.fact 72 (f := .noat "Grid" "rows") rfl)
  have n4 : NoAttr K (He.ga K "Grid") "least" := He.noat_ok (T.d.fact 73 (f := .noat "Grid" "least") rfl)
  have n5 : NoAttr K (He.ga K "Grid") "period" := He.noat_ok (T.d.fact 74 (f := .noat "Grid" "period") rfl)
  refine F.ok scGridI (fun vs H Q E h => ?_) (fun cdv A outer s H vs Q E hr h => ?_)
  · obtain ⟨p, r, row, dx, rfl, _⟩ := h
    rfl
  · obtain ⟨p, r, row, dx, rfl, hp, sr, so, k⟩ := h
    have r1 : Room 1 _ := hr.mono (by decide)
    refine ⟨_, PSs.nox (pss_cons (ps_if (pt_not (pt_val (pe_def DS r1 pass0 rfl (pa_cons (pv 1) (pa_cons pe_int (pa_cons (pe_gint rfl gr) pa_nil)))))) (pss_one ps_never) pss_nil)
      (pss_cons (ps_for PassesOwn.never rfl (pi_enumA rfl zE (pv 1)) (pg_tup rfl (pgs_cons (pg_name (i := 4) scGridI.nd rfl (.inl rfl)) (pgs_cons (pg_name (i := 5) scGridI.nd rfl (.inl rfl)) pgs_nil)))
        (pss_one (ps_if (pt_not (pt_val (pe_def DI hr pass0 rfl (pa_cons (pv 5) (pa_cons (pe_callB call_len_seq rfl zn boot_len (pa_cons (pv 1) pa_nil)) pa_nil))))) (pss_one ps_never) pss_nil)))
      (pss_cons (ps_if (pt_not (pt_val (pe_def DB hr pass0 rfl (pa_cons (pv 2) (pa_cons pe_int (pa_cons (pe_gint rfl gl) pa_nil)))))) (pss_one ps_never) pss_nil)
      (pss_cons (ps_if (pt_not (pt_val (pe_def DB hr pass0 rfl (pa_cons (pv 3) (pa_cons pe_int (pa_cons (pe_gint rfl gp) pa_nil)))))) (pss_one ps_never) pss_nil)
      (pss_cons (ps_fld (pv 0) (pe_callTy call_tuple_of rfl zt PyProof.Rows.boot_tuple (pa_cons (pe_lc (own := [("row", 5)]) (g := gName 5) (te := teRow K) (by rfl) scGridI.nd (pi_list (pv 1)) (blkOk_by (own := [("row", 5)]) (N := ["self", "rows", "least", "period", "place", "row", "entry"]) (sc := defScope s_Grid_init) (by decide +kernel)) (fun _ _ _ _ _ => pg_name (i := 5) scGridI.nd rfl (Or.inl rfl)) (fun _ _ _ _ _ => pts_nil)
        (fun _ _ _ _ _ => by exact pe_callTy call_tuple_of rfl zt PyProof.Rows.boot_tuple (pa_cons (pe_lc (own := [("entry", 6)]) (g := gName 6) (te := teSmall) (by rfl) scGridI.nd (pi_list (pv 5)) (blkOk_by (own := [("entry", 6)]) (N := ["self", "rows", "least", "period", "place", "row", "entry"]) (sc := scRow) (by decide +kernel)) (fun _ _ _ _ _ => pg_name (i := 6) scGridI.nd rfl (Or.inl rfl)) (fun _ _ _ _ _ => pts_nil)
          (fun _ _ _ _ _ => by exact pe_def DM r1 pass0 rfl (pa_cons (pv 6) (pa_cons (pv 2) (pa_cons (pv 3) pa_nil))))) pa_nil))) pa_nil)) rfl)
      (pss_cons (ps_fld (pv 0) (pv 2) rfl)
      (pss_one (ps_fld (pv 0) (pv 3) rfl)))))))), ?_⟩
    refine ⟨_, rfl, r, [.ref row], 1, 4, rfl, .inl sr, fun H1 s1 => ⟨_, rfl, ?_⟩⟩
    refine ifF rfl ?_
    have sr1 := L2.Same.seq s1 sr
    have so1 := L2.Same.seq s1 so
    have hp1 := s1 _ _ hp
    refine ⟨_, rfl, r, [.ref row], rfl, .inl ⟨sr1, ?_⟩⟩
    have wk : Walk (Ite K r) 1 (fun H => Same H1 H) (fun i H v H' => ∃ T x, v = .ref T ∧ H T = none ∧ H' = L2.upd H T (.tup [.int (i : Nat), x]) ∧ [V.ref row][i]? = some x) := (walk_enumL (xs := [V.ref row])).mono (fun H s => L2.Same.seq s sr1) (fun i H x H' _ _ y => y)
    refine for_it wk (fun i σ H2 => ∃ v4 v5 : Option V, σ = [some (.ref p), some (.ref r), some (.int 1), some (.int 1), v4, v5, none] ∧ Same H1 H2) ⟨none, none, rfl, L2.Same.refl _⟩ (fun i σ H2 _ ⟨_, _, _, s⟩ => s) ?_ ?_
    · rintro i x σ H2 H3 hi ⟨v4, v5, rfl, s2⟩ ⟨T', y, rfl, nT, rfl, hy⟩
      have y0 : y = .ref row := by
        cases i with
        | zero => exact (Option.some.inj hy).symm
        | succ i => simp at hy
      subst y0
      refine ⟨T', _, rfl, SqT.of upd_same, rfl, _, _, rfl, _, _, rfl, rfl, ?_⟩
      have s3 := s2.trans (same_upd (o := .tup [.int (i : Nat), .ref row]) nT)
      refine ⟨_, rfl, _, rfl, r, [.ref row], rfl, .inl (L2.Same.seq s3 sr1), row, rfl, L2.Same.seq s3 so1, fun H4 s4 => ⟨_, rfl, ?_⟩⟩
      exact ifF rfl ⟨_, _, rfl, s3.trans s4⟩
    · rintro σ H2 ⟨v4, v5, rfl, s2⟩
      refine ⟨_, rfl, .int 1, 0, 8, rfl, True.intro, _, rfl, ?_⟩
      refine ifF rfl ?_
      refine ⟨_, rfl, .int 1, 1, 8, rfl, True.intro, _, rfl, ?_⟩
      refine ifF rfl ?_
      have sr2 := L2.Same.seq s2 sr1
      have so2 := L2.Same.seq s2 so1
      have hp2 := s2 _ _ hp1
      refine ⟨_, rfl, r, rfl, ⟨_, sr2⟩, fun D nD => ?_⟩
      refine lc_list (K := K) (a := r) (xs := [.ref row]) (fun i Hc => But D H2 Hc ∧ ∃ us : List Addr, us.length = i ∧ Hc D = some (.lst (us.map V.ref))) ⟨But.upd, [], rfl, upd_same⟩ (fun i Hc _ ⟨bc, _⟩ => L2.Same.seq (Same.but (L2.Same.refl _) nD bc) sr2) (fun i z Hc hz ⟨bc, us, lu, hD⟩ => ?_) (fun Hc ⟨bc, us, lu, hD⟩ => ?_)
      · have i0 : i = 0 ∧ z = .ref row := by
          cases i with
          | zero => exact ⟨rfl, (Option.some.inj hz).symm⟩
          | succ i => simp at hz
        obtain ⟨rfl, rfl⟩ := i0
        refine ⟨rfl, yesT ?_⟩
        have sc := Same.but (L2.Same.refl _) nD bc
        refine ⟨_, rfl, row, rfl, ⟨_, L2.Same.seq sc so2⟩, fun D2 nD2 => ?_⟩
        refine lc_list (K := K) (a := row) (xs := [.int 0]) (fun i Hd => But D2 Hc Hd ∧ Hd D2 = some (.lst (List.replicate i (V.int 0)))) ⟨But.upd, upd_same⟩ (fun i Hd _ ⟨bd, _⟩ => L2.Same.seq (Same.but (L2.Same.refl _) nD2 bd) (L2.Same.seq sc so2)) (fun i z Hd hz ⟨bd, hD2⟩ => ?_) (fun Hd ⟨bd, hD2⟩ => ?_)
        · have i0 : i = 0 ∧ z = .int 0 := by
            cases i with
            | zero => exact ⟨rfl, (Option.some.inj hz).symm⟩
            | succ i => simp at hz
          obtain ⟨rfl, rfl⟩ := i0
          refine ⟨rfl, yesT ?_⟩
          refine ⟨_, rfl, _, rfl, _, rfl, 0, 1, 1, rfl, by decide, ?_⟩
          exact ⟨_, hD2, by show 0 < 16777216; decide, But.trans bd But.upd, upd_same⟩
        · have sd := Same.but (L2.Same.refl _) nD2 bd
          refine ⟨D2, _, rfl, .inl ⟨SqL.of hD2, fun u nu => ?_⟩⟩
          have hD' := same_upd (o := .tup (List.replicate 1 (V.int 0))) nu _ _ (sd _ _ hD)
          refine ⟨_, hD', by rw [List.length_map, lu]; show 0 < 16777216; decide, ?_, us ++ [u], by simp [lu], by rw [upd_same]; simp⟩
          exact But.trans (bc.trans (But.of (sd.trans (same_upd nu)))) But.upd
      · have sc := Same.but (L2.Same.refl _) nD bc
        obtain ⟨u, rfl⟩ : ∃ u, us = [u] := by
          cases us with
          | nil => simp at lu
          | cons u r => cases r with
            | nil => exact ⟨u, rfl⟩
            | cons _ _ => simp at lu
        refine ⟨D, _, rfl, .inl ⟨SqL.of hD, fun t nt => ?_⟩⟩
        have hp3 := same_upd (o := .tup [V.ref u]) nt _ _ (sc _ _ hp2)
        have npt : p ≠ t := ne_of_none (sc _ _ hp2) nt
        have s3 : Same H (L2.upd Hc t (.tup [V.ref u])) := ((s1.trans s2).trans sc).trans (same_upd nt)
        have ht : L2.upd Hc t (.tup [V.ref u]) t = some (.tup [V.ref u]) := upd_same
        refine ⟨_, rfl, p, _, dx, [], rfl, hp3, cl, n3, (by show 0 < 1000; decide), ?_⟩
        refine ⟨_, rfl, _, rfl, p, _, dx, _, rfl, upd_same, cl, n4, (by show 1 < 1000; decide), ?_⟩
        refine ⟨_, rfl, _, rfl, p, _, dx, _, rfl, upd_same, cl, n5, (by show 2 < 1000; decide), ?_⟩
        refine k t u _ _ (fun b o n e => ?_) upd_same rfl rfl rfl (SqT.of ?_)
        · rw [upd_ne n, upd_ne n, upd_ne n]
          exact s3 _ _ e
        · rw [upd_ne npt.symm, upd_ne npt.symm, upd_ne npt.symm]
          exact ht
end
end K06

set_option Elab.async false
set_option linter.all false
set_option maxRecDepth 100000
set_option maxHeartbeats 8000000
namespace K06
open PySem PySem.Spec PyProof.Rows L2 Lf
abbrev tePts : TE := fun σ H Q => (tCons (tVar 2) (tCons (tC (.int 0)) (tCons (tOp (rI0 fun i j => .int (i - j)) (tVar 1) (tC (.int 1))) tNil))) σ H fun vs H1 => spBtw vs H1 Q E0
section
variable {P : Program} {w : World} {K : PySem.W.Frag} {mg : Str → Option Value} {base : Heap}
theorem scPts : FnScope ["row", "points", "point"] ["row", "points"] (defScope s_are_points) := ⟨rfl, rfl, rfl, by decide +kernel, rfl, by decide +kernel, by decide +kernel⟩
theorem ok_pts {f : Addr} {fd : FuncData} {q : Str} (F : FunD K "_are_points" q (defArgs s_are_points) (defBody s_are_points) (defScope s_are_points) [] [] f fd) (za : mg "all" = none) (zI : mg "isinstance" = none) (zl : mg "list" = none) (zt : mg "tuple" = none)
    (DB : Def P w K mg base CX0 2 "is_between" ["thing", "least", "most"] spBtw) : FnOk P w K mg base CX0 3 f fd ["row", "points"] (spInts K) := by
  refine F.ok scPts (fun vs H Q E h => ?_) (fun cdv A outer s H vs Q E hr h => ?_)
  · obtain ⟨a, rfl, _⟩ := h
    rfl
  · obtain ⟨a, rfl, sq, k⟩ := h
    refine ⟨_, PSs.nox (pss_one (ps_ret (pe_and (pe_callB call_isiT rfl zI PyProof.Rows.boot_isinstance (pa_cons (pv 0) (pa_cons (pe_tup (pa_cons (pe_bltn (v := .ty "list") rfl zl PyProof.Rows.boot_list rfl) (pa_cons (pe_bltn (v := .ty "tuple") rfl zt PyProof.Rows.boot_tuple rfl) pa_nil))) pa_nil))) (pe_one (pe_callB (cr_all rfl) rfl za (by decide +kernel)
      (pa_cons (pe_lc (own := [("point", 2)]) (g := gName 2) (te := tePts) (by rfl) scPts.nd (pi_list (pv 0)) (blkOk_by (own := [("point", 2)]) (N := ["row", "points", "point"]) (sc := defScope s_are_points) (by decide +kernel)) (fun _ _ _ _ _ => pg_name (i := 2) scPts.nd rfl (Or.inl rfl)) (fun _ _ _ _ _ => pts_nil)
        (fun _ _ _ _ _ => by exact pe_def DB hr pass0 rfl (pa_cons (pv 2) (pa_cons pe_int (pa_cons (pe_op op_sub (pv 1) pe_int) pa_nil))))) pa_nil)))))), ?_⟩
    refine ⟨_, rfl, (by show 2 ≤ sizeLine; decide), fun p np => ?_⟩
    have sm := same_upd (o := .tup [.ty "list", .ty "tuple"]) np
    have sq1 := L2.Same.seq sm sq
    refine ⟨.ref a, p, _, _, _, true, rfl, upd_same, .cons (.ty _) (.cons (.ty _) .nil), tyx_l sq1, any_lt.1, true, rfl, ?_⟩
    refine ifT rfl ?_
    refine ⟨_, rfl, a, rfl, ⟨_, sq1⟩, fun D nD => ?_⟩
    refine lc_list (K := K) (a := a) (xs := [.int 0]) (fun i Hc => But D (L2.upd H p (.tup [.ty "list", .ty "tuple"])) Hc ∧ Hc D = some (.lst (List.replicate i (V.bl true)))) ⟨But.upd, upd_same⟩ (fun i Hc _ ⟨bc, _⟩ => L2.Same.seq (Same.but (L2.Same.refl _) nD bc) sq1) (fun i z Hc hz ⟨bc, hD⟩ => ?_) (fun Hc ⟨bc, hD⟩ => ?_)
    · have i0 : i = 0 ∧ z = .int 0 := by
        cases i with
        | zero => exact ⟨rfl, (Option.some.inj hz).symm⟩
        | succ i => simp at hz
      obtain ⟨rfl, rfl⟩ := i0
      refine ⟨rfl, yesT ?_⟩
      exact ⟨_, rfl, _, rfl, 1, 1, rfl, rfl, .int 0, 0, 0, rfl, True.intro, _, hD, by show 0 < 16777216; decide, But.trans bc But.upd, upd_same⟩
    · refine ⟨D, [true], rfl, SqL.of hD, ?_⟩
      exact k _ (sm.trans (Same.but (L2.Same.refl _) nD bc))
end
end K06

set_option Elab.async false
set_option linter.all false
set_option maxRecDepth 100000
set_option maxHeartbeats 8000000
namespace K06
open PySem PySem.Spec PyProof.Rows L2 Lf
def spRelI (K : PySem.W.Frag) : Sp := fun vs H Q _ => ∃ p r row dx, vs = [.ref p, .ref r] ∧ H p = some (.ins (He.ga K "Relation") dx []) ∧ SqL K H r [.ref row] ∧ SqL K H row [.int 0] ∧
  ∀ t u H', But p H H' → H' p = some (.ins (He.ga K "Relation") dx [("rows", .ref t)]) → SqT K H' t [.ref u] → Q .non H'
abbrev teSort (K : PySem.W.Frag) (w : World) : TE := tCB (rTup K) (tCons (tCB (rSortedSet w) (tCons (tCB (rSetI K w) (tCons (tVar 3) tNil)) tNil)) tNil)
section
variable {P : Program} {w : World} {K : PySem.W.Frag} {mg : Str → Option Value} {base : Heap}
theorem scRelI : FnScope ["self", "rows", "place", "row"] ["self", "rows"] (defScope s_Relation_init) := ⟨rfl, rfl, rfl, by decide +kernel, rfl, by decide +kernel, by decide +kernel⟩
theorem ok_relI {f : Addr} {fd : FuncData} {q : Str} (F : FunD K "__init__" q (defArgs s_Relation_init) (defBody s_Relation_init) (defScope s_Relation_init) [] [] f fd) (T : Txt P w K mg base)
    (DS : Def P w K mg base CX0 1 "is_sequence" ["thing", "least", "most"] (spSeq K)) (DI : Def P w K mg base CX0 3 "_are_points" ["row", "points"] (spInts K)) :
    FnOk P w K mg base CX0 4 f fd ["self", "rows"] (spRelI K) := by
  obtain ⟨tr, gr⟩ := T.it 33 "MOST_ROWS" 4 rfl
  have zE : mg "enumerate" = none := T.fr 41 "enumerate" rfl
  have zn : mg "len" = none := T.fr 44 "len" rfl
  have zs : mg "set" = none := T.fr 48 "set" rfl
  have zo : mg "sorted" = none := T.fr 49 "sorted" rfl
  have zt : mg "tuple" = none := T.fr 51 "tuple" rfl
  have cl : L2.Cls K (He.ga K "Relation") := He.cls_ok (T.d.fact 63 (f := .cls "Relation") rfl)
  have n3 : NoAttr K (He.ga K "Relation") "rows" := He.noat_ok (T.d.fact 67 (f := .noat "Relation" "rows") rfl)
  refine F.ok scRelI (fun vs H Q E h => ?_) (fun cdv A outer s H vs Q E hr h => ?_)
  · obtain ⟨p, r, row, dx, rfl, _⟩ := h
    rfl
  · obtain ⟨p, r, row, dx, rfl, hp, sr, so, k⟩ := h
    have r1 : Room 1 _ := hr.mono (by decide)
    refine ⟨_, PSs.nox (pss_cons (ps_if (pt_not (pt_val (pe_def DS r1 pass0 rfl (pa_cons (pv 1) (pa_cons pe_int (pa_cons (pe_gint rfl gr) pa_nil)))))) (pss_one ps_never) pss_nil)
      (pss_cons (ps_for PassesOwn.never rfl (pi_enumA rfl zE (pv 1)) (pg_tup rfl (pgs_cons (pg_name (i := 2) scRelI.nd rfl (.inl rfl)) (pgs_cons (pg_name (i := 3) scRelI.nd rfl (.inl rfl)) pgs_nil)))
        (pss_one (ps_if (pt_not (pt_val (pe_def DI hr pass0 rfl (pa_cons (pv 3) (pa_cons (pe_callB call_len_seq rfl zn boot_len (pa_cons (pv 1) pa_nil)) pa_nil))))) (pss_one ps_never) pss_nil)))
      (pss_one (ps_fld (pv 0) (pe_callTy call_tuple_of rfl zt PyProof.Rows.boot_tuple (pa_cons (pe_lc (own := [("row", 3)]) (g := gName 3) (te := teSort K w) (by rfl) scRelI.nd (pi_list (pv 1)) (blkOk_by (own := [("row", 3)]) (N := ["self", "rows", "place", "row"]) (sc := defScope s_Relation_init) (by decide +kernel)) (fun _ _ _ _ _ => pg_name (i := 3) scRelI.nd rfl (Or.inl rfl)) (fun _ _ _ _ _ => pts_nil)
        (fun _ _ _ _ _ => by exact pe_callTy call_tuple_of rfl zt PyProof.Rows.boot_tuple (pa_cons (pe_callB (cr_sortedSet rfl) rfl zo (by decide +kernel) (pa_cons (pe_callTy (cr_setI rfl) rfl zs boot_set (pa_cons (pv 3) pa_nil)) pa_nil)) pa_nil))) pa_nil)) rfl)))), ?_⟩
    refine ⟨_, rfl, r, [.ref row], 1, 4, rfl, .inl sr, fun H1 s1 => ⟨_, rfl, ?_⟩⟩
    refine ifF rfl ?_
    have sr1 := L2.Same.seq s1 sr
    have so1 := L2.Same.seq s1 so
    have hp1 := s1 _ _ hp
    refine ⟨_, rfl, r, [.ref row], rfl, .inl ⟨sr1, ?_⟩⟩
    have wk : Walk (Ite K r) 1 (fun H => Same H1 H) (fun i H v H' => ∃ T x, v = .ref T ∧ H T = none ∧ H' = L2.upd H T (.tup [.int (i : Nat), x]) ∧ [V.ref row][i]? = some x) := (walk_enumL (xs := [V.ref row])).mono (fun H s => L2.Same.seq s sr1) (fun i H x H' _ _ y => y)
    refine for_it wk (fun i σ H2 => ∃ v4 v5 : Option V, σ = [some (.ref p), some (.ref r), v4, v5] ∧ Same H1 H2) ⟨none, none, rfl, L2.Same.refl _⟩ (fun i σ H2 _ ⟨_, _, _, s⟩ => s) ?_ ?_
    · rintro i x σ H2 H3 hi ⟨v4, v5, rfl, s2⟩ ⟨T', y, rfl, nT, rfl, hy⟩
      have y0 : y = .ref row := by
        cases i with
        | zero => exact (Option.some.inj hy).symm
        | succ i => simp at hy
      subst y0
      refine ⟨T', _, rfl, SqT.of upd_same, rfl, _, _, rfl, _, _, rfl, rfl, ?_⟩
      have s3 := s2.trans (same_upd (o := .tup [.int (i : Nat), .ref row]) nT)
      refine ⟨_, rfl, _, rfl, r, [.ref row], rfl, .inl (L2.Same.seq s3 sr1), row, rfl, L2.Same.seq s3 so1, fun H4 s4 => ⟨_, rfl, ?_⟩⟩
      exact ifF rfl ⟨_, _, rfl, s3.trans s4⟩
    · rintro σ H2 ⟨v4, v5, rfl, s2⟩
      have sr2 := L2.Same.seq s2 sr1
      have so2 := L2.Same.seq s2 so1
      have hp2 := s2 _ _ hp1
      refine ⟨_, rfl, r, rfl, ⟨_, sr2⟩, fun D nD => ?_⟩
      refine lc_list (K := K) (a := r) (xs := [.ref row]) (fun i Hc => But D H2 Hc ∧ ∃ us : List Addr, us.length = i ∧ Hc D = some (.lst (us.map V.ref))) ⟨But.upd, [], rfl, upd_same⟩ (fun i Hc _ ⟨bc, _⟩ => L2.Same.seq (Same.but (L2.Same.refl _) nD bc) sr2) (fun i z Hc hz ⟨bc, us, lu, hD⟩ => ?_) (fun Hc ⟨bc, us, lu, hD⟩ => ?_)
      · have i0 : i = 0 ∧ z = .ref row := by
          cases i with
          | zero => exact ⟨rfl, (Option.some.inj hz).symm⟩
          | succ i => simp at hz
        obtain ⟨rfl, rfl⟩ := i0
        refine ⟨rfl, yesT ?_⟩
        have sc := Same.but (L2.Same.refl _) nD bc
        refine ⟨_, rfl, row, [0], rfl, .inl (L2.Same.seq sc so2), by decide, fun e m lm ne => ?_⟩
        refine ⟨e, _, m, rfl, upd_same, Nat.lt_of_le_of_lt lm (by decide), fun ns p2 hs hm hl np2 => ?_⟩
        have se := same_upd (o := SetO w e (fun k => decide (k ∈ ([0] : List Int))) m) ne
        have sp := se.trans (same_upd (o := .lst (ns.map V.int)) np2)
        refine ⟨p2, _, rfl, .inl ⟨SqL.of upd_same, fun u nu => ?_⟩⟩
        have su := sp.trans (same_upd (o := .tup (ns.map V.int)) nu)
        refine ⟨_, su _ _ hD, by rw [List.length_map, lu]; show 0 < 16777216; decide, ?_, us ++ [u], by simp [lu], by rw [upd_same]; simp⟩
        exact But.trans (bc.trans (But.of su)) But.upd
      · have sc := Same.but (L2.Same.refl _) nD bc
        obtain ⟨u, rfl⟩ : ∃ u, us = [u] := by
          cases us with
          | nil => simp at lu
          | cons u r => cases r with
            | nil => exact ⟨u, rfl⟩
            | cons _ _ => simp at lu
        refine ⟨D, _, rfl, .inl ⟨SqL.of hD, fun t nt => ?_⟩⟩
        have hp3 := same_upd (o := .tup [V.ref u]) nt _ _ (sc _ _ hp2)
        have npt : p ≠ t := ne_of_none (sc _ _ hp2) nt
        have s3 : Same H (L2.upd Hc t (.tup [V.ref u])) := ((s1.trans s2).trans sc).trans (same_upd nt)
        refine ⟨_, rfl, p, _, dx, [], rfl, hp3, cl, n3, (by show 0 < 1000; decide), ?_⟩
        refine k t u _ (fun b o n e => ?_) upd_same (SqT.of ?_)
        · rw [upd_ne n]
          exact s3 _ _ e
        · rw [upd_ne npt.symm]
          exact upd_same
end
end K06

set_option Elab.async false
set_option linter.all false
set_option maxRecDepth 100000
set_option maxHeartbeats 8000000
namespace K06
open PySem PySem.Spec PyProof.Rows L2 Lf
/-- what is_unlike makes of the lambda's reading: it raises Unlike -/
def TUnl (K : PySem.W.Frag) : (XK → Hp → VK → Prop) → Hp → VK → Prop := fun tl H Q => ∀ Q', tl (fun cls d H' => cls = .ref (He.ga K "Unlike") ∧ d = none ∧ Q (.bl true) H') H Q'
/-- what the head says of an error class made of nothing -/
structure BareC (K : PySem.W.Frag) (x : Str) : Prop where
  e : ErrC K (He.ga K x)
  is : PySem.W.kitOne K (.ref (He.ga K x)) (.ref (He.ga K "FoldError")) = some true
section
variable {P : Program} {w : World} {K : PySem.W.Frag} {mg : Str → Option Value} {base : Heap}
theorem Txt.bare (T : Txt P w K mg base) {x : Str} (h : x ∈ bares) : BareC K x := by
  have z := List.all_eq_true.mp (He.ba (He.ba T.m).2).1 x h
  obtain ⟨a, b⟩ := He.ba z
  exact ⟨errB_ok a, of_decide_eq_true b⟩
theorem scUnl : FnScope ["_law_ask", "e"] ["_law_ask"] (defScope s_L_is_unlike) := ⟨rfl, rfl, rfl, by decide +kernel, rfl, by decide +kernel, by decide +kernel⟩
theorem scTold : FnScope ["self"] ["self"] (defScope s_Unlike_told) := ⟨rfl, rfl, rfl, by decide +kernel, rfl, by decide +kernel, by decide +kernel⟩
end
open LamX in
theorem unl_gives {X : Cx} {g : Addr} {cdg : Value} {q : Str} (T : Txt X.prog X.w X.K X.mg X.base) (hr : Room 4 X.A) : GivesTo X ["_law_ask", "e"] "_law_is_unlike" (defScope s_L_is_unlike) g cdg (defBody s_L_is_unlike) "_law_ask" q (TUnl X.K) := by
  intro f c' s H Q tl act hc h
  have B := T.bare (x := "Unlike") (by decide)
  obtain ⟨fd, F⟩ := T.d.def_ 8 (d := d_Unlike_told) rfl
  have M : Meth X.K (He.ga X.K "Unlike") "told" (He.ma X.K (He.ga X.K "Unlike") "told") := He.meth_ok (T.d.fact 83 (f := .meth "Unlike" "told") rfl)
  have FW : FnW X.prog X.w X.K X.mg X.base 1 (He.fAd X.K d_Unlike_told.at_) fd ["self"] (Lf.spTold "refused unlike") := Lf.told_okW F scTold
  have bT : L2.Binds X.K fd ["self"] [] := F.bindsN fun _ _ _ _ _ _ us hl => match us, hl with | [_], _ => rfl
  have e1 : PySem.W.exmOne X.K (.ref (He.ga X.K "Unlike")) (.ref (He.ga X.K "Unlike")) = some true := He.exm_ok (T.d.fact 96 (f := .exm "Unlike" "Unlike" true) rfl)
  have zI : X.mg "isinstance" = none := T.fr 43 "isinstance" rfl
  have hr2 := hr.deeper (envOfC "_law_is_unlike" (defScope s_L_is_unlike) s.heap.objs.size g cdg)
  have room : L2H.RoomH 1 (X.A.deeper (envOfC "_law_is_unlike" (defScope s_L_is_unlike) s.heap.objs.size g cdg)) := ⟨by have := hr2.dp; omega, by have := hr2.un; omega⟩
  refine ⟨_, pss_cons (ps_try_asM (X := (cxOf C8.CX0 X.prog X.w X.K X.mg X.base ["_law_ask", "e"] "_law_is_unlike" (defScope s_L_is_unlike) g cdg X.A X.stack s H C8.E0).nox) (c := .ref (He.ga X.K "Unlike")) (i := 1)
      (tb := fun W D σ H => ∃ Ech : XK, (∀ cls d σ' H', Ech cls d H' → W cls d σ' H') ∧ σ[0]? = some (some (.ref f)) ∧ H c' = some (CodeO c' q) ∧ ∀ Q', tl Ech H Q')
      (ts := fun a cls d D σ H => cls = .ref (He.ga X.K "Unlike") ∧ d = none ∧ σ[1]? = some (some (.ref a)) ∧ D.rt (.bl true) H)
      rfl rfl scUnl.nd rfl rfl ⟨rfl, by decide +kernel, .inl (T.gl 3 "Unlike" rfl)⟩ LamX.takes0 (fun W pn xe tk _ => ?inner) (fun a o cls d pn z fl => ?suite) (.cons (c := .ref (He.ga X.K "FoldError")) ⟨rfl, by decide +kernel, .inl (T.gl 0 "FoldError" rfl)⟩ (fun a oe cls d pn _ _ => pss_one (ps_ret pe_bl)) .nil)) (pss_one (ps_ret pe_bl)), ?fin⟩
  case inner =>
    refine ⟨fun pins s' σ H' D I h' => ?_⟩
    obtain ⟨Ech, hW, h1, h2, h3⟩ := h'
    exact (pss_one (ps_expr (act W pn xe Ech _ _ tk hW))).run pins s' σ H' D I ⟨h1, h2, h3 _⟩
  case suite =>
    refine pss_some fun D σ H' h' => ?_
    obtain ⟨rfl, rfl, h1, h2⟩ := h'
    have isC := call_isC (X := (cxOf C8.CX0 X.prog X.w X.K X.mg X.base ["_law_ask", "e"] "_law_is_unlike" (defScope s_L_is_unlike) g cdg X.A X.stack s H C8.E0).nox) (a := a) (pn := pn) B.e.i z fl
    refine ⟨_, (pss_one (ps_ret (pe_and (pe_callB isC rfl zI PyProof.Rows.boot_isinstance (pa_cons (pv 1) (pa_cons (pe_cl rfl (T.gl 0 "FoldError" rfl)) pa_nil)))
      (pe_one (pe_cmpR op_eq ((by exact pe_toldC (X := (cxOf C8.CX0 X.prog X.w X.K X.mg X.base ["_law_ask", "e"] "_law_is_unlike" (defScope s_L_is_unlike) g cdg X.A X.stack s H C8.E0).nox) B.e.i M FW bT room z fl (pv 1)) :
        PE ((cxOf C8.CX0 X.prog X.w X.K X.mg X.base ["_law_ask", "e"] "_law_is_unlike" (defScope s_L_is_unlike) g cdg X.A X.stack s H C8.E0).nox.suite a ((a, o) :: pn)) _ (tToldC a none "told" (Lf.spTold "refused unlike") (tVar 1))) pe_str (nomark _)))))), ?_⟩
    refine ⟨_, h1, .ref (He.ga X.K "FoldError"), _, true, rfl, .own _, fun dx e => (nomatch e), B.is, _, rfl, ?_⟩
    refine ifT rfl ?_
    refine ⟨_, h1, rfl, fun dx e => (nomatch e), _, rfl, rfl, ?_⟩
    show D.rt (.bl (decide (V.str "refused unlike" = V.str "refused unlike"))) H'
    rw [decide_eq_true rfl]
    exact h2
  case fin =>
    refine ⟨fun cls d H' => cls = .ref (He.ga X.K "Unlike") ∧ d = none ∧ Q (.bl true) H', fun cls d σ' H' ⟨e1', e2, e3⟩ ln => ?_, rfl, hc, h⟩
    subst e1' e2
    exact ⟨true, e1, fun _ a na => ⟨rfl, rfl, by rw [List.getElem?_set_self (by rw [ln]; show 1 < 2; decide)], e3⟩, fun z => nomatch z⟩
end K06

set_option Elab.async false
set_option linter.all false
set_option maxRecDepth 100000
set_option maxHeartbeats 8000000
namespace K06
open PySem PySem.Spec PyProof.Rows L2 Lf
/-! products of images -/
def cOf (p : Bool) : Str := if p = true then "Part" else "Map"
theorem cOf_mem (p : Bool) : cOf p ∈ (["Map", "Part"] : List Str) := by cases p <;> decide
theorem okOf_cOf {p : Bool} {n : Int} {z : V} : okOf (cOf p) n z = (if p = true then partOk n z else mapOk n z) := by
  have h : ("Part" : Str) ≠ "Map" := by decide +kernel
  cases p with
  | true => show (if ("Part" : Str) = "Map" then mapOk else partOk) n z = partOk n z; rw [if_neg h]
  | false => show (if ("Map" : Str) = "Map" then mapOk else partOk) n z = mapOk n z; rw [if_pos rfl]
theorem part_of_map {n : Int} {z : V} (h : mapOk n z = true) : partOk n z = true := by
  show (decide (z = .non) || btw 0 (n - 1) z) = true
  rw [show btw 0 (n - 1) z = true from h]
  simp
/-- images of n points, of maps or partial maps -/
def Good (p : Bool) (n : Nat) (xs : List V) : Prop := xs.length = n ∧ ∀ z ∈ xs, imgOk p n z
theorem imgOk.cases {p : Bool} {n : Nat} {z : V} (h : imgOk p n z) : (z = .non ∧ p = true) ∨ ∃ i : Nat, z = .int (i : Nat) ∧ i < n := by
  rcases part_img h.1 with e | e
  · cases p with
    | true => exact .inl ⟨e, rfl⟩
    | false =>
      have := h.2 rfl
      rw [e] at this
      cases this
  · exact .inr e
theorem imgOk.int {p : Bool} {n i : Nat} (h : i < n) : imgOk p n (.int (i : Nat)) := by
  have m : mapOk (n : Nat) (.int (i : Nat)) = true := by
    show (decide ((0 : Int) ≤ (i : Nat)) && decide (((i : Nat) : Int) ≤ (n : Nat) - 1)) = true
    rw [decide_eq_true (by omega), decide_eq_true (by omega)]
    rfl
  exact ⟨part_of_map m, fun _ => m⟩
theorem imgOk.flat {p : Bool} {n : Nat} {z : V} (h : imgOk p n z) : Flat z := by
  rcases h.cases with ⟨rfl, _⟩ | ⟨i, rfl, _⟩ <;> exact True.intro
theorem imgOk.img {p : Bool} {n : Nat} {z : V} (h : imgOk p n z) : Img z := by
  rcases h.cases with ⟨rfl, _⟩ | ⟨i, rfl, _⟩
  · exact .inl rfl
  · exact .inr ⟨_, rfl⟩
theorem imgOk.ok {p : Bool} {n : Nat} {z : V} (h : imgOk p n z) : okOf (cOf p) (n : Nat) z = true := by
  rw [okOf_cOf]
  cases p with
  | true => exact h.1
  | false => exact h.2 rfl
theorem thru_non {ys : List V} : thru ys .non = .non := rfl
theorem thru_at {ys : List V} {i : Nat} (h : i < ys.length) : thru ys (.int (i : Nat)) = ys[i] := thru_get (List.getElem?_eq_getElem h)
theorem Good.mul {p : Bool} {n : Nat} {xs ys : List V} (gx : Good p n xs) (gy : Good p n ys) : Good p n (xs.map (thru ys)) := by
  refine ⟨by rw [List.length_map, gx.1], fun z hz => ?_⟩
  obtain ⟨z0, h0, rfl⟩ := List.mem_map.mp hz
  rcases (gx.2 z0 h0).cases with ⟨rfl, e⟩ | ⟨i, rfl, hi⟩
  · exact gx.2 _ h0
  · rw [thru_at (by rw [gy.1]; exact hi)]
    exact gy.2 _ (List.getElem_mem _)
theorem thru_thru {p : Bool} {n : Nat} {ys zs : List V} (gy : ys.length = n) {z : V} (h : imgOk p n z) : thru zs (thru ys z) = thru (ys.map (thru zs)) z := by
  rcases h.cases with ⟨rfl, e⟩ | ⟨i, rfl, hi⟩
  · rfl
  · rw [thru_at (by rw [gy]; exact hi), thru_at (by rw [List.length_map, gy]; exact hi), List.getElem_map]
theorem mul_assoc {p : Bool} {n : Nat} {xs ys zs : List V} (gx : Good p n xs) (gy : ys.length = n) : (xs.map (thru ys)).map (thru zs) = xs.map (thru (ys.map (thru zs))) := by
  rw [List.map_map]
  exact List.map_congr_left fun z hz => thru_thru gy (gx.2 z hz)
theorem idV_get {n i : Nat} (h : i < n) : thru (idV n) (.int (i : Nat)) = .int (i : Nat) := by
  rw [thru_at (by rw [idV_len]; exact h)]
  simp [idV]
theorem mul_one {p : Bool} {n : Nat} {xs : List V} (gx : Good p n xs) : xs.map (thru (idV n)) = xs := by
  conv => rhs; rw [← List.map_id xs]
  refine List.map_congr_left fun z hz => ?_
  rcases (gx.2 z hz).cases with ⟨rfl, e⟩ | ⟨i, rfl, hi⟩
  · rfl
  · exact idV_get hi
theorem one_mul {n : Nat} {ys : List V} (gy : ys.length = n) : (idV n).map (thru ys) = ys := by
  apply List.ext_getElem
  · rw [List.length_map, idV_len, gy]
  · intro i h1 h2
    rw [List.getElem_map]
    have e : (idV n)[i]'(by simpa using h1) = .int (i : Nat) := by simp [idV]
    rw [e, thru_at h2]
theorem Good.id {p : Bool} {n : Nat} : Good p n (idV n) := ⟨idV_len n, fun z hz => by
  unfold idV at hz
  obtain ⟨i, hi, rfl⟩ := List.mem_map.mp hz
  exact imgOk.int (List.mem_range.mp hi)⟩
theorem Good.zero {p : Bool} {n : Nat} (h : 1 ≤ n) : Good p n (List.replicate n (V.int 0)) := ⟨List.length_replicate, fun z hz => by
  rw [(List.mem_replicate.mp hz).2]
  exact imgOk.int (i := 0) (by omega)⟩
theorem Good.none {n : Nat} : Good true n (List.replicate n V.non) := ⟨List.length_replicate, fun z hz => by
  rw [(List.mem_replicate.mp hz).2]
  exact ⟨by rfl, fun h => nomatch h⟩⟩
/-! values -/
section
variable {P : Program} {w : World} {K : PySem.W.Frag} {mg : Str → Option Value} {base : Heap} {p : Bool} {n : Nat} {xs ys : List V} {H : Hp} {x y : V} {Q : VK} {E : XK}
theorem mul_r (T : Txt P w K mg base) (ex : El K H x (cOf p) xs) (ey : El K H y (cOf p) ys) (gx : Good p n xs) (gy : Good p n ys) (n1 : 1 ≤ n) (n10 : n ≤ 10)
    (k : ∀ r H', Same H H' → El K H' r (cOf p) (xs.map (thru ys)) → Q r H') : rBin K (He.ga K (cOf p)) "mul" (spMul K (cOf p)) E x y H Q := by
  obtain ⟨a, dx, t, rfl, ha, qa⟩ := ex
  obtain ⟨b, dy, u, rfl, hb, qb⟩ := ey
  obtain ⟨ho, cl, _⟩ := T.el (cOf_mem p)
  refine ⟨a, dx, _, _, rfl, ha, (T.own ho).ty cl hb, right_same, .ref a, .ref b, xs, rfl, ⟨a, dx, t, rfl, ha, qa⟩, by rw [gx.1]; exact n1, by rw [gx.1]; exact n10, .inl ⟨ys, ⟨b, dy, u, rfl, hb, qb⟩, by rw [gx.1, gy.1], fun z hz => ?_, fun z hz => ?_, k⟩⟩
  · rw [gx.1]; exact ⟨(gx.2 z hz).flat, (gx.2 z hz).ok⟩
  · rw [gx.1]; exact ⟨(gy.2 z hz).flat, (gy.2 z hz).ok⟩
theorem opsl_mem (p : Bool) : cOf p ∈ opsl := by cases p <;> decide
theorem owns_mem (p : Bool) : cOf p ∈ owns := by cases p <;> decide
theorem cls_mem {x : Str} (h : x ∈ owns) : He.ga K x ∈ cls K := List.mem_map.mpr ⟨x, h, rfl⟩
theorem ne_r (T : Txt P w K mg base) (ex : El K H x (cOf p) xs) (ey : El K H y (cOf p) xs) (gx : Good p n xs) (k : Q (.bl false) H) : rOwnNe K (He.ga K (cOf p)) (spEqS K (cOf p)) E x y H Q := by
  obtain ⟨a, dx, t, rfl, ha, qa⟩ := ex
  obtain ⟨b, dy, u, rfl, hb, qb⟩ := ey
  obtain ⟨ho, cl, _⟩ := T.el (cOf_mem p)
  exact ⟨a, dx, _, _, rfl, ha, (T.own ho).ty cl hb, (T.ops (opsl_mem p)).notFirst (cls_mem ho), .ref a, .ref b, xs, rfl, ⟨a, dx, t, rfl, ha, qa⟩, ⟨b, dy, u, rfl, hb, qb⟩, fun z hz => (gx.2 z hz).img, true, rfl, k⟩
/-- the images of an element -/
theorem img_r (T : Txt P w K mg base) (ex : El K H x (cOf p) xs) : ∃ a C dx fs, x = .ref a ∧ H a = some (.ins C dx fs) ∧ L2.Cls K C ∧ NoAttr K C "images" ∧ ∃ t, fs.lookup ("images" : Str) = some (.ref t) ∧ SqT K H t xs := by
  obtain ⟨a, dx, t, rfl, ha, qa⟩ := ex
  obtain ⟨ho, cl, na, _⟩ := T.el (cOf_mem p)
  exact ⟨a, _, dx, _, rfl, ha, cl, na, t, rfl, qa⟩
/-- two tuples of the same images are not unlike -/
theorem tup_ne {t u : Addr} (qa : SqT K H t xs) (qb : SqT K H u xs) (gx : Good p n xs) (k : Q (.bl false) H) : rNeD K (.ref t) (.ref u) H Q := by
  have im : ∀ z ∈ xs, Img z := fun z hz => (gx.2 z hz).img
  refine ⟨_, _, .tup qa (img_dpAll im), .tup qb (img_dpAll im), flat_can im, flat_can im, ?_⟩
  rw [same_eqv im]
  exact k
end
/-! what stays when the table of code objects grows -/
section
open LamX
variable {K : PySem.W.Frag} {H H' : Hp}
theorem ext_sqT {t : Addr} {xs : List V} (e : ExtN H H') (h : SqT K H t xs) : SqT K H' t xs := by
  rcases h with (h | ⟨o, h⟩) | h
  · exact .inl (.inl (e _ _ h fun _ z => nomatch z))
  · exact .inl (.inr ⟨o, e _ _ h fun _ z => nomatch z⟩)
  · exact .inr h
theorem El.ext {x : V} {c : Str} {xs : List V} (e : ExtN H H') (h : El K H x c xs) : El K H' x c xs := by
  obtain ⟨a, dx, t, rfl, h, q⟩ := h
  exact ⟨a, dx, t, rfl, e _ _ h (fun _ z => nomatch z), ext_sqT e q⟩
theorem tyx_ext {x : V} {t : Value} (e : ExtN H H') (h : TyX K H x t) : TyX K H' x t := by
  cases h with
  | base b =>
    cases b with
    | non => exact .base .non
    | bl b => exact .base (.bl b)
    | int i => exact .base (.int i)
    | str s => exact .base (.str s)
    | flt f => exact .base (.flt f)
    | lst h => exact .base (.lst (e _ _ h fun _ z => nomatch z))
    | frz h => exact .base (.frz (e _ _ h fun _ z => nomatch z))
    | tup h => exact .base (.tup (e _ _ h fun _ z => nomatch z))
    | dK h => exact .base (.dK (e _ _ h fun _ z => nomatch z))
    | dT h => exact .base (.dT (e _ _ h fun _ z => nomatch z))
    | ins h a b c d f => exact .base (.ins (e _ _ h fun _ z => nomatch z) a b c d f)
  | byt b => exact .byt b
  | set h => exact .set (e _ _ h fun _ z => nomatch z)
  | kList h c => exact .kList h c
  | kTuple h c => exact .kTuple h c
  | kDict h c => exact .kDict h c
  | fTuple h => exact .fTuple (e _ _ h fun _ z => nomatch z)
  | fDict h => exact .fDict (e _ _ h fun _ z => nomatch z)
theorem ShOf.ext {x : V} {s : Option (List V)} (e : ExtN H H') (h : ShOf K H x s) : ShOf K H' x s := by
  cases h with
  | map h q => exact .map (e _ _ h fun _ z => nomatch z) (ext_sqT e q)
  | part h q => exact .part (e _ _ h fun _ z => nomatch z) (ext_sqT e q)
  | rel h q => exact .rel (e _ _ h fun _ z => nomatch z) (ext_sqT e q)
  | grid h a b c q => exact .grid (e _ _ h fun _ z => nomatch z) a b c (ext_sqT e q)
  | no h b => exact .no (tyx_ext e h) b
end
/-- what a shape is to be compared with -/
def datOf : Option (List V) → PyData
  | some zs => .tuple (zs.map dOf)
  | none => .none
/-- a factor that is refused behind an element of n points -/
structure Bad (K : PySem.W.Frag) (H : Hp) (p : Bool) (n : Nat) (y : V) : Prop where
  ex : ∃ s t, ShOf K H y s ∧ PyData.eqv (shD (cOf p) n) (datOf s) = false ∧ SeqAt.shaped (datOf s) = true ∧ (∀ zs, s = some zs → ∀ z ∈ zs, Flat z) ∧ TyX K H y t ∧ RightOf K (He.ga K (cOf p)) "mul" t
theorem Bad.ext {K : PySem.W.Frag} {H H' : Hp} {p : Bool} {n : Nat} {y : V} (e : LamX.ExtN H H') (h : Bad K H p n y) : Bad K H' p n y := by
  obtain ⟨s, t, a, b, c, d, f, g⟩ := h.ex
  exact ⟨s, t, a.ext e, b, c, d, tyx_ext e f, g⟩
theorem Bad.same {K : PySem.W.Frag} {H H' : Hp} {p : Bool} {n : Nat} {y : V} (e : Same H H') (h : Bad K H p n y) : Bad K H' p n y := h.ext (LamX.ExtN.of e)
theorem shaped_flat {zs : List V} (h : ∀ z ∈ zs, (∃ i : Int, z = .int i) ∨ ∃ s, z = .str s ∧ PyData.strOk s = true) : SeqAt.shaped (.tuple (zs.map dOf)) = true := by
  have all : ∀ {zs : List V}, (∀ z ∈ zs, (∃ i : Int, z = .int i) ∨ ∃ s, z = .str s ∧ PyData.strOk s = true) → PyData.canLayAll0 (zs.map dOf) = true ∧ PyData.depthAll (zs.map dOf) = 0 := by
    intro zs
    induction zs with
    | nil => intro _; simp [PyData.canLayAll0, PyData.depthAll]
    | cons z r ih =>
      intro h
      obtain ⟨a, b⟩ := ih fun y hy => h y (by simp [hy])
      rcases h z (by simp) with ⟨i, rfl⟩ | ⟨s, rfl, o⟩
      · simp [PyData.canLayAll0, PyData.depthAll, dOf, PyData.canLay0, PyData.depth, a, b]
      · simp [PyData.canLayAll0, PyData.depthAll, dOf, PyData.canLay0, PyData.depth, a, b, o]
  obtain ⟨a, b⟩ := all h
  unfold SeqAt.shaped
  simp [PyData.canLay0, PyData.depth, a, b]
section
variable {P : Program} {w : World} {K : PySem.W.Frag} {mg : Str → Option Value} {base : Heap} {p : Bool} {n : Nat} {H : Hp} {y : V} {Q : VK} {E : XK}
theorem mulOf (T : Txt P w K mg base) (p : Bool) : Meth K (He.ga K (cOf p)) "__mul__" (He.ma K (He.ga K (cOf p)) "__mul__") := by
  cases p with
  | true => exact He.meth_ok (T.d.fact 61 (f := .meth "Part" "__mul__") rfl)
  | false => exact He.meth_ok (T.d.fact 56 (f := .meth "Map" "__mul__") rfl)
theorem low_cOf (p : Bool) : low (cOf p) = if p = true then "part" else "map" := by cases p <;> decide +kernel
/-- none of the five classes -/
theorem bad_no (T : Txt P w K mg base) {b : String} (ty : TyX K H y (.type b)) (hb : b ∈ ["NoneType", "int", "tuple"]) : Bad K H p n y := by
  have o := T.ops (opsl_mem p)
  refine ⟨none, .type b, .no ty ?_, rfl, by decide +kernel, fun zs e => (nomatch e), ty, ?_⟩
  · simp only [List.mem_cons, List.not_mem_nil, or_false] at hb
    rcases hb with rfl | rfl | rfl <;> decide
  · simp only [List.mem_cons, List.not_mem_nil, or_false] at hb
    rcases hb with rfl | rfl | rfl
    · exact o.right_none
    · exact o.right_int
    · exact o.right_tuple
theorem ga_ne (T : Txt P w K mg base) {x y : Str} (hx : x ∈ owns) (hy : y ∈ owns) (h : x ≠ y) : He.ga K x ≠ He.ga K y := fun e => by
  have a := (T.own hx).is y hy
  have b := (T.own hy).is y hy
  rw [e, b] at a
  have := Option.some.inj a
  rw [decide_eq_true rfl, decide_eq_false h] at this
  cases this
/-- an element of another class -/
theorem bad_own (T : Txt P w K mg base) {c : Str} {s : List V} {f : Addr} {a dx : Addr} {fs : List (Str × V)} (hc : c ∈ owns) (ho : c ∈ opsl) (ne : c ≠ cOf p) (M : Meth K (He.ga K c) "__mul__" f) (cl : L2.Cls K (He.ga K c)) (h : H a = some (.ins (He.ga K c) dx fs))
    (sh : ShOf K H (.ref a) (some s)) (e : PyData.eqv (shD (cOf p) n) (.tuple (s.map dOf)) = false) (ok : ∀ z ∈ s, (∃ i : Int, z = .int i) ∨ ∃ s, z = .str s ∧ PyData.strOk s = true) : Bad K H p n (.ref a) := by
  refine ⟨some s, _, sh, e, shaped_flat ok, fun zs ez z hz => ?_, (T.own hc).ty cl h, (T.ops (opsl_mem p)).right (T.ops ho) M (cls_mem hc) (ga_ne T hc (owns_mem p) ne)⟩
  cases ez
  rcases ok z hz with ⟨i, rfl⟩ | ⟨s, rfl, _⟩ <;> exact True.intro
/-- an element of the class, of another number of points -/
theorem bad_len (T : Txt P w K mg base) {xs : List V} (h : El K H y (cOf p) xs) (ne : xs.length ≠ n) : Bad K H p n y := by
  have sh := h.shape (cOf_mem p)
  obtain ⟨a, dx, t, rfl, ha, qa⟩ := h
  obtain ⟨ho, cl, _⟩ := T.el (cOf_mem p)
  have o1 : PyData.strOk "map" = true := by decide +kernel
  have o2 : PyData.strOk "part" = true := by decide +kernel
  refine ⟨_, _, sh, ?_, shaped_flat fun z hz => ?_, fun zs ez z hz => ?_, (T.own ho).ty cl ha, right_same⟩
  · have q : ((n : Int) == (xs.length : Int)) = false := beq_eq_false_iff_ne.mpr fun z => ne (by omega)
    show PyData.eqv (.tuple [.str (low (cOf p)), .int (n : Nat)]) (.tuple [.str (low (cOf p)), .int (xs.length : Nat)]) = false
    simp [PyData.eqv, PyData.eqvAll, q]
  · simp only [List.mem_cons, List.not_mem_nil, or_false] at hz
    rcases hz with rfl | rfl
    · refine .inr ⟨_, rfl, ?_⟩
      rw [low_cOf]
      split
      · exact o2
      · exact o1
    · exact .inl ⟨_, rfl⟩
  · cases ez
    simp only [List.mem_cons, List.not_mem_nil, or_false] at hz
    rcases hz with rfl | rfl <;> exact True.intro
/-- the product that is refused -/
theorem bad_r (T : Txt P w K mg base) {x : V} {xs : List V} (ex : El K H x (cOf p) xs) (gx : Good p n xs) (n1 : 1 ≤ n) (n10 : n ≤ 10) (b : Bad K H p n y) (k : ∀ H', Same H H' → E (.ref (He.ga K "Unlike")) none H') : rBin K (He.ga K (cOf p)) "mul" (spMul K (cOf p)) E x y H Q := by
  obtain ⟨a, dx, t, rfl, ha, qa⟩ := ex
  obtain ⟨s, t', sh, e, c, d, f, g⟩ := b.ex
  refine ⟨a, dx, _, t', rfl, ha, f, g, .ref a, y, xs, rfl, ⟨a, dx, t, rfl, ha, qa⟩, by rw [gx.1]; exact n1, by rw [gx.1]; exact n10, .inr ⟨s, datOf s, sh, ?_, by rw [gx.1]; exact e, c, d, k⟩⟩
  cases s <;> rfl
end
end K06

set_option Elab.async false
set_option linter.all false
set_option maxRecDepth 100000
set_option maxHeartbeats 8000000
namespace K06
open PySem PySem.Spec PyProof.Rows L2 Lf LamX
/-- all but the thing at l and the tables of code objects stay -/
def Grow (l : Addr) (H H' : Hp) : Prop := ∀ b o, b ≠ l → H b = some o → (∀ ps, o ≠ .tbl ps) → H' b = some o
theorem Grow.of {l : Addr} {H H' : Hp} (e : But l H H') : Grow l H H' := fun b o n h _ => e b o n h
theorem Grow.ext {l : Addr} {H H' : Hp} (e : ExtN H H') : Grow l H H' := fun b o _ h t => e b o h t
theorem Grow.trans {l : Addr} {H H1 H2 : Hp} (a : Grow l H H1) (b : Grow l H1 H2) : Grow l H H2 := fun c o n h t => b c o n (a c o n h t) t
theorem Src.ext {H H' : Hp} {l : Addr} {n : Nat} (h : Src H l n) (e : ExtN H H') : Src H' l n := by
  obtain ⟨a, b, c, h, r⟩ := h
  exact ⟨a, b, c, e _ _ h fun _ z => (nomatch z), r⟩
theorem Tabs.but {T : List (Addr × Str)} {H H' : Hp} {l : Addr} {xs : List V} (t : Tabs T H) (hl : H l = some (.lst xs)) (b : But l H H') : Tabs T H' := fun p hp => by
  obtain ⟨ps, h1, h2, h3⟩ := t p hp
  have ne : ∀ {c : Addr} {o : HO}, H c = some o → (∀ ys, o ≠ .lst ys) → c ≠ l := fun {c o} e n z => by
    rw [z, hl] at e
    exact n _ (Option.some.inj e).symm
  refine ⟨ps, b _ _ (ne h1 fun _ z => nomatch z) h1, h2, fun pos cv hc => ?_⟩
  obtain ⟨c, e1, e2⟩ := h3 pos cv hc
  exact ⟨c, e1, b _ _ (ne e2 fun _ z => by unfold CodeO at z; cases z) e2⟩
/-- a def's body with its code object told -/
theorem okC {P : Program} {w : World} {K : PySem.W.Frag} {mg : Str → Option Value} {base : Heap} {x qual : Str} {params : Arguments} {body : List Stmt} {scope : Scope} {dvs : List V} {kws : List (Str × V)} {at_ : He.Defn} {fd : FuncData} {CX : CXT} {N ps : List Str} {k : Nat} {sp : Sp}
    (F : FunD K x qual params body scope dvs kws (He.fAd K at_) fd) (S : FnScope N ps scope) (len : ∀ vs H Q E, sp vs H Q E → vs.length = ps.length)
    (go : ∀ (A : Around) (outer : List Env) (s : Shared) (H : Hp) (vs : List V) (Q : VK) (E : XK), Room k (A.deeper (envOfC qual scope s.heap.objs.size (He.fAd K at_) (.ref (He.cT K at_).1))) → sp vs H Q E →
      ∃ t, PSs (cxOf CX P w K mg base N qual scope (He.fAd K at_) (.ref (He.cT K at_).1) A outer s H E) body t ∧ t { nx := fun _ H' => Q .non H', rt := Q } (L2.start N vs) H) : FnOk P w K mg base CX (k + 1) (He.fAd K at_) fd ps sp := by
  obtain ⟨oc, od, dV, kV, doc, pm, an, cdv, ct, osl, rfl, lk, cd, _, _⟩ := F.ex
  obtain ⟨c, rfl⟩ := He.codeIn_ref cd
  have e : (He.cT K at_).1 = c := He.codeOf_eq lk rfl
  subst e
  exact fn_of lk cd S len go
structure MulC (P : Program) (w : World) (K : PySem.W.Frag) (mg : Str → Option Value) (base : Heap) (c : Str) : Prop where
  ex : ∃ f fd, OwnOp K (He.ga K c) "mul" f ∧ FnOk P w K mg base (L2.CX P w) 5 f fd ["self", "other"] (spMul K c) ∧ L2.Binds K fd ["self", "other"] []
structure EqC (P : Program) (w : World) (K : PySem.W.Frag) (mg : Str → Option Value) (base : Heap) (c : Str) : Prop where
  ex : ∃ f fd, OwnEq K (He.ga K c) f ∧ FnOk P w K mg base CX0 1 f fd ["self", "other"] (spEqS K c) ∧ L2.Binds K fd ["self", "other"] []
theorem passE0 {X : Cx} : Passes (L2.CX X.prog X.w) X E0 := fun _ _ _ _ _ _ _ h => by
  obtain ⟨_, _, _, _, _, _, _, _, _, _, _, _, z⟩ := h
  exact z.elim
section
variable {P : Program} {w : World} {K : PySem.W.Frag} {mg : Str → Option Value} {base : Heap}
theorem mulC (T : Txt P w K mg base) (DS : Def P w K mg base CX0 1 "shape_of" ["x"] (spShape K)) (M : MadeC P w K mg base "Map" mapOk) (N : MadeC P w K mg base "Part" partOk) (p : Bool) : MulC P w K mg base (cOf p) := by
  have o := (T.ops (opsl_mem p)).mul (mulOf T p)
  cases p with
  | true =>
    obtain ⟨fd, F⟩ := T.d.def_ 14 (d := d_Part_mul) rfl
    exact ⟨_, fd, o, ok_mulP F T DS N, F.bindsN fun _ _ _ _ _ _ us hl => match us, hl with | [_, _], _ => rfl⟩
  | false =>
    obtain ⟨fd, F⟩ := T.d.def_ 11 (d := d_Map_mul) rfl
    exact ⟨_, fd, o, ok_mulM F T DS M, F.bindsN fun _ _ _ _ _ _ us hl => match us, hl with | [_, _], _ => rfl⟩
theorem eqC (T : Txt P w K mg base) (p : Bool) : EqC P w K mg base (cOf p) := by
  cases p with
  | true =>
    obtain ⟨fd, F⟩ := T.d.def_ 13 (d := d_Part_eq) rfl
    have m : Meth K (He.ga K "Part") "__eq__" (He.ma K (He.ga K "Part") "__eq__") := He.meth_ok (T.d.fact 60 (f := .meth "Part" "__eq__") rfl)
    exact ⟨_, fd, (T.ops (x := "Part") (by decide)).eq m, ok_eqP F T, F.bindsN fun _ _ _ _ _ _ us hl => match us, hl with | [_, _], _ => rfl⟩
  | false =>
    obtain ⟨fd, F⟩ := T.d.def_ 10 (d := d_Map_eq) rfl
    have m : Meth K (He.ga K "Map") "__eq__" (He.ma K (He.ga K "Map") "__eq__") := He.meth_ok (T.d.fact 55 (f := .meth "Map" "__eq__") rfl)
    exact ⟨_, fd, (T.ops (x := "Map") (by decide)).eq m, ok_eqM F T, F.bindsN fun _ _ _ _ _ _ us hl => match us, hl with | [_, _], _ => rfl⟩
end
end K06

set_option Elab.async false
set_option linter.all false
set_option maxRecDepth 100000
set_option maxHeartbeats 8000000
namespace K06
open PySem PySem.Spec PyProof.Rows L2 Lf LamX
abbrev NR : List Str := ["_law_source_here", "_law_size", "_law_is_part", "_law_rows", "_law_y", "_law_z", "_law_one", "_law_due", "_law_others", "_law_many", "_law_other", "_law_x", "_law_turn", "_law_row"]
abbrev tbR (K : PySem.W.Frag) : List (Addr × Str) := [((He.cT K ("_law_right", none)).2, ("_law_right" : Str) ++ ".<locals>." ++ "<lambda>")]
def spRight (K : PySem.W.Frag) : Sp := fun vs H Q _ => ∃ (l : Addr) (n size : Nat) (part : Bool), vs = [.ref l, .int size, .bl part] ∧ Src H l n ∧ n + 200 ≤ 1000000 ∧ 1 ≤ size ∧ size ≤ 10 ∧ Tabs (tbR K) H ∧
  ∀ H', Grow l H H' → Tabs (tbR K) H' → Src H' l (n + 200) → Q (.bl true) H'
abbrev teImgs : TE := fun σ H Q => (tCons (tVar 0) (tCons (tVar 1) (tCons (tVar 2) tNil))) σ H fun vs H1 => spImages vs H1 Q E0
abbrev teEls (K : PySem.W.Frag) : TE := tIf (tB (tVar 2)) (tMake (He.ga K "Part") (spIni K (He.ga K "Part") partOk) [] E0 (tCons (tVar 13) tNil)) (tMake (He.ga K "Map") (spIni K (He.ga K "Map") mapOk) [] E0 (tCons (tVar 13) tNil))
section
variable {P : Program} {w : World} {K : PySem.W.Frag} {mg : Str → Option Value} {base : Heap}
theorem scRight : FnScope NR ["_law_source_here", "_law_size", "_law_is_part"] (defScope s_L_right) := ⟨rfl, rfl, rfl, by decide +kernel, rfl, by decide +kernel, by decide +kernel⟩
theorem onTb {K : PySem.W.Frag} : ∀ q ∈ tbR K, q.2 = ("_law_right" : Str) ++ ".<locals>." ++ "<lambda>" := fun q hq => by rw [List.mem_singleton.mp hq]
section
variable {p : Bool} {size : Nat} {xs ys : List V} {H : Hp} {x : V} {Q : VK}
theorem fld_r (T : Txt P w K mg base) (ex : El K H x (cOf p) xs) (k : ∀ t, SqT K H t xs → Q (.ref t) H) : ∃ a C dx fs v, x = .ref a ∧ H a = some (.ins C dx fs) ∧ L2.Cls K C ∧ NoAttr K C "images" ∧ fs.lookup ("images" : Str) = some v ∧ Q v H := by
  obtain ⟨a, dx, t, rfl, ha, qa⟩ := ex
  obtain ⟨ho, cl, na, _⟩ := T.el (cOf_mem p)
  exact ⟨a, _, dx, _, .ref t, rfl, ha, cl, na, rfl, k t qa⟩
theorem prod_r {a b : Addr} (qa : SqT K H a xs) (qb : SqT K H b ys) (gx : Good p size xs) (gy : Good p size ys) (s10 : size ≤ 10) (k : ∀ t H', Same H H' → SqT K H' t (xs.map (thru ys)) → Q (.ref t) H') : spProd K [.ref a, .ref b] H Q E0 :=
  ⟨a, b, xs, ys, rfl, qa, qb, by rw [gx.1]; exact s10, fun z hz => by rw [gy.1]; exact (gx.2 z hz).1, fun t H' s _ ht => k t H' s (SqT.of ht)⟩
theorem one_r (ex : El K H x (cOf p) xs) (gx : Good p size xs) (s1 : 1 ≤ size) (s10 : size ≤ 10) (k : ∀ y H', Same H H' → El K H' y (cOf p) (idV size) → Q y H') : spOne K [x] H Q E0 :=
  ⟨x, cOf p, xs, rfl, cOf_mem p, ex, by rw [gx.1]; exact s1, by rw [gx.1]; exact s10, fun y H' s e => k y H' s (by rw [gx.1] at e; exact e)⟩
end
theorem rows_ne {p : Bool} {n : Nat} {xs ys zs : List V} {H : Hp} {L D ax ay az bx b1 b2 : Addr} {Q : VK} (hL : SqL K H L [.ref ax, .ref ay, .ref az]) (hD : SqL K H D [.ref bx, .ref b1, .ref b2]) (qx : SqT K H ax xs) (qy : SqT K H ay ys) (qz : SqT K H az zs)
    (rx : SqT K H bx xs) (ry : SqT K H b1 ys) (rz : SqT K H b2 zs) (gx : Good p n xs) (gy : Good p n ys) (gz : Good p n zs) (k : Q (.bl false) H) : rNeD K (.ref L) (.ref D) H Q := by
  have ix : ∀ z ∈ xs, Img z := fun z hz => (gx.2 z hz).img
  have iy : ∀ z ∈ ys, Img z := fun z hz => (gy.2 z hz).img
  have iz : ∀ z ∈ zs, Img z := fun z hz => (gz.2 z hz).img
  have sh : SeqAt.shaped (.list [.tuple (xs.map dOf), .tuple (ys.map dOf), .tuple (zs.map dOf)]) = true := by
    unfold SeqAt.shaped
    simp [PyData.canLay0, PyData.canLayAll0, PyData.depth, PyData.depthAll, (flat_all ix).1, (flat_all iy).1, (flat_all iz).1, (flat_all ix).2, (flat_all iy).2, (flat_all iz).2]
  refine ⟨_, _, .lst hL (.cons (.tup qx (img_dpAll ix)) (.cons (.tup qy (img_dpAll iy)) (.cons (.tup qz (img_dpAll iz)) .nil))), .lst hD (.cons (.tup rx (img_dpAll ix)) (.cons (.tup ry (img_dpAll iy)) (.cons (.tup rz (img_dpAll iz)) .nil))), sh, sh, ?_⟩
  rw [eqv_same sh]
  exact k
theorem rep_eq {n : Nat} {v : V} : (List.replicate ((n : Nat) : Int).toNat [v]).flatten = List.replicate n v := by
  rw [Int.toNat_natCast]
  induction n with
  | zero => rfl
  | succ n ih => rw [List.replicate_succ, List.flatten_cons, ih]; rfl
/-- C([v] * n) -/
theorem make_rep {c : Str} {ok : Int → V → Bool} {n i : Nat} {v : V} {σ : L2.St} {H : Hp} {Q : VK} (hi : σ[i]? = some (some (.int (n : Nat)))) (n1 : 1 ≤ n) (n10 : n ≤ 10) (hv : Flat v ∧ ok (n : Nat) v = true) (k : ∀ y H', Same H H' → El K H' y c (List.replicate n v) → Q y H') :
    tMake (He.ga K c) (spIni K (He.ga K c) ok) [] E0 (tCons (tOp rRep (tLst (tCons (tC v) tNil)) (tVar i)) tNil) σ H Q := by
  refine ⟨(by show 1 ≤ sizeLine; decide), fun m nm => ?_⟩
  have um := same_upd (o := .lst [v]) nm
  refine ⟨_, hi, m, (n : Nat), [v], rfl, rfl, upd_same, by omega, by omega, ?_, fun u nu => ?_⟩
  · rw [Int.toNat_natCast]
    show 1 * n ≤ 16777216
    omega
  · intro x dx nx nd ne
    rw [rep_eq] at nx nd ⊢
    have uu := same_upd (o := .lst (List.replicate n v)) nu
    exact mk_in (c := c) (ok := ok) (xs := List.replicate n v) nx nd ne (.inl (SqL.of upd_same)) (by rw [List.length_replicate]; exact n1) (by rw [List.length_replicate]; exact n10) (fun y hy => by rw [List.length_replicate, (List.mem_replicate.mp hy).2]; exact hv) fun y H' s4 e4 => k y H' ((um.trans uu).trans s4) e4
/-- Relation([[0]]) -/
theorem make_rel {σ : L2.St} {H : Hp} {Q : VK} (k : ∀ a dx t u H', Same H H' → H' a = some (.ins (He.ga K "Relation") dx [("rows", .ref t)]) → SqT K H' t [.ref u] → Q (.ref a) H') :
    tMake (He.ga K "Relation") (spRelI K) [] E0 (tCons (tLst (tCons (tLst (tCons (tC (.int 0)) tNil)) tNil)) tNil) σ H Q := by
  refine ⟨(by show 1 ≤ sizeLine; decide), fun row nrow => ⟨(by show 1 ≤ sizeLine; decide), fun r nr => ?_⟩⟩
  intro x dx nx nd ne
  have u1 := same_upd (o := .lst [V.int 0]) nrow
  have u2 := same_upd (o := .lst [V.ref row]) nr
  have u3 := made_same (C := He.ga K "Relation") nx nd But.refl
  refine ⟨x, r, row, dx, rfl, upd_same, SqL.of (u3 _ _ upd_same), SqL.of (u3 _ _ (u2 _ _ upd_same)), fun t u H' b h q => ⟨rfl, ?_⟩⟩
  exact k x dx t u H' ((u1.trans u2).trans (made_same nx nd b)) h q
/-- Grid([[0]], 1, 1) -/
theorem make_grid {σ : L2.St} {H : Hp} {Q : VK} (k : ∀ a dx t u fs H', Same H H' → H' a = some (.ins (He.ga K "Grid") dx fs) → fs.lookup ("rows" : Str) = some (.ref t) → fs.lookup ("least" : Str) = some (.int 1) → fs.lookup ("period" : Str) = some (.int 1) → SqT K H' t [.ref u] → Q (.ref a) H') :
    tMake (He.ga K "Grid") (spGridI K) [] E0 (tCons (tLst (tCons (tLst (tCons (tC (.int 0)) tNil)) tNil)) (tCons (tC (.int 1)) (tCons (tC (.int 1)) tNil))) σ H Q := by
  refine ⟨(by show 1 ≤ sizeLine; decide), fun row nrow => ⟨(by show 1 ≤ sizeLine; decide), fun r nr => ?_⟩⟩
  intro x dx nx nd ne
  have u1 := same_upd (o := .lst [V.int 0]) nrow
  have u2 := same_upd (o := .lst [V.ref row]) nr
  have u3 := made_same (C := He.ga K "Grid") nx nd But.refl
  refine ⟨x, r, row, dx, rfl, upd_same, SqL.of (u3 _ _ upd_same), SqL.of (u3 _ _ (u2 _ _ upd_same)), fun t u fs H' b h h1 h2 h3 q => ⟨rfl, ?_⟩⟩
  exact k x dx t u fs H' ((u1.trans u2).trans (made_same nx nd b)) h h1 h2 h3 q
/-- what is refused stays so when another list is written -/
theorem Bad.but {p : Bool} {n : Nat} {y : V} {H H' : Hp} {O : Addr} {os : List V} (hO : H O = some (.lst os)) (b : But O H H') (nl : ∀ a xs, y = .ref a → H a ≠ some (.lst xs)) (h : Bad K H p n y) : Bad K H' p n y := by
  obtain ⟨s, t, sh, e, c, d, ty, r⟩ := h.ex
  clear h
  have go : ∀ {a : Addr} {o : HO}, H a = some o → (∀ xs, o ≠ .lst xs) → H' a = some o := fun {a o} h1 h2 => b _ _ (fun z => by rw [z, hO] at h1; exact h2 _ (Option.some.inj h1).symm) h1
  have tq : ∀ {a : Addr} {xs : List V}, SqT K H a xs → SqT K H' a xs := fun {a xs} q => by
    rcases q with (q | ⟨o, q⟩) | q
    · exact .inl (.inl (go q fun _ z => nomatch z))
    · exact .inl (.inr ⟨o, go q fun _ z => nomatch z⟩)
    · exact .inr q
  have tt : ∀ {t : Value}, TyX K H y t → TyX K H' y t := fun {t} ty => by
    cases ty with
    | base bb =>
      cases bb with
      | non => exact .base .non
      | bl b => exact .base (.bl b)
      | int i => exact .base (.int i)
      | str s => exact .base (.str s)
      | flt f => exact .base (.flt f)
      | lst h => exact absurd h (nl _ _ rfl)
      | frz h => exact .base (.frz (go h fun _ z => nomatch z))
      | tup h => exact .base (.tup (go h fun _ z => nomatch z))
      | dK h => exact .base (.dK (go h fun _ z => nomatch z))
      | dT h => exact .base (.dT (go h fun _ z => nomatch z))
      | ins h x1 x2 x3 x4 x5 => exact .base (.ins (go h fun _ z => nomatch z) x1 x2 x3 x4 x5)
    | byt b => exact .byt b
    | set h => exact .set (go h fun _ z => nomatch z)
    | kList h c => exact .kList h c
    | kTuple h c => exact .kTuple h c
    | kDict h c => exact .kDict h c
    | fTuple h => exact .fTuple (go h fun _ z => nomatch z)
    | fDict h => exact .fDict (go h fun _ z => nomatch z)
  refine ⟨s, t, ?_, e, c, d, tt ty, r⟩
  cases sh with
  | map h q => exact .map (go h fun _ z => nomatch z) (tq q)
  | part h q => exact .part (go h fun _ z => nomatch z) (tq q)
  | rel h q => exact .rel (go h fun _ z => nomatch z) (tq q)
  | grid h x1 x2 x3 q => exact .grid (go h fun _ z => nomatch z) x1 x2 x3 (tq q)
  | no h hb => exact .no (tt h) hb
/-- refused now, while only the list at O is written -/
def Lasts (K : PySem.W.Frag) (O : Addr) (p : Bool) (n : Nat) (H : Hp) (y : V) : Prop := (∃ Hy os, Bad K Hy p n y ∧ (∀ a xs, y = .ref a → Hy a ≠ some (.lst xs)) ∧ But O Hy H ∧ Hy O = some (.lst os)) ∨ ∀ H', Bad K H' p n y
theorem Lasts.bad {O : Addr} {p : Bool} {n : Nat} {H : Hp} {y : V} (h : Lasts K O p n H y) : Bad K H p n y := by
  rcases h with ⟨Hy, os, b, nl, bb, hO⟩ | h
  · exact b.but hO bb nl
  · exact h H
theorem Lasts.on {O : Addr} {p : Bool} {n : Nat} {H H' : Hp} {y : V} (h : Lasts K O p n H y) (b : But O H H') : Lasts K O p n H' y := by
  rcases h with ⟨Hy, os, b1, nl, bb, hO⟩ | h
  · exact .inl ⟨Hy, os, b1, nl, bb.trans b, hO⟩
  · exact .inr h
theorem Lasts.ins {O a dx C : Addr} {fs : List (Str × V)} {p : Bool} {n : Nat} {H : Hp} {os : List V} (b : Bad K H p n (.ref a)) (h : H a = some (.ins C dx fs)) (hO : H O = some (.lst os)) : Lasts K O p n H (.ref a) :=
  .inl ⟨H, os, b, (fun c xs e z => by cases e; rw [h] at z; cases z), But.refl, hO⟩
theorem Lasts.tup (T : Txt P w K mg base) {O a : Addr} {xs : List V} {p : Bool} {n : Nat} {H : Hp} {os : List V} (q : SqT K H a xs) (hO : H O = some (.lst os)) : Lasts K O p n H (.ref a) := by
  have ty := tyx_t q
  rcases q with (q | ⟨o, q⟩) | q
  · exact .inl ⟨H, os, bad_no T ty (by decide), (fun c xs e z => by cases e; rw [q] at z; cases z), But.refl, hO⟩
  · exact .inl ⟨H, os, bad_no T ty (by decide), (fun c xs e z => by cases e; rw [q] at z; cases z), But.refl, hO⟩
  · exact .inr fun H' => bad_no T (tyx_t (.inr q)) (by decide)
/-- the other one of the two classes -/
theorem bad_other (T : Txt P w K mg base) {p : Bool} {n : Nat} {xs : List V} {H : Hp} {a dx : Addr} {fs : List (Str × V)} (h : El K H (.ref a) (cOf (!p)) xs) (hn : H a = some (.ins (He.ga K (cOf (!p))) dx fs)) : Bad K H p n (.ref a) := by
  refine bad_own T (owns_mem (!p)) (opsl_mem (!p)) (by cases p <;> decide +kernel) (mulOf T (!p)) (T.el (cOf_mem (!p))).2.1 hn (h.shape (cOf_mem (!p))) ?_ fun z hz => ?_
  · have e : (low (cOf p) == low (cOf (!p))) = false := by cases p <;> decide +kernel
    show PyData.eqv (.tuple [.str (low (cOf p)), .int (n : Nat)]) (.tuple [.str (low (cOf (!p))), .int (xs.length : Nat)]) = false
    simp only [PyData.eqv, PyData.eqvAll, e, Bool.false_and]
  · simp only [List.mem_cons, List.not_mem_nil, or_false] at hz
    rcases hz with rfl | rfl
    · exact .inr ⟨_, rfl, by cases p <;> decide +kernel⟩
    · exact .inl ⟨_, rfl⟩
theorem bad_rel (T : Txt P w K mg base) {p : Bool} {n : Nat} {H : Hp} {a dx t u : Addr} (h : H a = some (.ins (He.ga K "Relation") dx [("rows", .ref t)])) (q : SqT K H t [.ref u]) : Bad K H p n (.ref a) := by
  have c2 : L2.Cls K (He.ga K "Relation") := He.cls_ok (T.d.fact 63 (f := .cls "Relation") rfl)
  have m : Meth K (He.ga K "Relation") "__mul__" (He.ma K (He.ga K "Relation") "__mul__") := He.meth_ok (T.d.fact 66 (f := .meth "Relation" "__mul__") rfl)
  refine bad_own T (by decide) (by decide) (by cases p <;> decide +kernel) m c2 h (.rel h q) ?_ fun z hz => ?_
  · have e : (low (cOf p) == "relation") = false := by cases p <;> decide +kernel
    show PyData.eqv (.tuple [.str (low (cOf p)), .int (n : Nat)]) (.tuple [.str "relation", .int (1 : Nat)]) = false
    simp only [PyData.eqv, PyData.eqvAll, e, Bool.false_and]
  · simp only [List.mem_cons, List.not_mem_nil, or_false] at hz
    rcases hz with rfl | rfl
    · exact .inr ⟨_, rfl, by decide +kernel⟩
    · exact .inl ⟨_, rfl⟩
theorem bad_grid (T : Txt P w K mg base) {p : Bool} {n : Nat} {H : Hp} {a dx t u : Addr} {fs : List (Str × V)} (h : H a = some (.ins (He.ga K "Grid") dx fs)) (h1 : fs.lookup ("rows" : Str) = some (.ref t)) (h2 : fs.lookup ("least" : Str) = some (.int 1)) (h3 : fs.lookup ("period" : Str) = some (.int 1)) (q : SqT K H t [.ref u]) : Bad K H p n (.ref a) := by
  have c2 : L2.Cls K (He.ga K "Grid") := He.cls_ok (T.d.fact 68 (f := .cls "Grid") rfl)
  have m : Meth K (He.ga K "Grid") "__mul__" (He.ma K (He.ga K "Grid") "__mul__") := He.meth_ok (T.d.fact 71 (f := .meth "Grid" "__mul__") rfl)
  refine bad_own T (by decide) (by decide) (by cases p <;> decide +kernel) m c2 h (.grid h h1 h2 h3 q) ?_ fun z hz => ?_
  · have e : (low (cOf p) == "grid") = false := by cases p <;> decide +kernel
    show PyData.eqv (.tuple [.str (low (cOf p)), .int (n : Nat)]) (.tuple [.str "grid", .int (1 : Nat), .int 1, .int 1]) = false
    simp only [PyData.eqv, PyData.eqvAll, e, Bool.false_and]
  · simp only [List.mem_cons, List.not_mem_nil, or_false] at hz
    rcases hz with rfl | rfl | rfl | rfl
    · exact .inr ⟨_, rfl, by decide +kernel⟩
    · exact .inl ⟨_, rfl⟩
    · exact .inl ⟨_, rfl⟩
    · exact .inl ⟨_, rfl⟩
theorem El.on {H H' : Hp} {O : Addr} {os : List V} {x : V} {c : Str} {xs : List V} (hO : H O = some (.lst os)) (b : But O H H') (h : El K H x c xs) : El K H' x c xs := by
  have go : ∀ {a : Addr} {o : HO}, H a = some o → (∀ xs, o ≠ .lst xs) → H' a = some o := fun {a o} h1 h2 => b _ _ (fun z => by rw [z, hO] at h1; exact h2 _ (Option.some.inj h1).symm) h1
  obtain ⟨a, dx, t, rfl, h, q⟩ := h
  refine ⟨a, dx, t, rfl, go h (fun _ z => nomatch z), ?_⟩
  rcases q with (q | ⟨o, q⟩) | q
  · exact .inl (.inl (go q fun _ z => nomatch z))
  · exact .inl (.inr ⟨o, go q fun _ z => nomatch z⟩)
  · exact .inr q
theorem len3 {α : Type} {l : List α} (h : l.length = 3) : ∃ a b c, l = [a, b, c] := by
  match l, h with
  | [a, b, c], _ => exact ⟨a, b, c, rfl⟩
/-- a class that is made of one written form -/
structure MadeW (P : Program) (w : World) (K : PySem.W.Frag) (mg : Str → Option Value) (base : Heap) (c : Str) (k : Nat) (ps : List Str) (sp : Sp) : Prop where
  ex : ∃ f fd, L2.Mk K (He.ga K c) f ∧ FnOk P w K mg base CX0 k f fd ps sp ∧ L2.Binds K fd ps []
theorem ok_right {fd : FuncData} (F : FunD K "_law_right" "_law_right" (defArgs s_L_right) (defBody s_L_right) (defScope s_L_right) [] [] (He.fAd K ("_law_right", none)) fd) (T : Txt P w K mg base) (TB : TabB base mg (He.cT K ("_law_right", none)).1 (He.cT K ("_law_right", none)).2)
    (DI : Def P w K mg base CX0 3 "_law_images" ["_law_source_here", "_law_size", "_law_is_part"] spImages) (DO : Def P w K mg base CX0 5 "one_of" ["x"] (spOne K)) (DP : Def P w K mg base CX0 1 "_law_product" ["_law_one", "_law_other"] (spProd K))
    (M : MadeC P w K mg base "Map" mapOk) (N : MadeC P w K mg base "Part" partOk) (MR : MadeW P w K mg base "Relation" 4 ["self", "rows"] (spRelI K)) (MG : MadeW P w K mg base "Grid" 3 ["self", "rows", "least", "period"] (spGridI K)) (ML : ∀ p, MulC P w K mg base (cOf p)) (EQ : ∀ p, EqC P w K mg base (cOf p)) :
    FnOk P w K mg base CX0 8 (He.fAd K ("_law_right", none)) fd ["_law_source_here", "_law_size", "_law_is_part"] (spRight K) := by
  obtain ⟨fM, dM, mM, FM, bM⟩ := M.ex
  obtain ⟨fN, dN, mN, FN, bN⟩ := N.ex
  obtain ⟨fR, dR, mR, FR, bR⟩ := MR.ex
  obtain ⟨fG, dG, mG, FG, bG⟩ := MG.ex
  obtain ⟨fdU, FU⟩ := T.d.def_ 41 (d := d_L_is_unlike) rfl
  have bU : L2.Binds K fdU ["_law_ask"] [] := FU.bindsN fun _ _ _ _ _ _ us hl => match us, hl with | [_], _ => rfl
  have kU := FU.kp
  have gU := T.gl 29 "_law_is_unlike" rfl
  obtain ⟨oc, od, dV, kV, doc, pm, an, cdU, ct, osl, rfl, lkU, cdU', _, _⟩ := FU.ex
  have zr : mg "range" = none := T.fr 47 "range" rfl
  have zI : mg "isinstance" = none := T.fr 43 "isinstance" rfl
  have zt : mg "tuple" = none := T.fr 51 "tuple" rfl
  have gM := T.gl 4 "Map" rfl
  have gP := T.gl 5 "Part" rfl
  have gR := T.gl 6 "Relation" rfl
  have gG := T.gl 7 "Grid" rfl
  refine okC (at_ := ("_law_right", none)) F scRight (fun vs H Q E h => ?_) (fun A outer s H vs Q E hr h => ?_)
  · obtain ⟨l, n, size, part, rfl, _⟩ := h
    rfl
  · obtain ⟨l, n, size, p, rfl, src, n1, s1, s10, tb, k⟩ := h
    obtain ⟨fm, dm, om, Fm, bm⟩ := (ML p).ex
    obtain ⟨fe, de, oe, Fe, be⟩ := (EQ p).ex
    have r1 : Room 1 _ := hr.mono (by decide)
    have r2 : Room 2 _ := hr.mono (by decide)
    have r3 : Room 3 _ := hr.mono (by decide)
    have r4 : Room 4 _ := hr.mono (by decide)
    have r5 : Room 5 _ := hr.mono (by decide)
    refine ⟨_, PSs.nox (pss_cons (ps_setLc (i := 3) (own := [("_law_turn", 12)]) (g := gName 12) (te := teImgs) rfl scRight.nd rfl rfl (by rfl) (pi_range1 rfl zr (pa_cons pe_int pa_nil)) (blkOk_by (own := [("_law_turn", 12)]) (N := NR) (sc := defScope s_L_right) (by decide +kernel)) (fun _ _ _ _ _ => pg_name (i := 12) scRight.nd rfl (Or.inl rfl)) (fun _ _ _ _ _ => pts_nil)
        (fun _ _ _ _ _ => by exact pe_def DI r3 pass0 rfl (pa_cons (pv 0) (pa_cons (pv 1) (pa_cons (pv 2) pa_nil)))))
      (pss_cons (ps_asg (pe_lc (own := [("_law_row", 13)]) (g := gName 13) (te := teEls K) (by rfl) scRight.nd (pi_list (pv 3)) (blkOk_by (own := [("_law_row", 13)]) (N := NR) (sc := defScope s_L_right) (by decide +kernel)) (fun _ _ _ _ _ => pg_name (i := 13) scRight.nd rfl (Or.inl rfl)) (fun _ _ _ _ _ => pts_nil)
          (fun _ _ _ _ _ => by exact pe_ifExp (pt_val (pv 2)) (pe_make mN FN r4 rfl gP bN .nil pass0 (pa_cons (pv 13) pa_nil)) (pe_make mM FM r4 rfl gM bM .nil pass0 (pa_cons (pv 13) pa_nil))))
        (pg_unl rfl (pgs_cons (pg_name (i := 11) scRight.nd rfl (.inr rfl)) (pgs_cons (pg_name (i := 4) scRight.nd rfl (.inl rfl)) (pgs_cons (pg_name (i := 5) scRight.nd rfl (.inl rfl)) pgs_nil)))))
      (pss_cons (ps_set (i := 6) scRight.nd rfl (Or.inl rfl) (pe_def DO r5 pass0 rfl (pa_cons (pv 11) pa_nil)))
      (pss_cons (ps_if (PW.pt (pw_or (pt_cmpR (op_neD hr.units) (pe_fld (pv 6) rfl) (pe_tupRg rfl rfl zt (prg_1 rfl zr (pv 1))) (nomark _))
          (pw_or (pt_cmpR (op_ownNe oe Fe r2 be pass0) (pe_op (op_own om Fm r5 bm passE0) (pv 11) (pv 6)) (pv 11) (nomark _))
          (pw_or (pt_cmpR (op_ownNe oe Fe r2 be pass0) (pe_op (op_own om Fm r5 bm passE0) (pv 6) (pv 11)) (pv 11) (nomark _))
          (pw_or (pt_cmpR (op_ownNe oe Fe r2 be pass0) (pe_op (op_own om Fm r5 bm passE0) (pv 6) (pv 6)) (pv 6) (nomark _))
          (pw_or1 (pt_cmpR (op_ownNe oe Fe r2 be pass0) (pe_def DO r5 pass0 rfl (pa_cons (pv 4) pa_nil)) (pv 6) (nomark _)))))))) (pss_one (ps_ret pe_bl)) pss_nil)
      (pss_cons (ps_if (PW.pt (pw_or (pt_cmpR (op_neD hr.units) (pe_fld (pe_op (op_own om Fm r5 bm passE0) (pv 11) (pv 4)) rfl) (pe_def DP r1 pass0 rfl (pa_cons (pe_ix ix_list (pv 3) pe_int (fun _ _ => rfl)) (pa_cons (pe_ix ix_list (pv 3) pe_int (fun _ _ => rfl)) pa_nil))) (nomark _))
          (pw_or1 (pt_cmpR (op_neD hr.units) (pe_fld (pe_op (op_own om Fm r5 bm passE0) (pv 4) (pv 11)) rfl) (pe_def DP r1 pass0 rfl (pa_cons (pe_ix ix_list (pv 3) pe_int (fun _ _ => rfl)) (pa_cons (pe_ix ix_list (pv 3) pe_int (fun _ _ => rfl)) pa_nil))) (nomark _))))) (pss_one (ps_ret pe_bl)) pss_nil)
      (pss_cons (ps_if (PW.pt (pw_or (pt_cmpR (op_neD hr.units) (pe_fld (pe_op (op_own om Fm r5 bm passE0) (pv 11) (pv 11)) rfl) (pe_def DP r1 pass0 rfl (pa_cons (pe_ix ix_list (pv 3) pe_int (fun _ _ => rfl)) (pa_cons (pe_ix ix_list (pv 3) pe_int (fun _ _ => rfl)) pa_nil))) (nomark _))
          (pw_or1 (pt_cmpR op_ne (pe_callB call_isi rfl zI PyProof.Rows.boot_isinstance (pa_cons (pe_op (op_own om Fm r5 bm passE0) (pv 11) (pv 4)) (pa_cons (pe_cl rfl gP) pa_nil))) (pv 2) (nomark _))))) (pss_one (ps_ret pe_bl)) pss_nil)
      (pss_cons (ps_set (i := 7) scRight.nd rfl (Or.inl rfl) (pe_def DP r1 pass0 rfl (pa_cons (pe_def DP r1 pass0 rfl (pa_cons (pe_ix ix_list (pv 3) pe_int (fun _ _ => rfl)) (pa_cons (pe_ix ix_list (pv 3) pe_int (fun _ _ => rfl)) pa_nil))) (pa_cons (pe_ix ix_list (pv 3) pe_int (fun _ _ => rfl)) pa_nil))))
      (pss_cons (ps_if (PW.pt (pw_or (pt_cmpR (op_neD hr.units) (pe_fld (pe_op (op_own om Fm r5 bm passE0) (pe_op (op_own om Fm r5 bm passE0) (pv 11) (pv 4)) (pv 5)) rfl) (pv 7) (nomark _))
          (pw_or (pt_cmpR (op_ownNe oe Fe r2 be pass0) (pe_op (op_own om Fm r5 bm passE0) (pv 11) (pe_op (op_own om Fm r5 bm passE0) (pv 4) (pv 5))) (pe_op (op_own om Fm r5 bm passE0) (pe_op (op_own om Fm r5 bm passE0) (pv 11) (pv 4)) (pv 5)) (nomark _))
          (pw_or1 (pt_cmpR (op_neD hr.units) (pe_lst (pa_cons (pe_fld (pv 11) rfl) (pa_cons (pe_fld (pv 4) rfl) (pa_cons (pe_fld (pv 5) rfl) pa_nil)))) (pv 3) (nomark _)))))) (pss_one (ps_ret pe_bl)) pss_nil)
      (pss_cons (ps_set (i := 8) scRight.nd rfl (Or.inl rfl) (pe_lst (pa_cons (pe_ifExp (pt_not (pt_val (pv 2))) (pe_make mN FN r4 rfl gP bN .nil pass0 (pa_cons (pe_op op_rep (pe_lst (pa_cons pe_int pa_nil)) (pv 1)) pa_nil)) (pe_make mM FM r4 rfl gM bM .nil pass0 (pa_cons (pe_op op_rep (pe_lst (pa_cons pe_int pa_nil)) (pv 1)) pa_nil)))
          (pa_cons (pe_make mR FR r5 rfl gR bR .nil pass0 (pa_cons (pe_lst (pa_cons (pe_lst (pa_cons pe_int pa_nil)) pa_nil)) pa_nil))
          (pa_cons (pe_make mG FG r4 rfl gG bG .nil pass0 (pa_cons (pe_lst (pa_cons (pe_lst (pa_cons pe_int pa_nil)) pa_nil)) (pa_cons pe_int (pa_cons pe_int pa_nil))))
          (pa_cons pe_int (pa_cons pe_non pa_nil)))))))
      (pss_cons (ps_set (i := 8) scRight.nd rfl (Or.inl rfl) (pe_op op_cat (pv 8) (pe_lst (pa_cons (pe_ix ix_list (pv 3) pe_int (fun _ _ => rfl)) (pa_cons (pe_fld (pv 11) rfl) pa_nil)))))
      (pss_cons (ps_for PassesOwn.never rfl (pi_tup (pe_tup (pa_cons pe_int (pa_cons (pe_op op_add (pv 1) pe_int) (pa_cons (pe_op op_sub (pv 1) pe_int) pa_nil))))) (pg_name (i := 9) scRight.nd rfl (.inl rfl))
        (pss_one (ps_if (pt_cmpR op_notIn_seq (pv 9) (pe_tup (pa_cons pe_int (pa_cons pe_int (pa_cons (pv 1) pa_nil)))) (by rfl))
          (pss_one (ps_expr (pe_bm PySem.F.plainAttrs_list PySem.F.slot_list_append PySem.F.type_list_append mt_append (pv 8) (pa_cons (pe_ifExp (pt_val (pv 2)) (pe_make mN FN r4 rfl gP bN .nil pass0 (pa_cons (pe_op op_rep (pe_lst (pa_cons pe_non pa_nil)) (pv 9)) pa_nil)) (pe_make mM FM r4 rfl gM bM .nil pass0 (pa_cons (pe_op op_rep (pe_lst (pa_cons pe_int pa_nil)) (pv 9)) pa_nil))) pa_nil)))) pss_nil)))
      (pss_cons (ps_for PassesOwn.never rfl (pi_list (pv 8)) (pg_name (i := 10) scRight.nd rfl (.inr rfl))
        (pss_one (ps_if (pt_not (pt_val (pe_lamcall (T := tbR K) (TT := TUnl K) (k := 5) (t := fun E => tOp (rBin K (He.ga K (cOf p)) "mul" (spMul K (cOf p)) E) (tVar 11) (tVar 10)) rfl gU kU lkU cdU' bU scUnl rfl (by first | exact .inl rfl | exact .inr (.inl rfl)) (unl_gives T (hr.mono (by decide))) TB rfl (.head _) (fun q hq _ => onTb q hq) (hr.mono (by decide)) (show LamS (defScope s_L_right) _ from lamS_by (by decide +kernel)) rfl (fun _ _ _ _ _ => rfl)
          (fun A outer s H E f c' h5 => by exact pe_op (op_own om Fm h5 bm (passes_call (takes_of rfl rfl rfl rfl) fun _ _ _ _ h => h)) (pv 11) (pv 10))))) (pss_one (ps_ret pe_bl)) pss_nil)))
      (pss_one (ps_ret pe_bl)))))))))))))), ?_⟩
    have hl : ∃ o, H l = some (.lst o) := ⟨_, src.choose_spec.choose_spec.choose_spec.1⟩
    obtain ⟨ol, hl⟩ := hl
    refine ⟨3, rfl, by decide, by decide, fun D nD => ?_⟩
    have nDl : D ≠ l := fun z => by rw [z, hl] at nD; cases nD
    refine lc_range (lo := 0) (n := 3) (fun i Hc => But l H Hc ∧ Src Hc l (n + 40 * i) ∧ ∃ rows : List (Addr × List V), rows.length = i ∧ Hc D = some (.lst (rows.map fun r => V.ref r.1)) ∧ ∀ r ∈ rows, Hc r.1 = some (.tup r.2) ∧ Good p size r.2)
      ⟨fun b o _ e => by rw [upd_ne (ne_of_none e nD)]; exact e, ?_, [], rfl, upd_same, fun r hr => by cases hr⟩ (fun i Hc hi ⟨bc, sc, rows, lr, hD, rr⟩ => ?_) (fun Hc ⟨bc, sc, rows, lr, hD, rr⟩ => ?_)
    · obtain ⟨a, b, c, h, r⟩ := src
      exact ⟨a, b, c, by rw [upd_ne nDl.symm]; exact h, r⟩
    · refine ⟨rfl, yesT ?_⟩
      refine ⟨_, rfl, _, rfl, _, rfl, l, n + 40 * i, size, p, rfl, sc, by omega, s1, s10, fun t xs H' b nt ht lx ox sx => ?_⟩
      have hD' := b _ _ nDl hD
      have sl : ∃ a b c, H' l = some (.lst [.int a, .int b, .int c]) := ⟨_, _, _, sx.choose_spec.choose_spec.choose_spec.1⟩
      have nt' : ∀ {c : Addr}, c ≠ l → (∃ o, Hc c = some o) → c ≠ t := fun {c} _ ⟨o, e⟩ z => by rw [z, nt] at e; cases e
      refine ⟨_, hD', by rw [List.length_map, lr]; show i < 16777216; omega, fun b0 o nl e => ?_, ?_, rows ++ [(t, xs)], by simp [lr], by rw [upd_same]; simp, fun r hr => ?_⟩
      · rw [upd_ne (ne_of_none e nD)]
        exact b _ _ nl (bc _ _ nl e)
      · obtain ⟨a, b, c, h, r⟩ := sx
        exact ⟨a, b, c, by rw [upd_ne nDl.symm]; exact h, by rw [show n + 40 * (i + 1) = n + 40 * i + 40 by omega]; exact r⟩
      · rcases List.mem_append.mp hr with h | h
        · obtain ⟨h1, g1⟩ := rr r h
          have nl : r.1 ≠ l := fun z => by
            obtain ⟨a, b, c, h, _⟩ := sc
            rw [z, h] at h1
            cases h1
          have nD' : r.1 ≠ D := fun z => by rw [z, hD] at h1; cases h1
          exact ⟨by rw [upd_ne nD']; exact b _ _ nl h1, g1⟩
        · rw [List.mem_singleton.mp h]
          have nD' : t ≠ D := fun z => by rw [z, hD] at nt; cases nt
          exact ⟨by rw [upd_ne nD']; exact ht, lx, ox⟩
    obtain ⟨⟨a0, xs⟩, ⟨a1, ys⟩, ⟨a2, zs⟩, rfl⟩ : ∃ r0 r1 r2, rows = [r0, r1, r2] := by
      match rows, lr with
      | [r0, r1, r2], _ => exact ⟨r0, r1, r2, rfl⟩
    obtain ⟨h0, gx⟩ := rr _ (List.mem_cons_self)
    obtain ⟨h1, gy⟩ := rr _ (List.mem_cons_of_mem _ List.mem_cons_self)
    obtain ⟨h2, gz⟩ := rr _ (List.mem_cons_of_mem _ (List.mem_cons_of_mem _ List.mem_cons_self))
    dsimp only at h0 h1 h2 gx gy gz
    have sD : Hc D = some (.lst [.ref a0, .ref a1, .ref a2]) := hD
    clear rr hD
    have tbc := Tabs.but tb src.choose_spec.choose_spec.choose_spec.1 bc
    refine ⟨_, rfl, D, rfl, ⟨_, SqL.of sD⟩, fun D2 nD2 => ?_⟩
    refine lc_list (K := K) (a := D) (xs := [.ref a0, .ref a1, .ref a2]) (fun i Hd => But D2 Hc Hd ∧ ∃ els : List V, els.length = i ∧ Hd D2 = some (.lst els) ∧ ∀ (j : Nat) (e : V), els[j]? = some e → ∃ r, [xs, ys, zs][j]? = some r ∧ El K Hd e (cOf p) r)
      ⟨But.upd, [], rfl, upd_same, fun j e h => by simp at h⟩ (fun i Hd _ ⟨bd, _⟩ => L2.Same.seq (Same.but (L2.Same.refl _) nD2 bd) (SqL.of sD)) (fun i z Hd hz ⟨bd, els, le, hD2, ee⟩ => ?_) (fun Hd ⟨bd, els, le, hD2, ee⟩ => ?_)
    · have sd := Same.but (L2.Same.refl _) nD2 bd
      obtain ⟨a, vs, rfl, hvs, ha, gv⟩ : ∃ a vs, z = .ref a ∧ [xs, ys, zs][i]? = some vs ∧ Hd a = some (.tup vs) ∧ Good p size vs := by
        match i, hz with
        | 0, hz => exact ⟨a0, xs, (Option.some.inj hz).symm, rfl, sd _ _ h0, gx⟩
        | 1, hz => exact ⟨a1, ys, (Option.some.inj hz).symm, rfl, sd _ _ h1, gy⟩
        | 2, hz => exact ⟨a2, zs, (Option.some.inj hz).symm, rfl, sd _ _ h2, gz⟩
        | i + 3, hz => simp at hz
      have fin : ∀ y H', Same Hd H' → El K H' y (cOf p) vs → ∃ acc, H' D2 = some (.lst acc) ∧ acc.length < sizeLine ∧ (But D2 Hc (L2.upd H' D2 (.lst (acc ++ [y]))) ∧ ∃ els : List V, els.length = i + 1 ∧ L2.upd H' D2 (.lst (acc ++ [y])) D2 = some (.lst els) ∧ ∀ (j : Nat) (e : V), els[j]? = some e → ∃ r, [xs, ys, zs][j]? = some r ∧ El K (L2.upd H' D2 (.lst (acc ++ [y]))) e (cOf p) r) := fun y H' s' e' => by
        have lt : i < 3 := by
          have := (List.getElem?_eq_some_iff.mp hvs).1
          exact this
        have keep : ∀ {e : V} {r : List V}, El K H' e (cOf p) r → El K (L2.upd H' D2 (.lst (els ++ [y]))) e (cOf p) r := fun {e r} q => by
          obtain ⟨b, dx, t, rfl, hb, qt⟩ := q
          have nb : b ≠ D2 := fun z => by rw [z, s' _ _ hD2] at hb; cases hb
          refine ⟨b, dx, t, rfl, by rw [upd_ne nb]; exact hb, ?_⟩
          rcases qt with (q | ⟨o, q⟩) | q
          · have nt : t ≠ D2 := fun z => by rw [z, s' _ _ hD2] at q; cases q
            exact .inl (.inl (by rw [upd_ne nt]; exact q))
          · have nt : t ≠ D2 := fun z => by rw [z, s' _ _ hD2] at q; cases q
            exact .inl (.inr ⟨o, by rw [upd_ne nt]; exact q⟩)
          · exact .inr q
        refine ⟨els, s' _ _ hD2, by rw [le]; show i < 16777216; omega, But.trans (bd.trans (But.of s')) But.upd, els ++ [y], by simp [le], upd_same, fun j e hj => ?_⟩
        by_cases hj2 : j < els.length
        · rw [List.getElem?_append_left hj2] at hj
          obtain ⟨r, hr1, hr2⟩ := ee j e hj
          exact ⟨r, hr1, keep (hr2.same s')⟩
        · rw [List.getElem?_append_right (by omega)] at hj
          have jl : j = els.length := by
            have q := (List.getElem?_eq_some_iff.mp hj).1
            simp only [List.length_cons, List.length_nil] at q
            omega
          rw [jl, Nat.sub_self] at hj
          have ey : y = e := Option.some.inj hj
          subst ey
          rw [jl]
          rw [le]
          exact ⟨vs, hvs, keep e'⟩
      have al : ∀ y ∈ vs, Flat y ∧ okOf (cOf p) (vs.length : Nat) y = true := fun y hy => by
        rw [gv.1]
        exact ⟨(gv.2 y hy).flat, (gv.2 y hy).ok⟩
      refine ⟨rfl, yesT ?_⟩
      refine ⟨_, rfl, p, rfl, ?_⟩
      cases p with
      | true =>
        refine ifT rfl ⟨_, rfl, fun x dx nx nd ne => ?_⟩
        exact mk_in nx nd ne (.inr (SqT.of ha)) (by rw [gv.1]; exact s1) (by rw [gv.1]; exact s10) (fun y hy => ⟨(al y hy).1, (gv.1 ▸ (gv.2 y hy).1)⟩) fin
      | false =>
        refine ifF rfl ⟨_, rfl, fun x dx nx nd ne => ?_⟩
        exact mk_in nx nd ne (.inr (SqT.of ha)) (by rw [gv.1]; exact s1) (by rw [gv.1]; exact s10) (fun y hy => ⟨(al y hy).1, (gv.1 ▸ (gv.2 y hy).2 rfl)⟩) fin
    obtain ⟨x, y, z, rfl⟩ := len3 le
    have sd := Same.but (L2.Same.refl _) nD2 bd
    obtain ⟨_, e0, ex⟩ := ee 0 x rfl
    obtain ⟨_, e1, ey⟩ := ee 1 y rfl
    obtain ⟨_, e2, ez⟩ := ee 2 z rfl
    cases e0; cases e1; cases e2
    refine ⟨D2, _, rfl, SqL.of hD2, rfl, _, _, rfl, _, _, rfl, _, _, rfl, rfl, ?_⟩
    have gD := sd _ _ sD
    have q0 := SqT.of (K := K) (sd _ _ h0)
    have q1 := SqT.of (K := K) (sd _ _ h1)
    have q2 := SqT.of (K := K) (sd _ _ h2)
    have bH : But l H Hd := But.trans bc (But.of sd)
    have srcH := sc.same sd
    have tbH := Tabs.ext tbc sd
    clear ee hD2 le h0 h1 h2 sD sc tbc
    have cl := (T.el (cOf_mem p)).2.1
    have na := (T.el (cOf_mem p)).2.2.1
    refine ⟨_, rfl, one_r ex gx s1 s10 fun one H3 s3 eo => ?_⟩
    -- the one
    obtain ⟨a, da, t, rfl, ha, qt⟩ := id eo
    refine ⟨_, rfl, a, _, da, _, _, rfl, ha, cl, na, rfl, ?_⟩
    refine ⟨_, rfl, (size : Nat), rfl, ⟨by decide, by decide, by omega, by omega, by omega⟩, fun q nq => ?_⟩
    rw [rgV_id]
    have u4 := same_upd (o := .tup (idV size)) nq
    refine tup_ne (p := p) (n := size) (SqT.same u4 qt) (SqT.of upd_same) Good.id ⟨_, rfl, ?_⟩
    refine ifF rfl ?_
    have s4 := s3.trans u4
    have eo4 := eo.same u4
    generalize L2.upd H3 q (.tup (idV size)) = H4 at s4 eo4 ⊢
    clear u4 qt nq eo s3 ha
    refine ⟨_, rfl, _, rfl, mul_r T (ex.same s4) eo4 gx Good.id s1 s10 fun r H5 u5 er => ?_⟩
    rw [mul_one gx] at er
    have s5 := s4.trans u5
    have eo5 := eo4.same u5
    refine ⟨_, rfl, ne_r T er (ex.same s5) gx ⟨_, rfl, ?_⟩⟩
    refine ifF rfl ?_
    clear er
    refine ⟨_, rfl, _, rfl, mul_r T eo5 (ex.same s5) Good.id gx s1 s10 fun r H6 u6 er => ?_⟩
    rw [one_mul gx.1] at er
    have s6 := s5.trans u6
    have eo6 := eo5.same u6
    refine ⟨_, rfl, ne_r T er (ex.same s6) gx ⟨_, rfl, ?_⟩⟩
    refine ifF rfl ?_
    clear er
    refine ⟨_, rfl, _, rfl, mul_r T eo6 eo6 (Good.id (p := p)) Good.id s1 s10 fun r H7 u7 er => ?_⟩
    rw [mul_one (p := p) Good.id] at er
    have s7 := s6.trans u7
    have eo7 := eo6.same u7
    refine ⟨_, rfl, ne_r T er eo7 (Good.id (p := p)) ⟨_, rfl, ?_⟩⟩
    refine ifF rfl ?_
    clear er
    refine ⟨_, rfl, one_r (ey.same s7) gy s1 s10 fun r H8 u8 er => ?_⟩
    have s8 := s7.trans u8
    have eo8 := eo7.same u8
    refine ⟨_, rfl, ne_r T er eo8 (Good.id (p := p)) ⟨_, rfl, ?_⟩⟩
    refine ifF rfl ?_
    clear er eo7 eo6 eo5 eo4 u5 u6 u7 u8 s7 s6 s5 s4
    -- products
    have sD8 := SqL.of (K := K) (s8 _ _ gD)
    refine ⟨_, rfl, _, rfl, mul_r T (ex.same s8) (ey.same s8) gx gy s1 s10 fun r H9 u9 er => ?_⟩
    obtain ⟨a9, d9, t9, rfl, ha9, qt9⟩ := er
    refine ⟨a9, _, d9, _, _, rfl, ha9, cl, na, rfl, ?_⟩
    have s9 := s8.trans u9
    refine ⟨_, rfl, D, _, 0, _, rfl, rfl, SqL.of (s9 _ _ gD), rfl, _, rfl, D, _, 1, _, rfl, rfl, SqL.of (s9 _ _ gD), rfl, ?_⟩
    refine ⟨_, _, _, _, rfl, (SqT.same s9 q0), (SqT.same s9 q1), by rw [gx.1]; exact s10, fun z hz => by rw [gy.1]; exact (gx.2 z hz).1, fun t2 H10 u10 _ ht2 => ?_⟩
    have qt2 := SqT.of (K := K) ht2
    refine tup_ne (SqT.same u10 qt9) qt2 (gx.mul gy) ⟨_, rfl, ?_⟩
    refine ifF rfl ?_
    have s10' := s9.trans u10
    have eo10 := (eo8.same u9).same u10
    clear qt2 ht2 u10 qt9 ha9 u9 s9
    refine ⟨_, rfl, _, rfl, mul_r T (ey.same s10') (ex.same s10') gy gx s1 s10 fun r H11 u11 er => ?_⟩
    obtain ⟨a9, d9, t9, rfl, ha9, qt9⟩ := er
    refine ⟨a9, _, d9, _, _, rfl, ha9, cl, na, rfl, ?_⟩
    have s11 := s10'.trans u11
    refine ⟨_, rfl, D, _, 1, _, rfl, rfl, SqL.of (s11 _ _ gD), rfl, _, rfl, D, _, 0, _, rfl, rfl, SqL.of (s11 _ _ gD), rfl, ?_⟩
    refine ⟨_, _, _, _, rfl, (SqT.same s11 q1), (SqT.same s11 q0), by rw [gy.1]; exact s10, fun z hz => by rw [gx.1]; exact (gy.2 z hz).1, fun t2 H12 u12 _ ht2 => ?_⟩
    have qt2 := SqT.of (K := K) ht2
    refine tup_ne (SqT.same u12 qt9) qt2 (gy.mul gx) ⟨_, rfl, ?_⟩
    refine ifF rfl ?_
    have s12 := s11.trans u12
    clear qt2 ht2 u12 qt9 ha9 u11 s11
    -- squares, the class
    refine ⟨_, rfl, _, rfl, mul_r T (ex.same s12) (ex.same s12) gx gx s1 s10 fun r H13 u13 er => ?_⟩
    obtain ⟨a9, d9, t9, rfl, ha9, qt9⟩ := er
    refine ⟨a9, _, d9, _, _, rfl, ha9, cl, na, rfl, ?_⟩
    have s13 := s12.trans u13
    refine ⟨_, rfl, D, _, 0, _, rfl, rfl, SqL.of (s13 _ _ gD), rfl, _, rfl, D, _, 0, _, rfl, rfl, SqL.of (s13 _ _ gD), rfl, ?_⟩
    refine ⟨_, _, _, _, rfl, (SqT.same s13 q0), (SqT.same s13 q0), by rw [gx.1]; exact s10, fun z hz => by rw [gx.1]; exact (gx.2 z hz).1, fun t2 H14 u14 _ ht2 => ?_⟩
    have qt2 := SqT.of (K := K) ht2
    refine tup_ne (SqT.same u14 qt9) qt2 (gx.mul gx) ⟨_, rfl, ?_⟩
    refine ifF rfl ?_
    have s14 := s13.trans u14
    clear qt2 ht2 u14 qt9 ha9 u13 s13
    refine ⟨_, rfl, _, rfl, mul_r T (ex.same s14) (ey.same s14) gx gy s1 s10 fun r H15 u15 er => ?_⟩
    have s15 := s14.trans u15
    obtain ⟨a9, d9, t9, rfl, ha9, qt9⟩ := er
    refine ⟨_, .ref (He.ga K "Part"), _, _, _, rfl, .own _, (T.own (owns_mem p)).ty cl ha9, (T.own (owns_mem p)).isOf "Part" (by decide), _, rfl, rfl, ?_⟩
    refine ⟨_, rfl, ?_⟩
    refine ifF (by cases p <;> decide +kernel) ?_
    clear qt9 ha9 u15
    -- three factors
    refine ⟨_, rfl, D, _, 0, _, rfl, rfl, SqL.of (s15 _ _ gD), rfl, _, rfl, D, _, 1, _, rfl, rfl, SqL.of (s15 _ _ gD), rfl, ?_⟩
    refine ⟨_, _, _, _, rfl, SqT.same s15 q0, SqT.same s15 q1, by rw [gx.1]; exact s10, fun z hz => by rw [gy.1]; exact (gx.2 z hz).1, fun t2 H16 u16 _ ht2 => ?_⟩
    have s16 := s15.trans u16
    refine ⟨_, rfl, D, _, 2, _, rfl, rfl, SqL.of (s16 _ _ gD), rfl, ?_⟩
    refine ⟨_, _, _, _, rfl, SqT.of ht2, SqT.same s16 q2, by rw [(gx.mul gy).1]; exact s10, fun z hz => by rw [gz.1]; exact ((gx.mul gy).2 z hz).1, fun due H17 u17 _ hdue => ?_⟩
    have s17 := s16.trans u17
    clear ht2 u17 u16 s16 s15
    refine ⟨_, rfl, _, rfl, mul_r T (ex.same s17) (ey.same s17) gx gy s1 s10 fun r H18 u18 er => ?_⟩
    have s18 := s17.trans u18
    refine ⟨_, rfl, mul_r T er (ez.same s18) (gx.mul gy) gz s1 s10 fun r2 H19 u19 er2 => ?_⟩
    have s19 := s18.trans u19
    obtain ⟨a9, d9, t9, rfl, ha9, qt9⟩ := er2
    refine ⟨a9, _, d9, _, _, rfl, ha9, cl, na, rfl, ?_⟩
    refine ⟨_, rfl, tup_ne qt9 (SqT.of (u19 _ _ (u18 _ _ hdue))) ((gx.mul gy).mul gz) ⟨_, rfl, ?_⟩⟩
    refine ifF rfl ?_
    clear qt9 ha9 er hdue u18 u19 s18 s17
    refine ⟨_, rfl, _, rfl, _, rfl, mul_r T (ey.same s19) (ez.same s19) gy gz s1 s10 fun r H20 u20 er => ?_⟩
    have s20 := s19.trans u20
    refine mul_r T (ex.same s20) er gx (gy.mul gz) s1 s10 fun r2 H21 u21 er2 => ?_
    have s21 := s20.trans u21
    refine ⟨_, rfl, _, rfl, mul_r T (ex.same s21) (ey.same s21) gx gy s1 s10 fun r3 H22 u22 er3 => ?_⟩
    have s22 := s21.trans u22
    refine ⟨_, rfl, mul_r T er3 (ez.same s22) (gx.mul gy) gz s1 s10 fun r4 H23 u23 er4 => ?_⟩
    rw [mul_assoc gx gy.1] at er4
    have s23 := s22.trans u23
    refine ne_r T ((er2.same u22).same u23) er4 (gx.mul (gy.mul gz)) ⟨_, rfl, ?_⟩
    refine ifF rfl ?_
    clear er er2 er3 er4 u20 u21 u22 u23 s22 s21 s20 s19
    obtain ⟨ax, dx, tx, rfl, hax, qax⟩ := id (ex.same s23)
    obtain ⟨ay, dy, ty, rfl, hay, qay⟩ := id (ey.same s23)
    obtain ⟨az, dz, tz, rfl, haz, qaz⟩ := id (ez.same s23)
    refine ⟨_, rfl, ax, _, dx, _, _, rfl, hax, cl, na, rfl, _, rfl, ay, _, dy, _, _, rfl, hay, cl, na, rfl, _, rfl, az, _, dz, _, _, rfl, haz, cl, na, rfl, (by show 3 ≤ sizeLine; decide), fun L nL => ?_⟩
    have uL := same_upd (o := .lst [.ref tx, .ref ty, .ref tz]) nL
    refine ⟨_, rfl, rows_ne (SqL.of upd_same) (SqL.of (uL _ _ (s23 _ _ gD))) (SqT.same uL qax) (SqT.same uL qay) (SqT.same uL qaz) (SqT.same (s23.trans uL) q0) (SqT.same (s23.trans uL) q1) (SqT.same (s23.trans uL) q2) gx gy gz ⟨_, rfl, ?_⟩⟩
    refine ifF rfl ?_
    have s24 := s23.trans uL
    generalize L2.upd H23 L (.lst [.ref tx, .ref ty, .ref tz]) = H24 at s24 ⊢
    clear uL qax qay qaz hax hay haz s23 nL
    -- what is refused
    have z0 : ∀ c, okOf c (size : Nat) (.int 0) = true := fun c => by
      have g := (imgOk.int (p := false) (n := size) (i := 0) (by omega))
      unfold okOf
      split
      · exact g.2 rfl
      · exact g.1
    have zM : Flat (.int 0) ∧ mapOk (size : Nat) (.int 0) = true := ⟨True.intro, (imgOk.int (p := false) (n := size) (i := 0) (by omega)).2 rfl⟩
    have zP : Flat (.int 0) ∧ partOk (size : Nat) (.int 0) = true := ⟨True.intro, (imgOk.int (p := false) (n := size) (i := 0) (by omega)).1⟩
    have first : ∀ {σ : L2.St} {H : Hp} {Q : VK}, σ[1]? = some (some (.int (size : Nat))) → σ[2]? = some (some (.bl p)) → (∀ y H', Same H H' → El K H' y (cOf (!p)) (List.replicate size (.int 0)) → Q y H') →
        tIf (tNot (tB (tVar 2))) (tMake (He.ga K "Part") (spIni K (He.ga K "Part") partOk) [] E0 (tCons (tOp rRep (tLst (tCons (tC (.int 0)) tNil)) (tVar 1)) tNil)) (tMake (He.ga K "Map") (spIni K (He.ga K "Map") mapOk) [] E0 (tCons (tOp rRep (tLst (tCons (tC (.int 0)) tNil)) (tVar 1)) tNil)) σ H Q := fun {σ H Q} e1 e2 k => by
      refine ⟨_, e2, p, rfl, ?_⟩
      cases p with
      | true => exact ifF rfl (make_rep e1 s1 s10 zM k)
      | false => exact ifT rfl (make_rep e1 s1 s10 zP k)
    refine first rfl rfl fun y0 H25 u25 e25 => ?_
    refine make_rel fun aR dR tR uR H26 u26 hR qR => ?_
    refine make_grid fun aG dG' tG uG fG' H27 u27 hG g1 g2 g3 qG => ?_
    refine ⟨(by show 5 ≤ sizeLine; decide), fun O1 nO1 => ?_⟩
    have u28 := same_upd (o := .lst [y0, .ref aR, .ref aG, .int 5, .non]) nO1
    have hO1 : L2.upd H27 O1 (.lst [y0, .ref aR, .ref aG, .int 5, .non]) O1 = some (.lst [y0, .ref aR, .ref aG, .int 5, .non]) := upd_same
    have s28 := ((s24.trans u25).trans u26).trans (u27.trans u28)
    have e28 := ((e25.same u26).same u27).same u28
    have hR28 := u28 _ _ (u27 _ _ hR)
    have qR28 := SqT.same (u27.trans u28) qR
    have hG28 := u28 _ _ hG
    have qG28 := SqT.same u28 qG
    generalize L2.upd H27 O1 (.lst [y0, .ref aR, .ref aG, .int 5, .non]) = H28 at s28 e28 hO1 hR28 qR28 hG28 qG28 ⊢
    clear u28 nO1 u27 u26 u25 hR qR hG qG e25 s24
    obtain ⟨bx, dbx, tbx, ebx, hbx, qbx⟩ := id (ex.same s28)
    cases ebx
    refine ⟨_, rfl, _, rfl, D, _, 1, _, rfl, rfl, SqL.of (s28 _ _ gD), rfl, _, rfl, ax, _, dbx, _, _, rfl, hbx, cl, na, rfl, (by show 2 ≤ sizeLine; decide), fun O2 nO2 => ?_⟩
    have u29 := same_upd (o := .lst [.ref a1, .ref tbx]) nO2
    refine ⟨O1, O2, _, _, rfl, rfl, u29 _ _ hO1, upd_same, (by show 7 ≤ sizeLine; decide), fun O nO => ?_⟩
    have u30 := u29.trans (same_upd (o := .lst ([y0, .ref aR, .ref aG, .int 5, .non] ++ [.ref a1, .ref tbx])) nO)
    have hO : L2.upd (L2.upd H28 O2 (.lst [.ref a1, .ref tbx])) O (.lst ([y0, .ref aR, .ref aG, .int 5, .non] ++ [.ref a1, .ref tbx])) O = some (.lst [y0, .ref aR, .ref aG, .int 5, .non, .ref a1, .ref tbx]) := upd_same
    have s30 := s28.trans u30
    have all : ∀ y ∈ [y0, .ref aR, .ref aG, .int 5, .non, .ref a1, .ref tbx], Lasts K O p size (L2.upd (L2.upd H28 O2 (.lst [.ref a1, .ref tbx])) O (.lst ([y0, .ref aR, .ref aG, .int 5, .non] ++ [.ref a1, .ref tbx]))) y := fun y hy => by
      simp only [List.mem_cons, List.not_mem_nil, or_false] at hy
      rcases hy with rfl | rfl | rfl | rfl | rfl | rfl | rfl
      · have e30 := e28.same u30
        obtain ⟨b0, db0, tb0, rfl, hb0, qb0⟩ := id e30
        exact Lasts.ins (bad_other T e30 hb0) hb0 hO
      · exact Lasts.ins (bad_rel T (u30 _ _ hR28) (SqT.same u30 qR28)) (u30 _ _ hR28) hO
      · exact Lasts.ins (bad_grid T (u30 _ _ hG28) g1 g2 g3 (SqT.same u30 qG28)) (u30 _ _ hG28) hO
      · exact .inr fun H' => bad_no T (.base (.int 5)) (by decide)
      · exact .inr fun H' => bad_no T (.base .non) (by decide)
      · exact Lasts.tup T (SqT.same s30 q1) hO
      · exact Lasts.tup T (SqT.same u30 qbx) hO
    have fresh : ∀ b o, Hd b = some o → b ≠ O := fun b o h => ne_of_none ((s28.trans u29) _ _ h) nO
    have nOl : O ≠ l := fun z => by
      obtain ⟨c1, c2, c3, hc, _⟩ := srcH
      rw [z, (s28.trans u29) _ _ hc] at nO
      cases nO
    generalize L2.upd (L2.upd H28 O2 (.lst [.ref a1, .ref tbx])) O (.lst ([y0, .ref aR, .ref aG, .int 5, .non] ++ [.ref a1, .ref tbx])) = H30 at s30 hO all ⊢
    clear u30 nO u29 nO2 hR28 qR28 hG28 qG28 e28 hO1 hbx qbx s28
    refine ⟨_, rfl, (size : Nat), 1, rfl, rfl, _, rfl, (size : Nat), 1, rfl, rfl, (by show 3 ≤ sizeLine; decide), fun tp ntp => ⟨tp, rfl, ⟨_, SqT.of upd_same⟩, ?_⟩⟩
    have u31 := same_upd (o := .tup [.int 1, .int ((size : Nat) + 1), .int ((size : Nat) - 1)]) ntp
    have ntO : tp ≠ O := fun z => by rw [z, hO] at ntp; cases ntp
    have hO31 := u31 _ _ hO
    have all31 : ∀ y ∈ [y0, .ref aR, .ref aG, .int 5, .non, .ref a1, .ref tbx], Lasts K O p size (L2.upd H30 tp (.tup [.int 1, .int ((size : Nat) + 1), .int ((size : Nat) - 1)])) y := fun y hy => (all y hy).on (But.of u31)
    have htp : L2.upd H30 tp (.tup [.int 1, .int ((size : Nat) + 1), .int ((size : Nat) - 1)]) tp = some (.tup [.int 1, .int ((size : Nat) + 1), .int ((size : Nat) - 1)]) := upd_same
    have s31 := s30.trans u31
    generalize L2.upd H30 tp (.tup [.int 1, .int ((size : Nat) + 1), .int ((size : Nat) - 1)]) = H31 at s31 hO31 all31 htp ⊢
    clear u31 ntp hO all s30
    refine for_tup (K := K) (a := tp) (xs := [.int 1, .int ((size : Nat) + 1), .int ((size : Nat) - 1)]) (fun i σ Hn => ∃ (v9 : Option V) (os : List V), σ = [some (.ref l), some (.int (size : Nat)), some (.bl p), some (.ref D), some (.ref ay), some (.ref az), some (.ref a), some (.ref due), some (.ref O), v9, none, some (.ref ax), none, none] ∧
        But O H31 Hn ∧ Hn O = some (.lst os) ∧ os.length ≤ 7 + i ∧ ∀ y ∈ os, Lasts K O p size Hn y)
      ⟨_, _, rfl, But.refl, hO31, by show 7 ≤ 7; decide, all31⟩ (fun i σ Hn _ ⟨_, _, _, b, _⟩ => SqT.of (b _ _ ntO htp)) (fun i m σ Hn hm ⟨v9, os, eσ, b, hOn, lo, la⟩ => ?_) (fun σ Hn ⟨v9, os, eσ, b, hOn, lo, la⟩ => ?_)
    · subst eσ
      obtain ⟨k, rfl, k1⟩ : ∃ k : Int, m = .int k ∧ (k = 1 ∨ k = (size : Nat) + 1 ∨ k = (size : Nat) - 1) := by
        match i, hm with
        | 0, hm => exact ⟨_, (Option.some.inj hm).symm, .inl rfl⟩
        | 1, hm => exact ⟨_, (Option.some.inj hm).symm, .inr (.inl rfl)⟩
        | 2, hm => exact ⟨_, (Option.some.inj hm).symm, .inr (.inr rfl)⟩
        | i + 3, hm => simp at hm
      refine ⟨_, rfl, _, rfl, (by show 3 ≤ sizeLine; decide), fun tq ntq => ⟨tq, _, rfl, .inr (SqT.of upd_same), rfl, rfl, _, rfl, ?_⟩⟩
      have uq := same_upd (o := .tup [.int 0, .int 11, .int (size : Nat)]) ntq
      have hOq := uq _ _ hOn
      have laq : ∀ y ∈ os, Lasts K O p size (L2.upd Hn tq (.tup [.int 0, .int 11, .int (size : Nat)])) y := fun y hy => (la y hy).on (But.of uq)
      have bq := b.trans (But.of uq)
      generalize L2.upd Hn tq (.tup [.int 0, .int 11, .int (size : Nat)]) = Hq at hOq laq bq ⊢
      clear uq ntq la hOn b
      refine ite2 (fun c => ?_) (fun c => ?_)
      · have ne : k ≠ 0 ∧ k ≠ 11 ∧ k ≠ (size : Nat) := by
          simp [inV, eqV] at c
          omega
        obtain ⟨j, rfl⟩ : ∃ j : Nat, k = (j : Nat) := ⟨k.toNat, by omega⟩
        have fin : ∀ y H' v, Same Hq H' → El K H' y (cOf p) (List.replicate j v) → rAppend (.ref O) [y] H' fun _ H2 => ∃ (v9 : Option V) (os : List V), [some (.ref l), some (.int (size : Nat)), some (.bl p), some (.ref D), some (.ref ay), some (.ref az), some (.ref a), some (.ref due), some (.ref O), some (.int (j : Nat)), none, some (.ref ax), none, none] =
            [some (.ref l), some (.int (size : Nat)), some (.bl p), some (.ref D), some (.ref ay), some (.ref az), some (.ref a), some (.ref due), some (.ref O), v9, none, some (.ref ax), none, none] ∧ But O H31 H2 ∧ H2 O = some (.lst os) ∧ os.length ≤ 7 + (i + 1) ∧ ∀ y ∈ os, Lasts K O p size H2 y := fun y H' v s' e' => by
          have hO' := s' _ _ hOq
          refine ⟨O, os, y, rfl, rfl, hO', ?_, some (.int (j : Nat)), os ++ [y], rfl, (bq.trans (But.of s')).trans But.upd, upd_same, by rw [List.length_append]; show os.length + 1 ≤ 7 + (i + 1); omega, fun y' hy' => ?_⟩
          · have : i < 3 := (List.getElem?_eq_some_iff.mp hm).1
            show os.length < 16777216
            omega
          · rcases List.mem_append.mp hy' with h | h
            · exact ((laq y' h).on (But.of s')).on But.upd
            · rw [List.mem_singleton.mp h]
              have bd := bad_len (n := size) T e' (by rw [List.length_replicate]; omega)
              obtain ⟨b0, db0, tb0, rfl, hb0, _⟩ := e'
              exact (Lasts.ins bd hb0 hO').on But.upd
        refine ⟨_, rfl, .inl ⟨rfl, _, SqL.of hOq⟩, _, rfl, p, rfl, ?_⟩
        cases p with
        | true => exact ifT rfl (make_rep (c := "Part") rfl (by omega) (by omega) ⟨True.intro, rfl⟩ fun y H' s' e' => fin y H' _ s' e')
        | false => exact ifF rfl (make_rep (c := "Map") rfl (by omega) (by omega) ⟨True.intro, (imgOk.int (p := false) (i := 0) (by omega)).2 rfl⟩ fun y H' s' e' => fin y H' _ s' e')
      · exact ⟨_, os, rfl, bq, hOq, by omega, laq⟩
    · subst eσ
      have exn := El.on hO31 b (ex.same s31)
      have tbn := Tabs.but (Tabs.ext tbH s31) hO31 b
      have lan : ∀ y ∈ os, Bad K Hn p size y := fun y hy => (la y hy).bad
      have keep : ∀ c o, Hd c = some o → Hn c = some o := fun c o h => b _ _ (fresh c o h) (s31 _ _ h)
      clear all31 hO31 la lo
      refine ⟨_, rfl, O, rfl, ⟨_, SqL.of hOn⟩, ?_⟩
      refine for_list (K := K) (a := O) (xs := os) (fun i σ Hm => ∃ v10 : Option V, σ = [some (.ref l), some (.int (size : Nat)), some (.bl p), some (.ref D), some (.ref ay), some (.ref az), some (.ref a), some (.ref due), some (.ref O), v9, v10, some (.ref ax), none, none] ∧ ExtN Hn Hm ∧ Tabs (tbR K) Hm)
        ⟨_, rfl, ExtN.refl _, tbn⟩ (fun i σ Hm _ ⟨_, _, e, _⟩ => SqL.of (e _ _ hOn fun _ z => nomatch z)) (fun i y σ Hm hy ⟨v10, eσ, e, tbm⟩ => ?_) (fun σ Hm ⟨v10, eσ, e, tbm⟩ => ?_)
      · subst eσ
        refine ⟨tbm, fun H1 e1 t1 => fun Q' => ⟨_, rfl, _, rfl, bad_r T (exn.ext (e.trans e1)) gx s1 s10 ((lan y (List.mem_of_getElem? hy)).ext (e.trans e1)) fun H' s' => ⟨rfl, rfl, _, rfl, ?_⟩⟩⟩
        refine ifF rfl ?_
        exact ⟨_, rfl, (e.trans e1).trans (ExtN.of s'), Tabs.ext t1 s'⟩
      · refine k Hm (fun c o nl h t => e _ _ (keep _ _ (bH _ _ nl h)) t) tbm ?_
        obtain ⟨c1, c2, c3, hc, r1', r2', r3', r4'⟩ := srcH
        exact ⟨c1, c2, c3, e _ _ (keep _ _ hc) (fun _ z => nomatch z), r1', r2', r3', by omega⟩
end
end K06

set_option Elab.async false
set_option linter.all false
set_option maxRecDepth 100000
set_option maxHeartbeats 8000000
namespace K06
open PySem PySem.Spec PyProof.Rows L2 Lf LamX
abbrev NL : List Str := ["_law_script", "_law_cell", "_law_source_here", "_law_turn", "_law_size"]
def spLaw (K : PySem.W.Frag) : Sp := fun vs H Q _ => ∃ (a : Addr) (ns : List Int), vs = [.ref a] ∧ SqL K H a (ns.map V.int) ∧ ns.length ≤ 63 ∧ Tabs (tbR K) H ∧ ∀ H', Q (.bl true) H'
section
variable {P : Program} {w : World} {K : PySem.W.Frag} {mg : Str → Option Value} {base : Heap}
theorem scLaw : FnScope NL ["_law_script"] (defScope s_law) := ⟨rfl, rfl, rfl, by decide +kernel, rfl, by decide +kernel, by decide +kernel⟩
theorem ok_law {f : Addr} {fd : FuncData} {q : Str} (F : FunD K "law" q (defArgs s_law) (defBody s_law) (defScope s_law) [] [] f fd) (T : Txt P w K mg base)
    (DS : Def P w K mg base CX0 1 "_law_source" ["_law_cell"] spSource) (DD : Def P w K mg base CX0 1 "_law_draw" ["_law_source_here", "_law_many"] spDraw) (DR : Def P w K mg base CX0 8 "_law_right" ["_law_source_here", "_law_size", "_law_is_part"] (spRight K)) :
    FnOk P w K mg base CX0 9 f fd ["_law_script"] (spLaw K) := by
  have zr : mg "range" = none := T.fr 47 "range" rfl
  refine F.ok scLaw (fun vs H Q E h => ?_) (fun cdv A outer s H vs Q E hr h => ?_)
  · obtain ⟨a, ns, rfl, _⟩ := h
    rfl
  · obtain ⟨a, ns, rfl, hS, hlen, tb, fin⟩ := h
    have r1 : Room 1 _ := hr.mono (by decide)
    refine ⟨_, PSs.nox (pss_cons (ps_for PassesOwn.never rfl (pi_list (pe_slice sl_list (pe_op op_catL (pv 0) (pe_lst (pa_cons pe_int pa_nil))) po_none (po_some pe_int))) (pg_name (i := 1) scLaw.nd rfl (.inl rfl))
      (pss_cons (ps_set (i := 2) scLaw.nd rfl (.inl rfl) (pe_def DS r1 pass0 rfl (pa_cons (pv 1) pa_nil)))
      (pss_one (ps_for PassesOwn.never rfl (pi_range1 rfl zr (pa_cons pe_int pa_nil)) (pg_name (i := 3) scLaw.nd rfl (.inl rfl))
        (pss_cons (ps_set (i := 4) scLaw.nd rfl (.inl rfl) (pe_op op_add pe_int (pe_def DD r1 pass0 rfl (pa_cons (pv 2) (pa_cons pe_int pa_nil)))))
        (pss_one (ps_if (PW.pt (pw_or (pt_not (pt_val (pe_def DR hr pass0 rfl (pa_cons (pv 2) (pa_cons (pv 4) (pa_cons pe_bl pa_nil)))))) (pw_or1 (pt_not (pt_val (pe_def DR hr pass0 rfl (pa_cons (pv 2) (pa_cons (pv 4) (pa_cons pe_bl pa_nil))))))))) (pss_one (ps_ret pe_bl)) pss_nil)))))))
      (pss_one (ps_ret pe_bl))), ?_⟩
    refine ⟨_, rfl, (by show 1 ≤ sizeLine; decide), fun z hz => ⟨a, z, _, _, rfl, rfl, L2.Same.seq (same_upd hz) hS, SqL.of upd_same, ?_, fun l0 h0 => ?_⟩⟩
    · rw [List.length_map]
      show ns.length + 1 ≤ 16777216
      omega
    refine ⟨3, rfl, l0, _, rfl, SqL.of upd_same, fun l1 h1 => ⟨l1, rfl, ⟨_, SqL.of upd_same⟩, ?_⟩⟩
    have tbs := Tabs.ext tb (((same_upd hz).trans (same_upd h0)).trans (same_upd (o := .lst (cutV (ns.map V.int ++ [.int 0]) none (some 3))) h1))
    generalize hHs : L2.upd (L2.upd (L2.upd H z _) l0 _) l1 _ = Hs at tbs ⊢
    have at1 : Hs l1 = some (.lst (cutV (ns.map V.int ++ [.int 0]) none (some 3))) := by rw [← hHs]; exact upd_same
    clear hHs
    refine for_list (K := K) (a := l1) (xs := cutV (ns.map V.int ++ [.int 0]) none (some 3)) (fun i σ H' => ∃ v1 v2 v3 v4 : Option V, σ = [some (.ref a), v1, v2, v3, v4] ∧ ExtN Hs H' ∧ Tabs (tbR K) H')
      ⟨none, none, none, none, rfl, ExtN.refl _, tbs⟩ (fun i σ H' _ ⟨_, _, _, _, _, e, _⟩ => SqL.of (e _ _ at1 fun _ z => nomatch z)) ?_ (fun σ H' _ => fin _)
    rintro i y σ H1 hi ⟨v1, v2, v3, v4, rfl, e1, tb1⟩
    obtain ⟨n, rfl⟩ : ∃ n, y = V.int n := by
      have hm := List.mem_of_getElem? hi
      have hm2 := List.mem_of_mem_drop (List.mem_of_mem_take hm)
      rcases List.mem_append.mp hm2 with q | q
      · obtain ⟨n, _, e⟩ := List.mem_map.mp q
        exact ⟨n, e.symm⟩
      · exact ⟨0, List.mem_singleton.mp q⟩
    refine ⟨_, rfl, n, rfl, fun l H2 nl s2 src2 => ?_⟩
    have e2 : ExtN Hs H2 := e1.trans (ExtN.of s2)
    have off : ∀ b o, Hs b = some o → (∀ ps, o ≠ .tbl ps) → b ≠ l := fun b o h t => ne_of_none (e1 _ _ h t) nl
    have go : ∀ {H3 H4 : Hp}, ExtN Hs H3 → Grow l H3 H4 → ExtN Hs H4 := fun {H3 H4} e g b o h t => g _ _ (off b o h t) (e _ _ h t) t
    refine ⟨4, rfl, by decide, by decide, ?_⟩
    refine for_range (lo := 0) (n := 4) (fun j σ H' => ∃ v3 v4 : Option V, σ = [some (.ref a), some (.int n), some (.ref l), v3, v4] ∧ ExtN Hs H' ∧ Tabs (tbR K) H' ∧ Src H' l (401 * j)) ⟨v3, v4, rfl, e2, Tabs.ext tb1 s2, src2⟩ (fun j σ H3 hj ⟨v3, v4, eσ, e3, tb3, src3⟩ => ?_) (fun σ H' ⟨v3, v4, eσ, e3, tb3, _⟩ => ?_)
    · subst eσ
      have c3 := src3.choose_spec.choose_spec.choose_spec.1
      refine ⟨_, rfl, l, 401 * j, 10, rfl, src3, by omega, by decide, by decide, fun k H4 k0 k10 b4 src4 => ?_⟩
      obtain ⟨sz, hs⟩ : ∃ sz : Nat, 1 + k = (sz : Nat) := ⟨(1 + k).toNat, by omega⟩
      refine ⟨1, k, rfl, rfl, ?_⟩
      have tb4 := Tabs.but tb3 c3 b4
      have e4 := go e3 (Grow.of b4)
      refine ⟨_, rfl, _, rfl, l, 401 * j + 1, sz, false, congrArg (fun z => [V.ref l, .int z, .bl false]) hs, src4, by omega, by omega, by omega, tb4, fun H5 g5 tb5 src5 => ⟨_, rfl, ?_⟩⟩
      have e5 := go e4 g5
      refine ifF rfl ?_
      refine ⟨_, rfl, _, rfl, l, 401 * j + 1 + 200, sz, true, congrArg (fun z => [V.ref l, .int z, .bl true]) hs, src5, by omega, by omega, by omega, tb5, fun H6 g6 tb6 src6 => ⟨_, rfl, ?_⟩⟩
      refine ifF rfl ?_
      exact ⟨_, _, rfl, go e5 g6, tb6, by rw [show 401 * (j + 1) = 401 * j + 1 + 200 + 200 by omega]; exact src6⟩
    · subst eσ
      exact ⟨_, _, _, _, rfl, e3, tb3⟩
end
end K06

set_option Elab.async false
set_option linter.all false
set_option maxRecDepth 100000
set_option maxHeartbeats 8000000
namespace K06
open PySem PySem.Spec PyProof.Rows L2 Lf LamX
theorem facts {P : Program} {w : World} {K : PySem.W.Frag} {h : Heap} {mg : Str → Option Value} {f : Addr} (X : K.In h) (G : h.Ns mainGlobals mg) (hfa : mg ("law" : Str) = some (.ref f)) (c : He.SaysD fa fn K) (m : ex K = true) :
    ∃ fd : FuncData, (∀ (s : Shared) (v : Value), BindsTo s fd ⟨[v], []⟩ [("_law_script", v)]) ∧ ∀ base : Heap, K.In base → base.Ns mainGlobals mg → TabB base mg (He.cT K ("_law_right", none)).1 (He.cT K ("_law_right", none)).2 → FnOk P w K mg base CX0 9 f fd ["_law_script"] (spLaw K) := by
  obtain ⟨fd0, F0⟩ := c.def_ 0 (d := d_is_number) rfl
  obtain ⟨fd1, F1⟩ := c.def_ 1 (d := d_is_between) rfl
  obtain ⟨fd2, F2⟩ := c.def_ 2 (d := d_is_sequence) rfl
  obtain ⟨fd24, F24⟩ := c.def_ 24 (d := d_are_points) rfl
  obtain ⟨fd25, F25⟩ := c.def_ 25 (d := d_are_integers) rfl
  obtain ⟨fd27, F27⟩ := c.def_ 27 (d := d_smallest) rfl
  obtain ⟨fd32, F32⟩ := c.def_ 32 (d := d_shape_of) rfl
  obtain ⟨fd33, F33⟩ := c.def_ 33 (d := d_content_of) rfl
  obtain ⟨fd34, F34⟩ := c.def_ 34 (d := d_kind_of) rfl
  obtain ⟨fd35, F35⟩ := c.def_ 35 (d := d_one_of) rfl
  obtain ⟨fd36, F36⟩ := c.def_ 36 (d := d_L_source) rfl
  obtain ⟨fd37, F37⟩ := c.def_ 37 (d := d_L_draw) rfl
  obtain ⟨fd38, F38⟩ := c.def_ 38 (d := d_L_pick) rfl
  obtain ⟨fd39, F39⟩ := c.def_ 39 (d := d_L_images) rfl
  obtain ⟨fd40, F40⟩ := c.def_ 40 (d := d_L_product) rfl
  obtain ⟨fd42, F42⟩ := c.def_ 42 (d := d_L_right) rfl
  obtain ⟨fd, F⟩ := c.def_ 43 (d := d_law) rfl
  obtain ⟨fdr, FR⟩ := c.def_ 15 (d := d_Relation_init) rfl
  obtain ⟨fdg, FG⟩ := c.def_ 18 (d := d_Grid_init) rfl
  have gl : ∀ (i : Nat) (x : Str), fa[i]? = some (.glo x) → mg x = some (.ref (He.ga K x)) := fun i x e => He.glo_ok X G (c.fact i e)
  have fr : ∀ (i : Nat) (x : Str), fa[i]? = some (.free x) → mg x = none := fun i x e => He.free_ok X G (c.fact i e)
  have it : ∀ (i : Nat) (x : Str) (v : Int), fa[i]? = some (.int x v) → ∃ t, mg x = some (.int v t) := fun i x v e => He.int_ok X G (c.fact i e)
  have e := hfa.symm.trans (gl 31 "law" rfl)
  cases e
  have b := FunD.bindsA (ps := ["_law_script"]) F fun _ _ _ _ _ _ us hl => match us, hl with | [_], _ => rfl
  refine ⟨fd, fun s v => b s [v] rfl, fun base _ _ TB => ?_⟩
  have T : Txt P w K mg base := ⟨c, m, gl, fr, it⟩
  have zl : mg "list" = none := T.fr 45 "list" rfl
  have zt : mg "tuple" = none := T.fr 51 "tuple" rfl
  have zn : mg "len" = none := T.fr 44 "len" rfl
  have zi : mg "int" = none := T.fr 42 "int" rfl
  have zI : mg "isinstance" = none := T.fr 43 "isinstance" rfl
  have za : mg "all" = none := T.fr 39 "all" rfl
  have zr : mg "range" = none := T.fr 47 "range" rfl
  have D0 : Def P w K mg base CX0 1 "is_number" ["thing"] spNum := ⟨_, fd0, T.gl 9 "is_number" rfl, F0.kp, ok_num F0 zI zi (T.fr 40 "bool" rfl), F0.bindsN fun _ _ _ _ _ _ us hl => match us, hl with | [_], _ => rfl⟩
  have D1 : Def P w K mg base CX0 2 "is_between" ["thing", "least", "most"] spBtw := ⟨_, fd1, T.gl 10 "is_between" rfl, F1.kp, ok_btw F1 D0, F1.bindsN fun _ _ _ _ _ _ us hl => match us, hl with | [_, _, _], _ => rfl⟩
  have D2 : Def P w K mg base CX0 1 "is_sequence" ["thing", "least", "most"] (spSeq K) := ⟨_, fd2, T.gl 11 "is_sequence" rfl, F2.kp, ok_seq F2 zI zl zt zn, F2.bindsN fun _ _ _ _ _ _ us hl => match us, hl with | [_, _, _], _ => rfl⟩
  have D24 : Def P w K mg base CX0 3 "_are_points" ["row", "points"] (spInts K) := ⟨_, fd24, T.gl 12 "_are_points" rfl, F24.kp, ok_pts F24 za zI zl zt D1, F24.bindsN fun _ _ _ _ _ _ us hl => match us, hl with | [_, _], _ => rfl⟩
  have D25 : Def P w K mg base CX0 2 "_are_integers" ["row", "many"] (spInts K) := ⟨_, fd25, T.gl 13 "_are_integers" rfl, F25.kp, ok_ints F25 za D2 D0, F25.bindsN fun _ _ _ _ _ _ us hl => match us, hl with | [_, _], _ => rfl⟩
  have D27 : Def P w K mg base CX0 1 "_smallest" ["entry", "least", "period"] spSmall := ⟨_, fd27, T.gl 15 "_smallest" rfl, F27.kp, ok_small F27, F27.bindsN fun _ _ _ _ _ _ us hl => match us, hl with | [_, _, _], _ => rfl⟩
  have D32 : Def P w K mg base CX0 1 "shape_of" ["x"] (spShape K) := ⟨_, fd32, T.gl 20 "shape_of" rfl, F32.kp, ok_shape F32 T, F32.bindsN fun _ _ _ _ _ _ us hl => match us, hl with | [_], _ => rfl⟩
  have D33 : Def P w K mg base CX0 1 "content_of" ["x"] (spCont K) := ⟨_, fd33, T.gl 21 "content_of" rfl, F33.kp, ok_cont F33 T, F33.bindsN fun _ _ _ _ _ _ us hl => match us, hl with | [_], _ => rfl⟩
  have D34 : Def P w K mg base CX0 2 "_kind_of" ["x"] (spKind K) := ⟨_, fd34, T.gl 22 "_kind_of" rfl, F34.kp, ok_kind F34 T D32, F34.bindsN fun _ _ _ _ _ _ us hl => match us, hl with | [_], _ => rfl⟩
  have MM := made_M T D2 D1
  have MP := made_P T D2 D1
  have D35 : Def P w K mg base CX0 5 "one_of" ["x"] (spOne K) := ⟨_, fd35, T.gl 23 "one_of" rfl, F35.kp, ok_one F35 T D34 D33 MM MP, F35.bindsN fun _ _ _ _ _ _ us hl => match us, hl with | [_], _ => rfl⟩
  have D36 : Def P w K mg base CX0 1 "_law_source" ["_law_cell"] spSource := ⟨_, fd36, T.gl 24 "_law_source" rfl, F36.kp, ok_source F36 (T.fr 38 "abs" rfl) zi, F36.bindsN fun _ _ _ _ _ _ us hl => match us, hl with | [_], _ => rfl⟩
  have D37 : Def P w K mg base CX0 1 "_law_draw" ["_law_source_here", "_law_many"] spDraw := ⟨_, fd37, T.gl 25 "_law_draw" rfl, F37.kp, ok_draw F37 zi, F37.bindsN fun _ _ _ _ _ _ us hl => match us, hl with | [_, _], _ => rfl⟩
  have D38 : Def P w K mg base CX0 2 "_law_pick" ["_law_source_here", "_law_some"] spPick := ⟨_, fd38, T.gl 26 "_law_pick" rfl, F38.kp, ok_pick F38 zn D37, F38.bindsN fun _ _ _ _ _ _ us hl => match us, hl with | [_, _], _ => rfl⟩
  have D39 : Def P w K mg base CX0 3 "_law_images" ["_law_source_here", "_law_size", "_law_is_part"] spImages := ⟨_, fd39, T.gl 27 "_law_images" rfl, F39.kp, ok_images F39 zn zl zr zi zt D37 D38, F39.bindsN fun _ _ _ _ _ _ us hl => match us, hl with | [_, _, _], _ => rfl⟩
  have D40 : Def P w K mg base CX0 1 "_law_product" ["_law_one", "_law_other"] (spProd K) := ⟨_, fd40, T.gl 28 "_law_product" rfl, F40.kp, ok_prod F40 zt, F40.bindsN fun _ _ _ _ _ _ us hl => match us, hl with | [_, _], _ => rfl⟩
  have mR : L2.Mk K (He.ga K "Relation") (He.ma K (He.ga K "Relation") "__init__") := He.mkr_ok (T.d.fact 64 (f := .mkr "Relation") rfl)
  have mG : L2.Mk K (He.ga K "Grid") (He.ma K (He.ga K "Grid") "__init__") := He.mkr_ok (T.d.fact 69 (f := .mkr "Grid") rfl)
  have MR : MadeW P w K mg base "Relation" 4 ["self", "rows"] (spRelI K) := ⟨_, fdr, mR, ok_relI FR T D2 D24, FR.bindsN fun _ _ _ _ _ _ us hl => match us, hl with | [_, _], _ => rfl⟩
  have MG : MadeW P w K mg base "Grid" 3 ["self", "rows", "least", "period"] (spGridI K) := ⟨_, fdg, mG, ok_gridI FG T D2 D1 D25 D27, FG.bindsN fun _ _ _ _ _ _ us hl => match us, hl with | [_, _, _, _], _ => rfl⟩
  have D42 : Def P w K mg base CX0 8 "_law_right" ["_law_source_here", "_law_size", "_law_is_part"] (spRight K) := ⟨_, fd42, T.gl 30 "_law_right" rfl, F42.kp, ok_right F42 T TB D39 D35 D40 MM MP MR MG (mulC T D32 MM MP) (eqC T), F42.bindsN fun _ _ _ _ _ _ us hl => match us, hl with | [_, _, _], _ => rfl⟩
  exact ok_law F T D36 D37 D42
end K06
open PySem PySem.W PySem.Calls PyProof.Rows
theorem PySem.Challenge.cw_letterfolds_k06_products_of_maps_holds : PySem.Challenge.rw_letterfolds_k06_products_of_maps.Holds := by
  w_on; o_law
  refine HandSHeadRun.head_any (r := K06.R) (q := K06.vw) (H := K06.hk) (ob := K06.ob) (M := 20000) (loose := K06.loose) (d := HandSHeadRun.topDef K06.R.prog 40) (kwd := []) K06.ob_eq
    (by kernel_rfl) (fun s => by kernel_rfl) K06.run (by kernel_rfl) (by kernel_rfl) (by kernel_rfl) (by rfl) (by first | assumption | decide +kernel) (by decide +kernel) ⟨rfl, rfl, rfl, rfl, rfl, by decide +kernel⟩ ?hw ?hc
  case hw => w_witness2
  case hc =>
    refine LamX.walk_ofTsE (l := PySem.Challenge.rw_letterfolds_k06_products_of_maps) (n := 63) (k := 9) (x := "_law_script") (CX := fun _ => L2.CX0) rfl (by decide) (by kernel_rfl) ⟨rfl, by decide, by decide⟩ ?F (fun _ _ _ _ _ z => z)
    intro w mg fa h Y G hmg0
    obtain ⟨K, KX, S⟩ := Y
    have hmg : mg ("law" : PySem.Str) = some (.ref fa) := by
      have e : (HandSHeadRun.topDef K06.R.prog 40).name = ("law" : PySem.Str) := by kernel_rfl
      rw [← e]
      exact hmg0
    obtain ⟨fd, hb, hF⟩ := K06.facts (P := PySem.Challenge.rw_letterfolds_k06_products_of_maps.prog) (w := w) KX G hmg S.d S.m
    have mem : ∀ {p : Addr × Addr}, p ∈ [He.cT K ("_law_right", none)] → p = He.cT K ("_law_right", none) := fun hp => List.mem_singleton.mp hp
    have hin : (("_law_right", none) : He.Defn) ∈ K06.tf := by decide
    refine ⟨K, KX, fd, [He.cT K ("_law_right", none)], K06.spLaw K, fun p hp => ?_, fun p hp => ?_, fun p hp => ?_, hb, fun H a ns hl _ ht hS => ⟨a, ns, rfl, hS, hl, fun p hp => ?_, fun _ => rfl⟩, fun base k1 k2 k3 => hF base k1 k2 (k3 _ (List.mem_singleton.mpr rfl))⟩
    · rw [mem hp]; exact S.empty _ hin
    · rw [mem hp]; exact S.out _ hin
    · rw [mem hp]; exact PySem.W.codeHd_of_K KX (S.hd _ hin)
    · rw [List.mem_singleton.mp hp]
      exact LamX.TabS.nil (ht _ (List.mem_singleton.mpr rfl))
