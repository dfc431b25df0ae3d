import PyProof.Rows.All
import Wide.All
import OpenK.AllK
import Wide.FinOn
import KE.KStateDown
import HandS.Head2
import HandS.HeadEnd
import HandS.HeadHook4
import KE.KExcIs
import KE.KExcMore
import HandS.ForMost
import HandS.ForExc
import HandS.ExcInit
import HandS.ExcField
import HandS.ExcIs
import HandS.ExcValue
import HandS.IsInst
import HandS.Strs
import PySem.Challenge.RW_letterfolds_k01_errors
set_option Elab.async false
set_option linter.all false
set_option maxRecDepth 100000
set_option maxHeartbeats 4000000
/-! A head by three kernel runs: the looks, the view, the facts; the facts over the objects at the addresses as. -/
namespace Lf
open PySem PySem.W PySem.Calls PyProof.Rows
/-- classes, dicts, functions and the rest, in this order -/
def isCl : Obj → Bool
  | ⟨_, _, .cls _, _⟩ => true
  | _ => false
def isDi : Obj → Bool
  | ⟨_, _, .dict _ _, _⟩ => true
  | _ => false
def isFu : Obj → Bool
  | ⟨_, _, .func _, _⟩ => true
  | _ => false
def isFi : Obj → Bool
  | ⟨_, _, .fields vs, _⟩ => !vs.isEmpty
  | _ => false
def sorted4 (l : Frag) : Frag := l.filter (fun q => isCl q.2) ++ (l.filter (fun q => isDi q.2) ++ (l.filter (fun q => isFu q.2) ++ l.filter fun q => isFi q.2))
theorem sorted4_sub {l : Frag} {q : Addr × Obj} (h : q ∈ sorted4 l) : q ∈ l := by
  unfold sorted4 at h
  simp only [List.mem_append, List.mem_filter] at h
  rcases h with h | h | h | h <;> exact h.1
def frR (g : Addr → Option Obj) (as : List Addr) : Frag := sorted4 (He.frG g as)
theorem frR_in {as : List Addr} {h : Heap} : (frR h.get? as).In h := fun _ _ e => He.frG_mem (sorted4_sub (He.lookup_mem e))
def obsR (as : List Addr) (fa : List He.Fa) (fn : List He.DefD) (ex : Frag → Bool) (g : Addr → Option Obj) : He.AlD × Bool := (He.obsD fa fn (frR g as), ex (frR g as))
def hookR (as : List Addr) (fa : List He.Fa) (fn : List He.DefD) (ex : Frag → Bool) : Hook where
  α := He.AlD × Bool
  obs := fun s => obsR as fa fn ex s.heap.get?
  val := fun _ => (He.valD fn, true)
  says := fun _ h => ∃ K : Frag, K.In h ∧ He.SaysD fa fn K ∧ ex K = true
  of := fun _ _ e => ⟨_, frR_in, congrArg Prod.fst e, congrArg Prod.snd e⟩
  keeps := fun _ _ _ ⟨K, hK, c⟩ k => ⟨K, Frag.In.keeps hK k, c⟩
theorem obsR_eq {as : List Addr} {fa : List He.Fa} {fn : List He.DefD} {ex : Frag → Bool} {g : Addr → Option Obj} {s : Shared} (h : ∀ a, g a = s.heap.get? a) : obsR as fa fn ex g = (hookR as fa fn ex).obs s := by
  have e : g = s.heap.get? := funext h
  rw [e] <;> rfl
theorem three {α A B C : Type} {o : Option α} {f : α → A} {g : α → B} {h : α → C} {a : A} {b : B} {c : C} (x : o.map f = some a) (y : o.map g = some b) (z : o.map h = some c) : o.map (fun s => (f s, g s, h s)) = some (a, b, c) := by
  cases o with
  | none => cases x
  | some s =>
    have x1 : f s = a := Option.some.inj x
    have y1 : g s = b := Option.some.inj y
    have z1 : h s = c := Option.some.inj z
    show some (f s, g s, h s) = _
    rw [x1, y1, z1]
/-- the state behind the top -/
noncomputable def endOf (r : OpenRow) (M : Nat) (w : World) (os : OsState) : Option SharedT := HandSHeadRun.endF (HandSHeadRun.stepQ (HandSHeadRun.denQ HandSHeadRun.tabQ) r.prog w) M r.prog w os
noncomputable def looksOf (r : OpenRow) (w : World) (s : SharedT) : Bool := HandSHeadRun.looksF r.prog (boot_heap w.params) s.abs
noncomputable def viewOf (r : OpenRow) (q : Program) (loose : List PySem.Str) (s : SharedT) := HandSHeadRun.seenQ q loose (importedModules r.prog.main.body) (fun s => xlAt q [] s && recOk r.toRowW.records s) s.abs
theorem run_three {r : OpenRow} {q : Program} {H : Hook} {ob : SharedT → H.α} {M : Nat} {loose : List PySem.Str} {w : World} (a : ∀ os, (endOf r M w os).map (looksOf r w) = some true)
    (b : ∀ os, (endOf r M w os).map (viewOf r q loose) = some (openGood q loose)) (c : ∀ os, (endOf r M w os).map ob = some (H.val w)) : HandSHeadRun.RunEq r q H ob M loose w := fun os => three (a os) (b os) (c os)
end Lf

set_option Elab.async false
set_option linter.all false
set_option maxRecDepth 100000
set_option maxHeartbeats 4000000
/-! Facts of error classes. -/
namespace Lf
open PySem PySem.Spec PyProof.Rows L2
/-- what isinstance of an error of the class at C wants -/
structure IsC (K : PySem.W.Frag) (C : Addr) : Prop where
  cl : (PySem.W.clsIn K C).isSome = true
  ga : PySem.W.findIn K (.ref C) "__getattribute__" = some (some (.builtin "BaseException.__getattribute__"))
  gg : PySem.W.findIn K (.ref C) "__getattr__" = some none
  sb : PySem.W.subIn K (.ref C) (.type "BaseException") = some true
  ca : PySem.W.findIn K (.ref C) "__class__" = some (some (.builtin "object.__class__"))
  sg : PySem.W.specialIn K (.builtin "object.__class__") "__get__" = some (some (.builtin "getset_descriptor.__get__"))
  tk : PySem.W.takesIn K (.builtin "object.__class__") = some true
  ob : PySem.W.mroIn K C (.type "object") = some true
/-! ### the classes by one look at the written part -/
/-- an exception class over ValueError -/
def oexB (K : PySem.W.Frag) (C : Addr) : Bool := match K.lookup C with
  | some ⟨.type t, _, .cls cd, sl⟩ => (match cd.mro, sl.toList with
    | .ref D :: bm, [_, _, _, _, some (.builtin n), _] => decide (t = "type") && (decide (D = C) && (decide (n = "ValueError.__new__") && (!cd.hasDel && (cd.hasDict && PySem.HandSPX.refsVE bm))))
    | _, _ => false)
  | _ => false
theorem oexB_ok {K : PySem.W.Frag} {C : Addr} (h : oexB K C = true) : ∃ nm q N bs bm sn sub ab col dd k0 k1 k2 k3 k5,
    K.lookup C = some (excClassObj nm q C N bs bm true sn sub ab col dd k0 k1 k2 k3 k5 "ValueError.__new__") ∧ PySem.HandSPX.refsVE bm = true := by
  unfold oexB at h
  split at h
  · rename_i t dd cd sl lk
    split at h
    · rename_i D bm k0 k1 k2 k3 n k5 hm hs
      simp only [Bool.and_eq_true, decide_eq_true_eq, Bool.not_eq_true'] at h
      obtain ⟨rfl, rfl, rfl, h4, h5, h6⟩ := h
      obtain ⟨nm, bs, mro, ns, qn, hd, sn, sub, ab, col, del⟩ := cd
      dsimp only at hm h4 h5
      subst hm h4 h5
      obtain ⟨l⟩ := sl
      dsimp only at hs
      subst hs
      exact ⟨nm, qn, ns, bs, bm, sn, sub, ab, col, dd, k0, k1, k2, k3, k5, lk, h6⟩
    · cases h
  · cases h
def errB (K : PySem.W.Frag) (C : Addr) : Bool :=
  oexB K C && (decide (PySem.W.findIn K (.ref C) "__setattr__" = some (some (.builtin "object.__setattr__"))) && (decide (PySem.W.subIn K (.ref C) (.type "BaseException") = some true) &&
  (decide (PySem.W.typeIn K (.ref C) = some (.type "type")) && (PySem.W.keepIn K (.ref C) && (PySem.W.hasDictIn K C &&
  (decide (PySem.W.findIn K (.ref C) "__getattribute__" = some (some (.builtin "BaseException.__getattribute__"))) && (decide (PySem.W.findIn K (.ref C) "__getattr__" = some none) &&
  (decide (PySem.W.findIn K (.ref C) "__class__" = some (some (.builtin "object.__class__"))) && (decide (PySem.W.specialIn K (.builtin "object.__class__") "__get__" = some (some (.builtin "getset_descriptor.__get__"))) &&
  (decide (PySem.W.takesIn K (.builtin "object.__class__") = some true) && decide (PySem.W.mroIn K C (.type "object") = some true)))))))))))
structure ErrC (K : PySem.W.Frag) (C : Addr) : Prop where
  o : OexC K C
  x : XfC K C
  i : IsC K C
theorem errB_ok {K : PySem.W.Frag} {C : Addr} (h : errB K C = true) : ErrC K C := by
  unfold errB at h
  simp only [Bool.and_eq_true, decide_eq_true_eq] at h
  obtain ⟨h1, h2, h3, h4, h5, h6, h7, h8, h9, h10, h11, h12⟩ := h
  have hc : (PySem.W.clsIn K C).isSome = true := by
    obtain ⟨nm, q, N, bs, bm, sn, sub, ab, col, dd, k0, k1, k2, k3, k5, lk, _⟩ := oexB_ok h1
    unfold PySem.W.clsIn
    rw [lk] <;> rfl
  exact ⟨⟨oexB_ok h1, h2, h3, h4, h5⟩, ⟨h7, h8, h3, h6⟩, ⟨hc, h7, h8, h3, h9, h10, h11, h12⟩⟩
end Lf

set_option Elab.async false
set_option linter.all false
set_option maxRecDepth 100000
set_option maxHeartbeats 0
namespace K01
open PySem PySem.Spec PyProof.Rows L2
def top (i : Nat) : Stmt := PySem.Challenge.pw_letterfolds_k01_errors.main.body.getD i (.Pass ⟨0, 0, 0, 0⟩)
abbrev s_FoldError_told : Stmt := inClass (top 1) 0
def d_FoldError_told : He.DefD := ⟨("FoldError", some "told"), "told", "FoldError.told", defArgs s_FoldError_told, defBody s_FoldError_told, defScope s_FoldError_told, [], []⟩
abbrev s_NoElement_init : Stmt := inClass (top 2) 0
def d_NoElement_init : He.DefD := ⟨("NoElement", some "__init__"), "__init__", "NoElement.__init__", defArgs s_NoElement_init, defBody s_NoElement_init, defScope s_NoElement_init, [], []⟩
abbrev s_NoElement_told : Stmt := inClass (top 2) 1
def d_NoElement_told : He.DefD := ⟨("NoElement", some "told"), "told", "NoElement.told", defArgs s_NoElement_told, defBody s_NoElement_told, defScope s_NoElement_told, [], []⟩
abbrev s_NoNumber_init : Stmt := inClass (top 3) 0
def d_NoNumber_init : He.DefD := ⟨("NoNumber", some "__init__"), "__init__", "NoNumber.__init__", defArgs s_NoNumber_init, defBody s_NoNumber_init, defScope s_NoNumber_init, [], []⟩
abbrev s_NoNumber_told : Stmt := inClass (top 3) 1
def d_NoNumber_told : He.DefD := ⟨("NoNumber", some "told"), "told", "NoNumber.told", defArgs s_NoNumber_told, defBody s_NoNumber_told, defScope s_NoNumber_told, [], []⟩
abbrev s_Unlike_told : Stmt := inClass (top 4) 0
def d_Unlike_told : He.DefD := ⟨("Unlike", some "told"), "told", "Unlike.told", defArgs s_Unlike_told, defBody s_Unlike_told, defScope s_Unlike_told, [], []⟩
abbrev s_NoText_init : Stmt := inClass (top 5) 0
def d_NoText_init : He.DefD := ⟨("NoText", some "__init__"), "__init__", "NoText.__init__", defArgs s_NoText_init, defBody s_NoText_init, defScope s_NoText_init, [], []⟩
abbrev s_NoText_told : Stmt := inClass (top 5) 1
def d_NoText_told : He.DefD := ⟨("NoText", some "told"), "told", "NoText.told", defArgs s_NoText_told, defBody s_NoText_told, defScope s_NoText_told, [], []⟩
abbrev s_NoMonoid_init : Stmt := inClass (top 6) 0
def d_NoMonoid_init : He.DefD := ⟨("NoMonoid", some "__init__"), "__init__", "NoMonoid.__init__", defArgs s_NoMonoid_init, defBody s_NoMonoid_init, defScope s_NoMonoid_init, [], []⟩
abbrev s_NoMonoid_told : Stmt := inClass (top 6) 1
def d_NoMonoid_told : He.DefD := ⟨("NoMonoid", some "told"), "told", "NoMonoid.told", defArgs s_NoMonoid_told, defBody s_NoMonoid_told, defScope s_NoMonoid_told, [], []⟩
abbrev s_NoWord_init : Stmt := inClass (top 7) 0
def d_NoWord_init : He.DefD := ⟨("NoWord", some "__init__"), "__init__", "NoWord.__init__", defArgs s_NoWord_init, defBody s_NoWord_init, defScope s_NoWord_init, [], []⟩
abbrev s_NoWord_told : Stmt := inClass (top 7) 1
def d_NoWord_told : He.DefD := ⟨("NoWord", some "told"), "told", "NoWord.told", defArgs s_NoWord_told, defBody s_NoWord_told, defScope s_NoWord_told, [], []⟩
abbrev s_NoGenerators_init : Stmt := inClass (top 8) 0
def d_NoGenerators_init : He.DefD := ⟨("NoGenerators", some "__init__"), "__init__", "NoGenerators.__init__", defArgs s_NoGenerators_init, defBody s_NoGenerators_init, defScope s_NoGenerators_init, [], []⟩
abbrev s_NoGenerators_told : Stmt := inClass (top 8) 1
def d_NoGenerators_told : He.DefD := ⟨("NoGenerators", some "told"), "told", "NoGenerators.told", defArgs s_NoGenerators_told, defBody s_NoGenerators_told, defScope s_NoGenerators_told, [], []⟩
abbrev s_TooMany_init : Stmt := inClass (top 9) 0
def d_TooMany_init : He.DefD := ⟨("TooMany", some "__init__"), "__init__", "TooMany.__init__", defArgs s_TooMany_init, defBody s_TooMany_init, defScope s_TooMany_init, [], []⟩
abbrev s_TooMany_told : Stmt := inClass (top 9) 1
def d_TooMany_told : He.DefD := ⟨("TooMany", some "told"), "told", "TooMany.told", defArgs s_TooMany_told, defBody s_TooMany_told, defScope s_TooMany_told, [], []⟩
abbrev s_NoKind_init : Stmt := inClass (top 10) 0
def d_NoKind_init : He.DefD := ⟨("NoKind", some "__init__"), "__init__", "NoKind.__init__", defArgs s_NoKind_init, defBody s_NoKind_init, defScope s_NoKind_init, [], []⟩
abbrev s_NoKind_told : Stmt := inClass (top 10) 1
def d_NoKind_told : He.DefD := ⟨("NoKind", some "told"), "told", "NoKind.told", defArgs s_NoKind_told, defBody s_NoKind_told, defScope s_NoKind_told, [], []⟩
abbrev s_NotRegular_init : Stmt := inClass (top 11) 0
def d_NotRegular_init : He.DefD := ⟨("NotRegular", some "__init__"), "__init__", "NotRegular.__init__", defArgs s_NotRegular_init, defBody s_NotRegular_init, defScope s_NotRegular_init, [], []⟩
abbrev s_NotRegular_told : Stmt := inClass (top 11) 1
def d_NotRegular_told : He.DefD := ⟨("NotRegular", some "told"), "told", "NotRegular.told", defArgs s_NotRegular_told, defBody s_NotRegular_told, defScope s_NotRegular_told, [], []⟩
abbrev s_NoPoints_told : Stmt := inClass (top 12) 0
def d_NoPoints_told : He.DefD := ⟨("NoPoints", some "told"), "told", "NoPoints.told", defArgs s_NoPoints_told, defBody s_NoPoints_told, defScope s_NoPoints_told, [], []⟩
abbrev s_NoMaps_init : Stmt := inClass (top 13) 0
def d_NoMaps_init : He.DefD := ⟨("NoMaps", some "__init__"), "__init__", "NoMaps.__init__", defArgs s_NoMaps_init, defBody s_NoMaps_init, defScope s_NoMaps_init, [], []⟩
abbrev s_NoMaps_told : Stmt := inClass (top 13) 1
def d_NoMaps_told : He.DefD := ⟨("NoMaps", some "told"), "told", "NoMaps.told", defArgs s_NoMaps_told, defBody s_NoMaps_told, defScope s_NoMaps_told, [], []⟩
abbrev s_NoGreat_told : Stmt := inClass (top 14) 0
def d_NoGreat_told : He.DefD := ⟨("NoGreat", some "told"), "told", "NoGreat.told", defArgs s_NoGreat_told, defBody s_NoGreat_told, defScope s_NoGreat_told, [], []⟩
abbrev s_NoSteps_init : Stmt := inClass (top 15) 0
def d_NoSteps_init : He.DefD := ⟨("NoSteps", some "__init__"), "__init__", "NoSteps.__init__", defArgs s_NoSteps_init, defBody s_NoSteps_init, defScope s_NoSteps_init, [], []⟩
abbrev s_NoSteps_told : Stmt := inClass (top 15) 1
def d_NoSteps_told : He.DefD := ⟨("NoSteps", some "told"), "told", "NoSteps.told", defArgs s_NoSteps_told, defBody s_NoSteps_told, defScope s_NoSteps_told, [], []⟩
abbrev s_NoRank_told : Stmt := inClass (top 16) 0
def d_NoRank_told : He.DefD := ⟨("NoRank", some "told"), "told", "NoRank.told", defArgs s_NoRank_told, defBody s_NoRank_told, defScope s_NoRank_told, [], []⟩
abbrev s_NoSet_told : Stmt := inClass (top 17) 0
def d_NoSet_told : He.DefD := ⟨("NoSet", some "told"), "told", "NoSet.told", defArgs s_NoSet_told, defBody s_NoSet_told, defScope s_NoSet_told, [], []⟩
abbrev s_NoMap_told : Stmt := inClass (top 18) 0
def d_NoMap_told : He.DefD := ⟨("NoMap", some "told"), "told", "NoMap.told", defArgs s_NoMap_told, defBody s_NoMap_told, defScope s_NoMap_told, [], []⟩
abbrev s_NotThere_told : Stmt := inClass (top 19) 0
def d_NotThere_told : He.DefD := ⟨("NotThere", some "told"), "told", "NotThere.told", defArgs s_NotThere_told, defBody s_NotThere_told, defScope s_NotThere_told, [], []⟩
abbrev s_NoPlace_told : Stmt := inClass (top 20) 0
def d_NoPlace_told : He.DefD := ⟨("NoPlace", some "told"), "told", "NoPlace.told", defArgs s_NoPlace_told, defBody s_NoPlace_told, defScope s_NoPlace_told, [], []⟩
abbrev s_NoPoint_told : Stmt := inClass (top 21) 0
def d_NoPoint_told : He.DefD := ⟨("NoPoint", some "told"), "told", "NoPoint.told", defArgs s_NoPoint_told, defBody s_NoPoint_told, defScope s_NoPoint_told, [], []⟩
abbrev s_NoPairs_init : Stmt := inClass (top 22) 0
def d_NoPairs_init : He.DefD := ⟨("NoPairs", some "__init__"), "__init__", "NoPairs.__init__", defArgs s_NoPairs_init, defBody s_NoPairs_init, defScope s_NoPairs_init, [], []⟩
abbrev s_NoPairs_told : Stmt := inClass (top 22) 1
def d_NoPairs_told : He.DefD := ⟨("NoPairs", some "told"), "told", "NoPairs.told", defArgs s_NoPairs_told, defBody s_NoPairs_told, defScope s_NoPairs_told, [], []⟩
abbrev s_OtherLetters_told : Stmt := inClass (top 23) 0
def d_OtherLetters_told : He.DefD := ⟨("OtherLetters", some "told"), "told", "OtherLetters.told", defArgs s_OtherLetters_told, defBody s_OtherLetters_told, defScope s_OtherLetters_told, [], []⟩
abbrev s_Unfinished_told : Stmt := inClass (top 24) 0
def d_Unfinished_told : He.DefD := ⟨("Unfinished", some "told"), "told", "Unfinished.told", defArgs s_Unfinished_told, defBody s_Unfinished_told, defScope s_Unfinished_told, [], []⟩
abbrev s_Endless_told : Stmt := inClass (top 25) 0
def d_Endless_told : He.DefD := ⟨("Endless", some "told"), "told", "Endless.told", defArgs s_Endless_told, defBody s_Endless_told, defScope s_Endless_told, [], []⟩
abbrev s_NoCongruence_told : Stmt := inClass (top 26) 0
def d_NoCongruence_told : He.DefD := ⟨("NoCongruence", some "told"), "told", "NoCongruence.told", defArgs s_NoCongruence_told, defBody s_NoCongruence_told, defScope s_NoCongruence_told, [], []⟩
abbrev s_NoParts_told : Stmt := inClass (top 27) 0
def d_NoParts_told : He.DefD := ⟨("NoParts", some "told"), "told", "NoParts.told", defArgs s_NoParts_told, defBody s_NoParts_told, defScope s_NoParts_told, [], []⟩
abbrev s_NoNumbers_init : Stmt := inClass (top 28) 0
def d_NoNumbers_init : He.DefD := ⟨("NoNumbers", some "__init__"), "__init__", "NoNumbers.__init__", defArgs s_NoNumbers_init, defBody s_NoNumbers_init, defScope s_NoNumbers_init, [], []⟩
abbrev s_NoNumbers_told : Stmt := inClass (top 28) 1
def d_NoNumbers_told : He.DefD := ⟨("NoNumbers", some "told"), "told", "NoNumbers.told", defArgs s_NoNumbers_told, defBody s_NoNumbers_told, defScope s_NoNumbers_told, [], []⟩
abbrev s_Broken_init : Stmt := inClass (top 29) 0
def d_Broken_init : He.DefD := ⟨("Broken", some "__init__"), "__init__", "Broken.__init__", defArgs s_Broken_init, defBody s_Broken_init, defScope s_Broken_init, [], []⟩
abbrev s_Broken_told : Stmt := inClass (top 29) 1
def d_Broken_told : He.DefD := ⟨("Broken", some "told"), "told", "Broken.told", defArgs s_Broken_told, defBody s_Broken_told, defScope s_Broken_told, [], []⟩
abbrev s_NoAutomaton_init : Stmt := inClass (top 30) 0
def d_NoAutomaton_init : He.DefD := ⟨("NoAutomaton", some "__init__"), "__init__", "NoAutomaton.__init__", defArgs s_NoAutomaton_init, defBody s_NoAutomaton_init, defScope s_NoAutomaton_init, [], []⟩
abbrev s_NoAutomaton_told : Stmt := inClass (top 30) 1
def d_NoAutomaton_told : He.DefD := ⟨("NoAutomaton", some "told"), "told", "NoAutomaton.told", defArgs s_NoAutomaton_told, defBody s_NoAutomaton_told, defScope s_NoAutomaton_told, [], []⟩
abbrev s_NoLanguage_told : Stmt := inClass (top 31) 0
def d_NoLanguage_told : He.DefD := ⟨("NoLanguage", some "told"), "told", "NoLanguage.told", defArgs s_NoLanguage_told, defBody s_NoLanguage_told, defScope s_NoLanguage_told, [], []⟩
abbrev s_NoWay_init : Stmt := inClass (top 32) 0
def d_NoWay_init : He.DefD := ⟨("NoWay", some "__init__"), "__init__", "NoWay.__init__", defArgs s_NoWay_init, defBody s_NoWay_init, defScope s_NoWay_init, [], []⟩
abbrev s_NoWay_told : Stmt := inClass (top 32) 1
def d_NoWay_told : He.DefD := ⟨("NoWay", some "told"), "told", "NoWay.told", defArgs s_NoWay_told, defBody s_NoWay_told, defScope s_NoWay_told, [], []⟩
abbrev s_NoNode_init : Stmt := inClass (top 33) 0
def d_NoNode_init : He.DefD := ⟨("NoNode", some "__init__"), "__init__", "NoNode.__init__", defArgs s_NoNode_init, defBody s_NoNode_init, defScope s_NoNode_init, [], []⟩
abbrev s_NoNode_told : Stmt := inClass (top 33) 1
def d_NoNode_told : He.DefD := ⟨("NoNode", some "told"), "told", "NoNode.told", defArgs s_NoNode_told, defBody s_NoNode_told, defScope s_NoNode_told, [], []⟩
abbrev s_LongWord_init : Stmt := inClass (top 34) 0
def d_LongWord_init : He.DefD := ⟨("LongWord", some "__init__"), "__init__", "LongWord.__init__", defArgs s_LongWord_init, defBody s_LongWord_init, defScope s_LongWord_init, [], []⟩
abbrev s_LongWord_told : Stmt := inClass (top 34) 1
def d_LongWord_told : He.DefD := ⟨("LongWord", some "told"), "told", "LongWord.told", defArgs s_LongWord_told, defBody s_LongWord_told, defScope s_LongWord_told, [], []⟩
abbrev s_Counting_init : Stmt := inClass (top 35) 0
def d_Counting_init : He.DefD := ⟨("Counting", some "__init__"), "__init__", "Counting.__init__", defArgs s_Counting_init, defBody s_Counting_init, defScope s_Counting_init, [], []⟩
abbrev s_Counting_told : Stmt := inClass (top 35) 1
def d_Counting_told : He.DefD := ⟨("Counting", some "told"), "told", "Counting.told", defArgs s_Counting_told, defBody s_Counting_told, defScope s_Counting_told, [], []⟩
abbrev s_NoLength_init : Stmt := inClass (top 36) 0
def d_NoLength_init : He.DefD := ⟨("NoLength", some "__init__"), "__init__", "NoLength.__init__", defArgs s_NoLength_init, defBody s_NoLength_init, defScope s_NoLength_init, [], []⟩
abbrev s_NoLength_told : Stmt := inClass (top 36) 1
def d_NoLength_told : He.DefD := ⟨("NoLength", some "told"), "told", "NoLength.told", defArgs s_NoLength_told, defBody s_NoLength_told, defScope s_NoLength_told, [], []⟩
abbrev s_Untested_init : Stmt := inClass (top 37) 0
def d_Untested_init : He.DefD := ⟨("Untested", some "__init__"), "__init__", "Untested.__init__", defArgs s_Untested_init, defBody s_Untested_init, defScope s_Untested_init, [], []⟩
abbrev s_Untested_told : Stmt := inClass (top 37) 1
def d_Untested_told : He.DefD := ⟨("Untested", some "told"), "told", "Untested.told", defArgs s_Untested_told, defBody s_Untested_told, defScope s_Untested_told, [], []⟩
abbrev s_LongTests_init : Stmt := inClass (top 38) 0
def d_LongTests_init : He.DefD := ⟨("LongTests", some "__init__"), "__init__", "LongTests.__init__", defArgs s_LongTests_init, defBody s_LongTests_init, defScope s_LongTests_init, [], []⟩
abbrev s_LongTests_told : Stmt := inClass (top 38) 1
def d_LongTests_told : He.DefD := ⟨("LongTests", some "told"), "told", "LongTests.told", defArgs s_LongTests_told, defBody s_LongTests_told, defScope s_LongTests_told, [], []⟩
abbrev s_NoTerm_init : Stmt := inClass (top 39) 0
def d_NoTerm_init : He.DefD := ⟨("NoTerm", some "__init__"), "__init__", "NoTerm.__init__", defArgs s_NoTerm_init, defBody s_NoTerm_init, defScope s_NoTerm_init, [], []⟩
abbrev s_NoTerm_told : Stmt := inClass (top 39) 1
def d_NoTerm_told : He.DefD := ⟨("NoTerm", some "told"), "told", "NoTerm.told", defArgs s_NoTerm_told, defBody s_NoTerm_told, defScope s_NoTerm_told, [], []⟩
abbrev s_L_state : Stmt := top 41
def d_L_state : He.DefD := ⟨("_law_state", none), "_law_state", "_law_state", defArgs s_L_state, defBody s_L_state, defScope s_L_state, [], []⟩
abbrev s_L_digit : Stmt := top 42
def d_L_digit : He.DefD := ⟨("_law_digit", none), "_law_digit", "_law_digit", defArgs s_L_digit, defBody s_L_digit, defScope s_L_digit, [], []⟩
abbrev s_L_first : Stmt := top 43
def d_L_first : He.DefD := ⟨("_law_first", none), "_law_first", "_law_first", defArgs s_L_first, defBody s_L_first, defScope s_L_first, [], []⟩
abbrev s_L_single : Stmt := top 44
def d_L_single : He.DefD := ⟨("_law_single", none), "_law_single", "_law_single", defArgs s_L_single, defBody s_L_single, defScope s_L_single, [], []⟩
abbrev s_L_plain : Stmt := top 45
def d_L_plain : He.DefD := ⟨("_law_plain", none), "_law_plain", "_law_plain", defArgs s_L_plain, defBody s_L_plain, defScope s_L_plain, [], []⟩
abbrev s_law : Stmt := top 46
def d_law : He.DefD := ⟨("law", none), "law", "law", defArgs s_law, defBody s_law, defScope s_law, [], []⟩
def fn : List He.DefD := [d_FoldError_told, d_NoElement_init, d_NoElement_told, d_NoNumber_init, d_NoNumber_told, d_Unlike_told, d_NoText_init, d_NoText_told, d_NoMonoid_init, d_NoMonoid_told, d_NoWord_init, d_NoWord_told, d_NoGenerators_init, d_NoGenerators_told, d_TooMany_init, d_TooMany_told, d_NoKind_init, d_NoKind_told, d_NotRegular_init, d_NotRegular_told, d_NoPoints_told, d_NoMaps_init, d_NoMaps_told, d_NoGreat_told, d_NoSteps_init, d_NoSteps_told, d_NoRank_told, d_NoSet_told, d_NoMap_told, d_NotThere_told, d_NoPlace_told, d_NoPoint_told, d_NoPairs_init, d_NoPairs_told, d_OtherLetters_told, d_Unfinished_told, d_Endless_told, d_NoCongruence_told, d_NoParts_told, d_NoNumbers_init, d_NoNumbers_told, d_Broken_init, d_Broken_told, d_NoAutomaton_init, d_NoAutomaton_told, d_NoLanguage_told, d_NoWay_init, d_NoWay_told, d_NoNode_init, d_NoNode_told, d_LongWord_init, d_LongWord_told, d_Counting_init, d_Counting_told, d_NoLength_init, d_NoLength_told, d_Untested_init, d_Untested_told, d_LongTests_init, d_LongTests_told, d_NoTerm_init, d_NoTerm_told, d_L_state, d_L_digit, d_L_first, d_L_single, d_L_plain, d_law]
def inis : List (Str × List Str) := [("NoElement", ["place"]), ("NoNumber", ["number"]), ("NoText", ["place"]), ("NoMonoid", ["what", "place"]), ("NoWord", ["word"]), ("NoGenerators", ["place"]), ("TooMany", ["most"]), ("NoKind", ["kind"]), ("NotRegular", ["number"]), ("NoMaps", ["place"]), ("NoSteps", ["place"]), ("NoPairs", ["place"]), ("NoNumbers", ["place"]), ("Broken", ["first", "second"]), ("NoAutomaton", ["what"]), ("NoWay", ["way"]), ("NoNode", ["place"]), ("LongWord", ["length"]), ("Counting", ["word", "period"]), ("NoLength", ["length"]), ("Untested", ["yes", "no"]), ("LongTests", ["length"]), ("NoTerm", ["place"])]
def bares : List Str := ["Unlike", "NoPoints", "NoGreat", "NoRank", "NoSet", "NoMap", "NotThere", "NoPlace", "NoPoint", "OtherLetters", "Unfinished", "Endless", "NoCongruence", "NoParts", "NoLanguage"]
def iniB (K : PySem.W.Frag) (p : Str × List Str) : Bool := Lf.errB K (He.ga K p.1) && (decide (PySem.W.findIn K (.ref (He.ga K p.1)) "__init__" = some (some (.ref (He.ma K (He.ga K p.1) "__init__")))) &&
  (decide (PySem.W.typeIn K (.ref (He.ma K (He.ga K p.1) "__init__")) = some (.type "function")) && (p.2.all fun f => decide (PySem.W.findIn K (.ref (He.ga K p.1)) f = some none))))
def isB (K : PySem.W.Frag) (x : Str) : Bool := decide (PySem.W.kitOne K (.ref (He.ga K x)) (.ref (He.ga K "FoldError")) = some true) && decide (PySem.W.kitOne K (.ref (He.ga K x)) (.type "ValueError") = some true)
def ex (K : PySem.W.Frag) : Bool := (inis.all fun p => iniB K p && isB K p.1) && ((bares.all fun x => Lf.errB K (He.ga K x) && isB K x) &&
  (decide (PySem.W.kitOne K (.ref (He.ga K "NoWord")) (.ref (He.ga K "NoText")) = some false) && (decide (PySem.W.kitOne K (.ref (He.ga K "NoText")) (.ref (He.ga K "NoWord")) = some false) &&
  decide (PySem.W.kitAny K (.ref (He.ga K "Untested")) [.ref (He.ga K "NoMonoid"), .ref (He.ga K "TooMany"), .ref (He.ga K "Broken")] = some false))))
def fa : List He.Fa := [.glo "FoldError", .glo "NoElement", .glo "NoNumber", .glo "Unlike", .glo "NoText", .glo "NoMonoid", .glo "NoWord", .glo "NoGenerators", .glo "TooMany", .glo "NoKind", .glo "NotRegular", .glo "NoPoints", .glo "NoMaps", .glo "NoGreat", .glo "NoSteps", .glo "NoRank", .glo "NoSet", .glo "NoMap", .glo "NotThere", .glo "NoPlace", .glo "NoPoint", .glo "NoPairs", .glo "OtherLetters", .glo "Unfinished", .glo "Endless", .glo "NoCongruence", .glo "NoParts", .glo "NoNumbers", .glo "Broken", .glo "NoAutomaton", .glo "NoLanguage", .glo "NoWay", .glo "NoNode", .glo "LongWord", .glo "Counting", .glo "NoLength", .glo "Untested", .glo "LongTests", .glo "NoTerm", .glo "_law_state", .glo "_law_digit", .glo "_law_first", .glo "_law_single", .glo "_law_plain", .glo "law", .meth "NoElement" "told", .meth "NoNumber" "told", .meth "Unlike" "told", .meth "NoText" "told", .meth "NoMonoid" "told", .meth "NoWord" "told", .meth "NoGenerators" "told", .meth "TooMany" "told", .meth "NoKind" "told", .meth "NotRegular" "told", .meth "NoPoints" "told", .meth "NoMaps" "told", .meth "NoGreat" "told", .meth "NoSteps" "told", .meth "NoRank" "told", .meth "NoSet" "told", .meth "NoMap" "told", .meth "NotThere" "told", .meth "NoPlace" "told", .meth "NoPoint" "told", .meth "NoPairs" "told", .meth "OtherLetters" "told", .meth "Unfinished" "told", .meth "Endless" "told", .meth "NoCongruence" "told", .meth "NoParts" "told", .meth "NoNumbers" "told", .meth "Broken" "told", .meth "NoAutomaton" "told", .meth "NoLanguage" "told", .meth "NoWay" "told", .meth "NoNode" "told", .meth "LongWord" "told", .meth "Counting" "told", .meth "NoLength" "told", .meth "Untested" "told", .meth "LongTests" "told", .meth "NoTerm" "told", .exc "Unlike", .exc "NoPoints", .exc "NoGreat", .exc "NoRank", .exc "NoSet", .exc "NoMap", .exc "NotThere", .exc "NoPlace", .exc "NoPoint", .exc "OtherLetters", .exc "Unfinished", .exc "Endless", .exc "NoCongruence", .exc "NoParts", .exc "NoLanguage", .free "len", .free "set", .free "isinstance", .free "abs", .free "int", .free "ValueError"]
def loose : List Str := (["FoldError", "NoElement", "NoNumber", "Unlike", "NoText", "NoMonoid", "NoWord", "NoGenerators", "TooMany", "NoKind", "NotRegular", "NoPoints", "NoMaps", "NoGreat", "NoSteps", "NoRank", "NoSet", "NoMap", "NotThere", "NoPlace", "NoPoint", "NoPairs", "OtherLetters", "Unfinished", "Endless", "NoCongruence", "NoParts", "NoNumbers", "Broken", "NoAutomaton"] : List Str) ++ (["NoLanguage", "NoWay", "NoNode", "LongWord", "Counting", "NoLength", "Untested", "LongTests", "NoTerm", "_law_state", "_law_digit", "_law_first", "_law_single", "_law_plain"] : List Str)
end K01

set_option Elab.async false
set_option linter.all false
set_option maxRecDepth 100000
set_option maxHeartbeats 0
namespace K01
open PySem PySem.Spec PyProof.Rows L2
abbrev R : PySem.W.OpenRow := PySem.W.OpenLaw.row PySem.Challenge.rw_letterfolds_k01_errors
abbrev vw : Program := PySem.W.view R.prog [46]
def as : List Addr := List.range 1600
abbrev hk : PySem.W.Hook := Lf.hookR as fa fn ex
def ob (s : PySem.W.SharedT) : He.AlD × Bool := Lf.obsR as fa fn ex (HandSHeadRun.getT s)
theorem ob_eq (s : PySem.W.SharedT) : ob s = hk.obs s.abs := Lf.obsR_eq (HandSHeadRun.getT_eq s)
theorem runA (w : World) (os : OsState) : (Lf.endOf R 20000 w os).map (Lf.looksOf R w) = some true := by kernel_rfl
theorem runB (w : World) (os : OsState) : (Lf.endOf R 20000 w os).map (Lf.viewOf R vw loose) = some (PySem.W.openGood vw loose) := by kernel_rfl
theorem runC (w : World) (os : OsState) : (Lf.endOf R 20000 w os).map ob = some (hk.val w) := by kernel_rfl
theorem run (w : World) : HandSHeadRun.RunEq R vw hk ob 20000 loose w := Lf.run_three (runA w) (runB w) (runC w)
end K01

set_option Elab.async false
set_option linter.all false
set_option maxRecDepth 100000
set_option maxHeartbeats 4000000
/-! Errors of the program's own as values: made, read, asked, told. -/
namespace Lf
open PySem PySem.Spec PyProof.Rows L2

/-! ### made -/
/-- C(e, ..) as a value, C's own __init__ keeping sp -/
def tNew (C : Addr) (sp : Sp) (ta : TA) : TE := fun σ H Q => ta σ H fun vs H1 =>
  vs.length ≤ 1000 ∧ ∀ a, H1 a = none → sp (.ref a :: vs) (upd H1 a (exo a C none)) (fun v H2 => v = .non ∧ Q (.ref a) H2) E0
section
variable {X : Cx} {CX : CXT} {x : Str} {C fI : Addr} {k : Nat} {fd : FuncData} {ps : List Str} {sp : Sp} {e : Expr} {es : List Expr} {ta : TA} {p pos : Pos}
theorem pe_new (T : OexC X.K C) (iC : PySem.W.findIn X.K (.ref C) "__init__" = some (some (.ref fI)))
    (tI : PySem.W.typeIn X.K (.ref fI) = some (.type "function"))
    (F1 : FnOk X.prog X.w X.K X.mg X.base CX k fI fd ps sp) (hr : Room (k + 1) X.A) (hb : Binds X.K fd ps [])
    (hx : Passes CX X E0) (hg : Gl X x) (hm : X.mg x = some (.ref C)) (ha : PA X (e :: es) ta)
    (hdb : (x == ("__debug__" : Str)) = false := by decide +kernel)
    (he : starEach (e :: es) X.env = (false, eval e X.env) :: starEach es X.env := by rfl)
    (hpl : (backTo pos (starEach es X.env)).any (·.1) = false := by rfl) :
    PE X (.Call (.Name x p) (e :: es) [] pos) (tNew C sp ta) := by
  refine ⟨fun pins s σ H Q I h => ?_⟩
  obtain ⟨nm, q, N, bs, bm, sn, sub, ab, col, dd, k0, k1, k2, k3, k5, hC, hbm⟩ := T.cls
  refine wpAny_Call_Name_kw (ld_glob I hg hm ?_ hdb)
  refine PySem.W.callWith_K (h₀ := X.base) I.ok.mod.kin T.kC
    (thn (ha.run pos pins s σ H _ I h) fun us s1 hh => ?_) he hpl
  obtain ⟨vs, H1, I1, r1, hz, q1⟩ := hh
  refine ⟨I1.kIn, ?_⟩
  show wpAny _ _ (call (.ref C) us) _ _ _
  obtain ⟨hp, g, dr, tk, os⟩ := s1
  let a := hp.objs.size + 1
  have hsz : hp.objs.size ≤ a := Nat.le_succ _
  have hq := q1 a (I1.hok.fresh hsz)
  let hp' := (hp.push (PySem.W.kdv_tup us)).push (PySem.HandSPX.excO C hp.objs.size)
  have kk : ∀ b o, hp.get? b = some o → hp'.get? b = some o := fun b o z =>
    Heap.get?_push_of_some _ (Heap.get?_push_of_some _ z)
  have hget : ((hp.push (PySem.W.kdv_tup us)).push (PySem.HandSPX.excO C hp.objs.size)).get? (hp.objs.size + 1) =
    some (PySem.HandSPX.excO C hp.objs.size) := by heap_get
  have I2 : Inv X pins σ (upd H1 a (exo a C none)) ⟨hp', g, dr, tk, os⟩ :=
    I1.laid (t' := tk) (a := a) (o := exo a C none) (h' := hp') kk hsz (exo_ok (show hp'.get? a = _ from hget))
  have r2 : Vals (V.ref a :: vs) (Value.ref a :: us) := .cons rfl r1
  have hl : (Value.ref a :: us).length = ps.length := by
    have z := r2.length
    rw [F1.len _ _ _ _ hq] at z
    exact z.symm
  have hus : us.length ≤ sizeLine := by
    rw [← Paired.length r1, sizeLine_eq]
    omega
  have hb2 := hb ⟨hp', g, dr, tk, os⟩ (Value.ref a :: us) I2.kIn (by simpa using hl)
  rw [List.append_nil] at hb2
  refine wpAny_call (PySem.HandSPX.call_own F.excBase_ValueError (fun Y => PySem.HandSPX.refsVE_contains Y bm hbm) (I1.kIn _ _ hC)
    (PySem.W.looks_findIn I1.kIn iC) (fun self => PySem.W.bind_fn I1.kIn self tI) hus
    (codeAny_mono (F1.run _ X.stack _ _ ⟨Value.ref a :: us, []⟩ (Value.ref a :: us) _ _ E0 (hr.make C us []) (I2.env0.make C us []) hb2 r2 hq) fun r s' hq' => ?_))
  cases r with
  | error er => exact hx pins σ _ _ er s' I2 hq'
  | ok fl =>
    cases fl with
    | ret u =>
      obtain ⟨v, H2, os2, bare2, un2, hok2, rv, ev, q2⟩ := hq'
      subst ev
      exact ⟨rv, .ref a, H2, I2.call' (ch := []) os2 un2 hok2 bare2 (fun b z => nomatch z), rfl, q2⟩
    | next => exact False.elim hq'
    | brk => exact False.elim hq'
    | cont => exact False.elim hq'
end

/-! ### an error that stands -/
/-- at a an error of the class at C: its dict d, if it has one -/
def XAt (H : Hp) (a C : Addr) (d : Option Addr) : Prop := H a = some (exo a C d) ∨ (d = none ∧ H a = some (ExO (.ref C) a))
theorem XAt.obj {X : Cx} {pins : List (Addr × Obj)} {σ : L2.St} {H : Hp} {s : Shared} {a C : Addr} {d : Option Addr} (I : Inv X pins σ H s) (h : XAt H a C d) :
    ∃ oe vs, s.heap.get? a = some oe ∧ Zc (.ref C) d oe ∧ oe.data = .fields vs := by
  rcases h with h | ⟨rfl, h⟩
  · obtain ⟨t1, ho⟩ := exo_at I.hok h
    exact ⟨_, _, ho, ⟨rfl, rfl⟩, rfl⟩
  · obtain ⟨⟨oe, vs, ho, hz, hd, _⟩, _, _⟩ := I.hok a _ h
    exact ⟨oe, vs, ho, hz, hd⟩
theorem XAt.mono {H H' : Hp} {a C : Addr} {d : Option Addr} (h : XAt H a C d) (e : Same H H') : XAt H' a C d := by
  rcases h with h | ⟨z, h⟩
  · exact .inl (e _ _ h)
  · exact .inr ⟨z, e _ _ h⟩

/-! ### a field -/
def tXo (K : PySem.W.Frag) (f : Str) (te : TE) : TE := fun σ H Q => te σ H fun x H1 => ∃ (a C d : Addr) (fs : List (Str × V)) (v : V),
  x = .ref a ∧ XfC K C ∧ PySem.W.findIn K (.ref C) f = some none ∧ XAt H1 a C (some d) ∧ H1 d = some (exd d fs) ∧ fs.lookup f = some v ∧ Q v H1
theorem pe_xo {X : Cx} {e : Expr} {te : TE} {pos : Pos} {n : Str} (he : PE X e te)
    (hb : attributeBase e n X.env (eval e X.env) = eval e X.env := by rfl) : PE X (.Attribute e n pos) (tXo X.K n te) := by
  refine ⟨fun pins s σ H Q I h => ?_⟩
  refine attr_of hb (thn (he.run pins s σ H _ I h) fun u s1 hh => ?_)
  obtain ⟨x, H1, I1, rx, a, C, d, fs, v, ex, T, hno, ea, ed, l, q⟩ := hh
  subst ex
  obtain rfl : u = Value.ref a := rx
  obtain ⟨oe, vs, ho, hz, hd⟩ := ea.obj I1
  obtain ⟨mA, hns, hr⟩ := exd_at I1.hok ed
  obtain ⟨od, ho2, hl⟩ := lookIn_ns hns
  obtain ⟨u, hu, ru⟩ := RelO.some_of (v := v) (o := mA n) (by rw [← l]; exact hr n)
  have J : PySem.W.InstAt s1.heap a oe C (some od) := ⟨ho, hz.1, by unfold PySem.W.notCls; rw [hd] <;> rfl, by rw [hz.2]; exact ho2⟩
  exact HandSPX.exc_get I1.kIn J T.ga T.gg T.exC (PySem.W.findObj_own T.hdC hno rfl (by rw [hl, hu])) (handed_of ru)
    ⟨v, H1, I1.tok _, ru, q⟩

/-! ### isinstance -/
/-- its dict, if it has one, is an error's -/
def XDict (H : Hp) (d : Option Addr) : Prop := ∀ dx, d = some dx → ∃ fs, H dx = some (exd dx fs)
theorem XAt.inst {X : Cx} {pins : List (Addr × Obj)} {σ : L2.St} {H : Hp} {s : Shared} {a C : Addr} {d : Option Addr} (I : Inv X pins σ H s) (h : XAt H a C d) (hd : XDict H d) :
    ∃ ox od, PySem.W.InstAt s.heap a ox C od := by
  obtain ⟨oe, vs, ho, hz, hv⟩ := h.obj I
  have nc : PySem.W.notCls oe = true := by unfold PySem.W.notCls; rw [hv] <;> rfl
  cases d with
  | none => exact ⟨oe, none, ho, hz.1, nc, by rw [hz.2]; trivial⟩
  | some dx =>
    obtain ⟨fs, e⟩ := hd dx rfl
    obtain ⟨mA, hns, _⟩ := exd_at I.hok e
    obtain ⟨od, ho2, _⟩ := lookIn_ns hns
    exact ⟨oe, some od, ho, hz.1, nc, by rw [hz.2]; exact ho2⟩
def rIsX (K : PySem.W.Frag) : List V → Hp → VK → Prop := fun xs H Q => ∃ (a C : Addr) (d : Option Addr) (c : V) (cv : Value) (b : Bool),
  xs = [.ref a, c] ∧ ClsV c cv ∧ IsC K C ∧ XAt H a C d ∧ XDict H d ∧ PySem.W.kitOne K (.ref C) cv = some b ∧ Q (.bl b) H
theorem call_isX {X : Cx} : CallR X (.builtin "isinstance") (rIsX X.K) := by
  intro pins s σ H xs us Q I r h
  obtain ⟨a, C, d, c, cv, b, rfl, k, T, ha, hd, e, q⟩ := h
  obtain ⟨u1, u2, rfl, r1, r2⟩ := vals2 r
  obtain rfl := k.eq r2
  obtain rfl : u1 = Value.ref a := r1
  obtain ⟨ox, od, J⟩ := ha.inst I hd
  exact PySem.W.kia_one (PySem.W.kitx_exc (od := od) T.cl T.ga T.gg T.sb T.ca T.sg T.tk T.ob) I.kIn J e (fun z => nomatch z)
    fun tk => ⟨.bl b, H, I.tok tk, rfl, q⟩
def rIsXT (K : PySem.W.Frag) : List V → Hp → VK → Prop := fun xs H Q => ∃ (a C : Addr) (d : Option Addr) (tp : Addr) (cs : List V) (us : List Value) (b : Bool),
  xs = [.ref a, .ref tp] ∧ H tp = some (.tup cs) ∧ Paired ClsV cs us ∧ IsC K C ∧ XAt H a C d ∧ XDict H d ∧ PySem.W.kitAny K (.ref C) us = some b ∧ Q (.bl b) H
theorem call_isXT {X : Cx} : CallR X (.builtin "isinstance") (rIsXT X.K) := by
  intro pins s σ H xs us Q I r h
  obtain ⟨a, C, d, tp, cs, ws, b, rfl, htp, k, T, ha, hd, e, q⟩ := h
  obtain ⟨u1, u2, rfl, r1, r2⟩ := vals2 r
  obtain rfl : u1 = Value.ref a := r1
  obtain rfl : u2 = Value.ref tp := r2
  obtain ⟨ox, od, J⟩ := ha.inst I hd
  obtain ⟨_, its, rv, ⟨oc, dd, dt, sl⟩, h1, h2, n, h3⟩ := (show ObjOk X.prog X.w H s.heap tp (.tup cs) from I.hok tp _ htp)
  obtain rfl := ClsV.all k rv
  dsimp only at h2 h3
  subst h2 h3
  exact PySem.W.kia_tup (PySem.W.kitx_exc (od := od) T.cl T.ga T.gg T.sb T.ca T.sg T.tk T.ob) I.kIn J h1 e (fun z => nomatch z)
    fun tk => ⟨.bl b, H, I.tok tk, rfl, q⟩

/-! ### told() -/
/-- e.m() of an error e, by what stands of its class -/
def tTold (X : Cx) (m : Str) (te : TE) : TE := fun σ H Q => te σ H fun x H1 => ∃ (a C f : Addr) (d : Option Addr) (fd : FuncData) (sp : Sp),
  x = .ref a ∧ IsC X.K C ∧ Meth X.K C m f ∧ XAt H1 a C d ∧ (∀ dx, d = some dx → ∃ fs, H1 dx = some (exd dx fs) ∧ fs.lookup m = none) ∧
    FnOk X.prog X.w X.K X.mg X.base CX0 1 f fd ["self"] sp ∧ Binds X.K fd ["self"] [] ∧ sp [.ref a] H1 Q E0
theorem pe_told {X : Cx} {o : Expr} {m : Str} {te : TE} {pos apos : Pos} {pl : Sem Bool} (he : PE X o te) (hr : Room 1 X.A)
    (ht : eval (.Call (.Attribute o m apos) [] [] pos) X.env = (do
      let ov ← eval o X.env
      standAt apos.atName
      let (f, first) ← holding [ov] (getMethod ov m pl)
      callWith pos f first (backTo pos (starEach [] X.env)) (backToKw pos (keywordEach [] X.env))) := by rfl) :
    PE X (.Call (.Attribute o m apos) [] [] pos) (tTold X m te) := by
  refine ⟨fun pins s σ H Q I h => ?_⟩
  refine PySem.W.methodCall_KW (pl := pl) (thn (he.run pins s σ H _ I h) fun u s1 hh => ?_) ht
  obtain ⟨x, H1, I1, rx, a, C, f, d, fd, sp, rfl, T, M, ha, hd, FO, hb, q⟩ := hh
  obtain rfl : u = Value.ref a := rx
  obtain ⟨mm, fr⟩ := I1.fr
  obtain ⟨oe, vs, ho, hz, hv⟩ := ha.obj I1
  have nc : PySem.W.notCls oe = true := by unfold PySem.W.notCls; rw [hv] <;> rfl
  have go : wpAny (model X.prog X.w) X.A (callWith pos (Value.ref f) [Value.ref a] (backTo pos (starEach [] X.env)) []) (EP X pins σ Q) X.xe s1 :=
    PySem.W.callWith_K0 (first := [.ref a]) I1.kIn M.kp (run_fn (us := [.ref a]) (vs := [.ref a]) FO hr hb .nil pass0 I1 (.cons rfl .nil) q)
  cases d with
  | none =>
    have J : PySem.W.InstAt s1.heap a oe C none := ⟨ho, hz.1, nc, by rw [hz.2]; trivial⟩
    exact PySem.W.method_exc fr I1.ok.mod.kin J T.ga T.gg M.at_ M.fn rfl go
  | some dx =>
    obtain ⟨fs, e, hl⟩ := hd dx rfl
    obtain ⟨mA, hns, rel⟩ := exd_at I1.hok e
    obtain ⟨od, ho2, hk⟩ := lookIn_ns hns
    have J : PySem.W.InstAt s1.heap a oe C (some od) := ⟨ho, hz.1, nc, by rw [hz.2]; exact ho2⟩
    have hm : mA m = none := by
      have z := rel m
      rw [hl] at z
      cases y : mA m with
      | none => rfl
      | some v => rw [y] at z; exact z.elim
    exact PySem.W.method_exc fr I1.ok.mod.kin J T.ga T.gg M.at_ M.fn (by show (PySem.W.lookIn m od).map _ = _; rw [hk, hm]; rfl) go

/-! ### made without own __init__, of nothing -/
theorem pe_bare {X : Cx} {C : Addr} {bmB : List Value} {B newId initId : String} {x : Str} {p pos : Pos} (F : ExcBaseFacts B newId initId bmB)
    (q : PySem.W.excIn X.K C bmB newId = true) (gC : X.mg x = some (.ref C)) (kC : PySem.W.keepIn X.K (.ref C) = true) (hg : Gl X x)
    (hdb : (x == ("__debug__" : Str)) = false := by decide +kernel) :
    PE X (.Call (.Name x p) [] [] pos) (fun _ H Q => ∀ a, H a = none → Q (.ref a) (upd H a (ExO (.ref C) a))) := by
  refine ⟨fun pins s σ H Q I h => ?_⟩
  refine wpAny_Call_Name_kw (ld_glob I hg gC ?_ hdb)
  refine PySem.W.callWith_K0 I.kIn kC ?_
  show wpAny _ _ (call (.ref C) []) _ _ _
  obtain ⟨bm, N, nm, qn, bs, hdct, sn, sub, ab, col, dd, k0, k1, k2, k3, k5, mN, hC, hN, hni, T⟩ := exc_obj I.kIn q
  refine wpAny_call_exc_subT F T hC hN hni (fun h' a hm => ?_) (Nat.zero_le _)
  have hn : H a = none := I.hok.gone hm.new
  obtain ⟨t, ht, _, _⟩ := hm.there
  exact ⟨.ref a, _, I.laidN hm.keeps hm.new hn (exO_ok ht ⟨rfl, rfl⟩ rfl rfl rfl (show 4 < 6 by decide)), rfl, h a hn⟩

/-! ### by a weaker reading -/
theorem PE.imp {X : Cx} {e : Expr} {t t' : TE} (h : PE X e t) (f : ∀ σ H Q, t' σ H Q → t σ H Q) : PE X e t' := ⟨fun pins s σ H Q I q => h.run pins s σ H Q I (f σ H Q q)⟩
theorem PSs.imp {X : Cx} {e : List Stmt} {t t' : TS} (h : PSs X e t) (f : ∀ D σ H, t' D σ H → t D σ H) : PSs X e t' := ⟨fun pins s σ H D I q => h.run pins s σ H D I (f D σ H q)⟩
/-- a reading that may be weakened -/
def up (t : TE) : TE := fun σ H Q => ∃ Q0, t σ H Q0 ∧ ∀ v H', Q0 v H' → Q v H'
theorem PE.up {X : Cx} {e : Expr} {t : TE} (h : PE X e t) : PE X e (Lf.up t) := ⟨fun pins s σ H Q I q => by
  obtain ⟨Q0, q, k⟩ := q
  exact thn (h.run pins s σ H Q0 I q) fun u s1 r => by
    obtain ⟨v, H', I', rv, z⟩ := r
    exact ⟨v, H', I', rv, k v H' z⟩⟩
/-- a class (or another thing) of the module by its name -/
theorem pe_cl {X : Cx} {x : Str} {a : Addr} {pos : Pos} (hg : Gl X x) (hm : X.mg x = some (.ref a)) (hd : (x == ("__debug__" : Str)) = false := by decide +kernel) : PE X (.Name x pos) (tC (.ref a)) := pe_glob hg hm rfl hd
theorem same_upd {H : Hp} {p : Addr} {o : HO} (n : H p = none) : Same H (upd H p o) := fun b u e => by rw [upd_ne (ne_of_none e n)]; exact e

/-! ### a def of the module, called by its name -/
structure Def (P : Program) (w : World) (K : PySem.W.Frag) (mg : Str → Option Value) (base : Heap) (CX : CXT) (k : Nat) (x : Str) (ps : List Str) (sp : Sp) : Prop where
  ex : ∃ f fd, mg x = some (.ref f) ∧ PySem.W.keepIn K (.ref f) = true ∧ FnOk P w K mg base CX k f fd ps sp ∧ Binds K fd ps []
section
variable {X : Cx} {CX : CXT} {k : Nat} {x : Str} {ps : List Str} {sp : Sp} {E : XK} {e : Expr} {es : List Expr} {t : TA} {p pos : Pos}
theorem pe_def (D : Def X.prog X.w X.K X.mg X.base CX k x ps sp) (hr : Room k X.A) (hx : Passes CX X E) (hg : Gl X x) (ha : PA X (e :: es) t)
    (hdb : (x == ("__debug__" : Str)) = false := by decide +kernel) (he : starEach (e :: es) X.env = (false, eval e X.env) :: starEach es X.env := by rfl)
    (hpl : (backTo pos (starEach es X.env)).any (·.1) = false := by rfl) : PE X (.Call (.Name x p) (e :: es) [] pos) (fun σ H Q => t σ H fun vs H1 => sp vs H1 Q E) := by
  obtain ⟨f, fd, g, kp, F, b⟩ := D.ex
  exact PE.imp (pe_call F hr hg g kp b .nil hx ha hdb he hpl) fun σ H Q h => by
    show t σ H fun vs H1 => sp (vs ++ []) H1 Q E
    simpa only [List.append_nil] using h
theorem pe_def0 (D : Def X.prog X.w X.K X.mg X.base CX k x ps sp) (hr : Room k X.A) (hx : Passes CX X E) (hg : Gl X x)
    (hdb : (x == ("__debug__" : Str)) = false := by decide +kernel) : PE X (.Call (.Name x p) [] [] pos) (fun _ H Q => sp [] H Q E) := by
  obtain ⟨f, fd, g, kp, F, b⟩ := D.ex
  exact pe_call0 F hr hg g kp b .nil hx hdb
end

/-! ### told, __init__ -/
def spTold (t : Str) : Sp := fun vs H Q _ => ∃ v, vs = [v] ∧ Q (.str t) H
def spIni1 (C : Addr) (f : Str) : Sp := fun vs H Q _ => ∃ a v, vs = [.ref a, v] ∧ H a = some (exo a C none) ∧
  ∀ d, H d = none → d ≠ a → Q .non (upd (upd H d (exd d [(f, v)])) a (exo a C (some d)))
def spIni2 (C : Addr) (f g : Str) : Sp := fun vs H Q _ => ∃ a v u, vs = [.ref a, v, u] ∧ H a = some (exo a C none) ∧
  ∀ d, H d = none → d ≠ a → Q .non (upd (upd (upd H d (exd d [(f, v)])) a (exo a C (some d))) d (exd d [(g, u), (f, v)]))
section
variable {P : Program} {w : World} {K : PySem.W.Frag} {mg : Str → Option Value} {base : Heap} {C f : Addr} {fd : FuncData} {q : Str} {a : Arguments} {sc : Scope}
theorem vis_of {N ps : List Str} (S : FnScope N ps sc) {x : Str} (h : x ∈ ps) : Vis sc x := by
  rcases S.par x h with e | e
  · exact .inl e
  · exact .inr (.inl e)
theorem told_ok {t : Str} {j : Nat} {p p2 : Pos} (F : FunD K "told" q a [.Return (some (.Constant (.str t) j p)) p2] sc [] [] f fd) (S : FnScope ["self"] ["self"] sc) :
    FnOk P w K mg base CX0 1 f fd ["self"] (spTold t) := by
  refine F.ok S (fun vs H Q E h => ?_) (fun cdv A outer s H vs Q E hr h => ⟨_, PSs.nox (pss_one (ps_ret pe_str)), ?_⟩)
  · obtain ⟨v, rfl, _⟩ := h
    rfl
  · obtain ⟨v, rfl, k⟩ := h
    exact k
theorem ini1_ok {fl : Str} {p1 p2 p3 p4 : Pos} (T : OexC K C) (no : PySem.W.findIn K (.ref C) fl = some none)
    (F : FunD K "__init__" q a [.Assign [.Attribute (.Name "self" p1) fl p2] (.Name fl p3) p4] sc [] [] f fd) (S : FnScope ["self", fl] ["self", fl] sc)
    (d1 : (fl == ("__debug__" : Str)) = false := by decide +kernel) (d2 : (fl == ("__classdict__" : Str)) = false := by decide +kernel) :
    FnOk P w K mg base CX0 1 f fd ["self", fl] (spIni1 C fl) := by
  refine F.ok S (fun vs H Q E h => ?_) (fun cdv A outer s H vs Q E hr h => ⟨_, PSs.nox (pss_one (ps_ost (pe_var (i := 0) rfl (vis_of S (by simp))) (pe_var (i := 1) rfl (vis_of S (by simp)) d1 d2))), ?_⟩)
  · obtain ⟨a, v, rfl, _⟩ := h
    rfl
  · obtain ⟨a, v, rfl, e, k⟩ := h
    exact ⟨_, rfl, _, rfl, a, C, rfl, T, no, .inl ⟨e, fun dx n ne => k dx n ne⟩⟩
theorem ini2_ok {fl gl : Str} {p1 p2 p3 p4 q1 q2 q3 q4 : Pos} (T : OexC K C) (no : PySem.W.findIn K (.ref C) fl = some none) (no2 : PySem.W.findIn K (.ref C) gl = some none)
    (F : FunD K "__init__" q a [.Assign [.Attribute (.Name "self" p1) fl p2] (.Name fl p3) p4, .Assign [.Attribute (.Name "self" q1) gl q2] (.Name gl q3) q4] sc [] [] f fd) (S : FnScope ["self", fl, gl] ["self", fl, gl] sc)
    (d1 : (fl == ("__debug__" : Str)) = false := by decide +kernel) (d2 : (fl == ("__classdict__" : Str)) = false := by decide +kernel)
    (d3 : (gl == ("__debug__" : Str)) = false := by decide +kernel) (d4 : (gl == ("__classdict__" : Str)) = false := by decide +kernel) :
    FnOk P w K mg base CX0 1 f fd ["self", fl, gl] (spIni2 C fl gl) := by
  refine F.ok S (fun vs H Q E h => ?_) (fun cdv A outer s H vs Q E hr h => ⟨_, PSs.nox (pss_cons (ps_ost (pe_var (i := 0) rfl (vis_of S (by simp))) (pe_var (i := 1) rfl (vis_of S (by simp)) d1 d2))
    (pss_one (ps_ost (pe_var (i := 0) rfl (vis_of S (by simp))) (pe_var (i := 2) rfl (vis_of S (by simp)) d3 d4)))), ?_⟩)
  · obtain ⟨a, v, u, rfl, _⟩ := h
    rfl
  · obtain ⟨a, v, u, rfl, e, k⟩ := h
    exact ⟨_, rfl, _, rfl, a, C, rfl, T, no, .inl ⟨e, fun dx n ne => ⟨_, rfl, _, rfl, a, C, rfl, T, no2, .inr ⟨dx, _, upd_same, by rw [upd_ne ne]; exact upd_same, (by show 1 ≤ 900; decide), k dx n ne⟩⟩⟩⟩
end

/-! ### an error class with all that is told of it -/
section
variable (P : Program) (w : World) (K : PySem.W.Frag) (mg : Str → Option Value) (base : Heap)
structure Tells (C : Addr) (t : Str) : Prop where
  ex : ∃ f fd, Meth K C "told" f ∧ FnOk P w K mg base CX0 1 f fd ["self"] (spTold t) ∧ Binds K fd ["self"] []
/-- the class x, made of one thing, its field -/
structure Err1 (x fl t : Str) : Prop where
  g : mg x = some (.ref (He.ga K x))
  c : ErrC K (He.ga K x)
  no : PySem.W.findIn K (.ref (He.ga K x)) fl = some none
  tl : Tells P w K mg base (He.ga K x) t
  ini : ∃ fI fd, PySem.W.findIn K (.ref (He.ga K x)) "__init__" = some (some (.ref fI)) ∧ PySem.W.typeIn K (.ref fI) = some (.type "function") ∧
    FnOk P w K mg base CX0 1 fI fd ["self", fl] (spIni1 (He.ga K x) fl) ∧ Binds K fd ["self", fl] []
structure Err2 (x fl gl t : Str) : Prop where
  g : mg x = some (.ref (He.ga K x))
  c : ErrC K (He.ga K x)
  no : PySem.W.findIn K (.ref (He.ga K x)) fl = some none
  no2 : PySem.W.findIn K (.ref (He.ga K x)) gl = some none
  tl : Tells P w K mg base (He.ga K x) t
  ini : ∃ fI fd, PySem.W.findIn K (.ref (He.ga K x)) "__init__" = some (some (.ref fI)) ∧ PySem.W.typeIn K (.ref fI) = some (.type "function") ∧
    FnOk P w K mg base CX0 1 fI fd ["self", fl, gl] (spIni2 (He.ga K x) fl gl) ∧ Binds K fd ["self", fl, gl] []
/-- made of nothing -/
structure Err0 (x t : Str) : Prop where
  g : mg x = some (.ref (He.ga K x))
  c : ErrC K (He.ga K x)
  ec : PySem.W.excIn K (He.ga K x) He.veBase "ValueError.__new__" = true
  tl : Tells P w K mg base (He.ga K x) t
end
section
variable {X : Cx} {x fl gl t : Str} {e e2 : Expr} {ta tb : TE} {p pos : Pos}
theorem pe_err1 (E : Err1 X.prog X.w X.K X.mg X.base x fl t) (hr : Room 2 X.A) (hg : Gl X x) (ha : PE X e ta) (hdb : (x == ("__debug__" : Str)) = false := by decide +kernel)
    (hs : starEach [e] X.env = (false, eval e X.env) :: starEach [] X.env := by rfl) :
    PE X (.Call (.Name x p) [e] [] pos) (fun σ H Q => ta σ H fun v H1 => ∀ a d H', H1 a = none → H1 d = none → Same H1 H' → XAt H' a (He.ga X.K x) (some d) → H' d = some (exd d [(fl, v)]) → Q (.ref a) H') := by
  obtain ⟨fI, fd, i1, i2, F, b⟩ := E.ini
  refine PE.imp (pe_new E.c.o i1 i2 F hr b pass0 hg E.g (pa_cons (PE.up ha) pa_nil hs) hdb hs rfl) fun σ H Q h => ?_
  refine ⟨_, h, fun v H1 k => ⟨(by show 1 ≤ 1000; decide), fun a na => ⟨a, v, rfl, upd_same, fun d nd ne => ?_⟩⟩⟩
  have nd1 : H1 d = none := by rw [upd_ne ne] at nd; exact nd
  refine ⟨rfl, k a d _ na nd1 (fun b o q => ?_) (.inl upd_same) (by rw [upd_ne ne]; exact upd_same)⟩
  rw [upd_ne (ne_of_none q na), upd_ne (ne_of_none q nd1), upd_ne (ne_of_none q na)]
  exact q
theorem pe_err2 (E : Err2 X.prog X.w X.K X.mg X.base x fl gl t) (hr : Room 2 X.A) (hg : Gl X x) (ha : PE X e ta) (hb : PE X e2 tb) (hdb : (x == ("__debug__" : Str)) = false := by decide +kernel)
    (hs : starEach [e, e2] X.env = (false, eval e X.env) :: starEach [e2] X.env := by rfl) (hs2 : starEach [e2] X.env = (false, eval e2 X.env) :: starEach [] X.env := by rfl)
    (hp : (backTo pos (starEach [e2] X.env)).any (·.1) = false := by rfl) :
    PE X (.Call (.Name x p) [e, e2] [] pos) (fun σ H Q => ta σ H fun v H0 => Lf.up tb σ H0 fun u H1 => ∀ a d H', H1 a = none → H1 d = none → Same H1 H' → XAt H' a (He.ga X.K x) (some d) → H' d = some (exd d [(gl, u), (fl, v)]) → Q (.ref a) H') := by
  obtain ⟨fI, fd, i1, i2, F, b⟩ := E.ini
  refine PE.imp (pe_new E.c.o i1 i2 F hr b pass0 hg E.g (pa_cons (PE.up ha) (pa_cons (PE.up hb) pa_nil hs2) hs) hdb hs hp) fun σ H Q h => ?_
  refine ⟨_, h, fun v H0 h2 => ?_⟩
  obtain ⟨Q0, h3, h4⟩ := h2
  refine ⟨Q0, h3, fun u H1 z => ?_⟩
  have k := h4 u H1 z
  refine ⟨(by show 2 ≤ 1000; decide), fun a na => ⟨a, v, u, rfl, upd_same, fun d nd ne => ?_⟩⟩
  have nd1 : H1 d = none := by rw [upd_ne ne] at nd; exact nd
  refine ⟨rfl, k a d _ na nd1 (fun b o q => ?_) (.inl (by rw [upd_ne ne.symm]; exact upd_same)) upd_same⟩
  rw [upd_ne (ne_of_none q nd1), upd_ne (ne_of_none q na), upd_ne (ne_of_none q nd1), upd_ne (ne_of_none q na)]
  exact q
theorem pe_err0 (E : Err0 X.prog X.w X.K X.mg X.base x t) (hg : Gl X x) (hdb : (x == ("__debug__" : Str)) = false := by decide +kernel) :
    PE X (.Call (.Name x p) [] [] pos) (fun _ H Q => ∀ a H', H a = none → Same H H' → XAt H' a (He.ga X.K x) none → Q (.ref a) H') :=
  PE.imp (pe_bare F.excBase_ValueError E.ec E.g E.c.o.kC hg hdb) fun σ H Q h a na => h a _ na (same_upd na) (.inr ⟨rfl, upd_same⟩)
end
end Lf

set_option Elab.async false
set_option linter.all false
set_option maxRecDepth 100000
set_option maxHeartbeats 4000000
/-! set(xs) of distinct texts, however many; how many there are. -/
namespace Lf
open PySem PySem.Spec PyProof.Rows L2
abbrev HasS (P : Program) (w : World) (h : Heap) (a : Addr) (xs : List Str) (i : Nat) : Prop := h.SetOf (PySem.strKind P w) a (fun y => (xs.take i).any (· == y)) i
theorem take_next {xs : List Str} (nd : xs.Nodup) {i : Nat} (hi : i < xs.length) :
    (xs.take i).any (· == xs.getD i Str.empty) = false ∧ ∀ y, ((xs.take i).any (· == y) || decide (y = xs.getD i Str.empty)) = (xs.take (i + 1)).any (· == y) := by
  have eg : xs.getD i Str.empty = xs[i] := by simp [List.getD, hi]
  rw [eg]
  have split : xs.take (i + 1) = xs.take i ++ [xs[i]] := by simp
  constructor
  · rw [List.any_eq_false]
    intro y hy hb
    have e : y = xs[i] := by simpa using hb
    subst e
    obtain ⟨j, hj, ej⟩ := List.mem_iff_getElem.mp hy
    rw [List.length_take] at hj
    have ej2 : xs[j] = xs[i] := by rw [← ej, List.getElem_take]
    have ji : j < i := by omega
    exact absurd ej2 (List.pairwise_iff_getElem.mp nd j i (by omega) hi ji)
  · intro y
    rw [split, List.any_append]
    congr 1
    by_cases e : y = xs[i]
    · subst e; simp
    · have q : (xs[i] == y) = false := beq_eq_false_iff_ne.mpr fun z => e z.symm
      simp [e, q]
section
variable {P : Program} {w : World} {A : Around} {R : Result → Shared → Prop} {It : Addr} {fp wr : List Addr} {G : Array GenState → Array GenState → Prop} {n : Nat} {Pv : Nat → Value → Prop} {Sv : Nat → Shared → Prop}
/-- the loop that fills a set: distinct texts -/
theorem fillS (W : WalksS P w A.in1 It fp wr G n Pv Sv) {a : Addr} (off : a ∉ fp) {xs : List Str} (nd : xs.Nodup) (len : xs.length = n) (few : n + 1 < scanBound)
    (read : ∀ i v, Pv i v → ∃ t, v = .str (xs.getD i Str.empty) t) : ∀ (m i : Nat) (s : Shared), i + m = n → Sv i s → HasS P w s.heap a xs i →
      (∀ s', Moved (a :: wr) G s s' → HasS P w s'.heap a xs n → R (.ok (.ret .none)) s') →
      codeAny (model P w) A (.builtin "set.update.loop" ⟨[.ref a, .ref It], []⟩) R s := by
  have offw : a ∉ wr := fun z => off (W.sub _ z)
  have keep : ∀ {s s' : Shared} {i : Nat}, Moved wr G s s' → HasS P w s.heap a xs i → HasS P w s'.heap a xs i := fun mv hs => by
    obtain ⟨o, es, ep, t, ho, r⟩ := hs
    exact ⟨o, es, ep, t, mv.heap a _ offw ho, r⟩
  intro m
  induction m with
  | zero =>
    intro i s e st hs fin
    obtain rfl : i = n := by omega
    refine codeAny_builtin PyProof.Rows.F.entry_set_update_loop ?_
    rw [Around.under_plainId PyProof.Rows.F.plain_set_update_loop _]
    show wpAny _ _ (pyNext (.ref It) >>= _) _ _ _
    exact wpAny_bind (W.done s _ _ st fun s' mv => wpAny_pure (fin s' (mv.mono fun b hb => List.mem_cons_of_mem _ hb) (keep mv hs)))
  | succ m ih =>
    intro i s e st hs fin
    have hi : i < n := by omega
    refine codeAny_builtin PyProof.Rows.F.entry_set_update_loop ?_
    rw [Around.under_plainId PyProof.Rows.F.plain_set_update_loop _]
    show wpAny _ _ (pyNext (.ref It) >>= _) _ _ _
    refine wpAny_bind (W.item i s _ _ hi st fun v s' pv st' mv => ?_)
    obtain ⟨t, rfl⟩ := read i v pv
    have hs' := keep mv hs
    obtain ⟨new, grow⟩ := take_next nd (show i < xs.length by omega)
    show wpAny _ _ (holding [Value.str _ t] (setAdd a (.str _ t)) >>= _) _ _ _
    refine wpAny_bind (wpAny_holding ?_)
    unfold setAdd
    refine wpAny_holding (wpAny_bind ((PySem.strKind P w).pyHash (strKind_is _ _ _ _) ?_))
    refine wpAny_setAddHashed_of (knd := PySem.strKind P w) (s := { s' with toks := s'.toks + 1 }) (strKind_is _ _ _ _) rfl hs' (by omega) fun h' sb hs2 => ?_
    have hs3 : HasS P w h' a xs (i + 1) := SetOf_congr hs2 grow (by show (if (xs.take i).any (· == xs.getD i Str.empty) = true then i else i + 1) = i + 1; rw [new]; rfl)
    refine wpAny_pure ⟨plainId_quiet PyProof.Rows.F.plain_set_update_loop _, ih (i + 1) _ (by omega) (W.frame _ s' _ _ st' (Nat.le_succ _) fun b hb o z => ?_) hs3 fun s2 mv2 q => fin s2 ?_ q⟩
    · rw [sb.2 b fun y => off (y ▸ hb)]
      exact z
    · refine Moved.trans W.gtrans ((mv.mono fun b hb => List.mem_cons_of_mem _ hb).then_heap (Nat.le_succ _) fun b o hb z => ?_) mv2
      rw [sb.2 b fun y => hb (by rw [y]; exact List.mem_cons_self)]
      exact z
end
/-- an empty set, newly laid -/
abbrev emptySet (led : Bool) : Obj := { cls := .type "set", dict := none, data := .set #[] 0 (.fresh 0 0 led) }
section
variable {P : Program} {w : World} {A : Around} {E : Value → Shared → Prop} {s : Shared} {l : Addr} {its : Array Value} {xs : List Str}
/-- what is wanted of it: a set at the next place, of these texts; all else as it was -/
abbrev SetMade (P : Program) (w : World) (s : Shared) (xs : List Str) (s' : Shared) : Prop :=
  ∃ h' tk, s' = { s with heap := h', toks := tk } ∧ HasS P w h' s.heap.objs.size xs xs.length ∧ ∀ b o, b < s.heap.objs.size → s.heap.get? b = some o → h'.get? b = some o
theorem setInit {led : Bool} {Q : Fin → Shared → Prop} (calm : A.handled = none) (hl : s.heap.IsList l its) (ht : StrsAre its.toList xs) (nd : xs.Nodup) (few : xs.length + 1 < scanBound)
    (h : ∀ s', SetMade P w s xs s' → Q (.done (.ret .none)) s') :
    wpAny (model P w) A (Builtin.«set.__init__» ⟨[.ref s.heap.objs.size, .ref l], []⟩) Q E { s with heap := s.heap.push (emptySet led) } := by
  obtain ⟨⟨oc, od, odt, osl⟩, hol, hcl, nl, hdl⟩ := hl
  dsimp only at hcl hdl
  subst hcl hdl
  have hS : (s.heap.push (emptySet led)).get? s.heap.objs.size = some (emptySet led) := Heap.get?_push_size _ rfl
  have hT : Shared.TypeIs { s with heap := s.heap.push (emptySet led) } (.ref s.heap.objs.size) "set" := ⟨_, hS, rfl⟩
  have hol' : (s.heap.push (emptySet led)).get? l = some { cls := .type "list", dict := od, data := .seq its nl, slots := osl } := Heap.get?_push_of_some _ hol
  have f1 := F.sub_list_set
  have f2 := F.sub_list_frozenset
  have f3 : (Value.type "list" == Value.type "dict") = false := by decide
  have hl1 : (s.heap.push (emptySet led)).IsList l its := ⟨_, hol', rfl, nl, rfl⟩
  unfold Builtin.«set.__init__» noKeywords Builtin.Frozenset.updateFrom
  generalize hPI : pyIter = PI
  wp_walk
  subst hPI
  refine wpAny_pyIter_list hl1 (wpAny_bind (wpAny_runValue ?_))
  have lS : l < s.heap.objs.size := Heap.lt_size hol
  have calm3 : A.in1.handled = none := by simp [calm]
  have nI : l ≠ (s.heap.push (emptySet led)).objs.size := by
    rw [Heap.size_push]
    exact Nat.ne_of_lt (Nat.lt_succ_of_lt lS)
  have off : s.heap.objs.size ∉ [(s.heap.push (emptySet led)).objs.size, l] := by
    rw [Heap.size_push]
    simp only [List.mem_cons, List.not_mem_nil, or_false, not_or]
    exact ⟨Nat.ne_of_lt (Nat.lt_succ_self _), Nat.ne_of_gt lS⟩
  have sz : xs.length = its.size := by rw [← StrsAre.len_eq ht, Array.length_toList]
  refine fillS ((Walks.list calm3 _ l nI its).toS) off nd sz (by omega) (fun i v hv => SS.strs_at ht i v (by rw [Array.getElem?_toList]; exact hv)) its.size 0 _ (Nat.zero_add _) ?_ ?_ fun s' mv q => ?_
  · exact ⟨⟨_, Heap.get?_push_size _ rfl, rfl, rfl⟩, hl1.push _⟩
  · exact SetOf_congr ((setObjOf_fresh (knd := PySem.strKind P w) led).setOf (Heap.get?_push_of_some _ hS) (by unfold scanBound; omega)) (fun _ => rfl) rfl
  · obtain ⟨h', g', d', tk', os'⟩ := s'
    obtain rfl : g' = s.gens := mv.gens
    obtain rfl : d' = s.drawn := mv.drawn
    obtain rfl : os' = s.os := mv.os
    show wpAny _ _ _ _ _ _
    refine wpAny_pure ?_
    show wpAny _ _ (ret Value.none) _ _ _
    refine wpAny_pure (h _ ⟨h', tk', rfl, by rw [sz]; exact q, fun b o hb z => mv.heap b o ?_ (Heap.get?_push_of_some _ (Heap.get?_push_of_some _ z))⟩)
    simp only [List.mem_cons, List.not_mem_nil, or_false, not_or]
    rw [Heap.size_push]
    exact ⟨Nat.ne_of_lt hb, Nat.ne_of_lt (Nat.lt_succ_of_lt hb)⟩
theorem setOfTexts {Q : Value → Shared → Prop} (calm : A.handled = none) (hl : s.heap.IsList l its) (ht : StrsAre its.toList xs) (nd : xs.Nodup) (few : xs.length + 1 < scanBound)
    (h : ∀ s', SetMade P w s xs s' → Q (.ref s.heap.objs.size) s') : wpAny (model P w) A (call (.type "set") [.ref l]) Q E s := by
  obtain ⟨c, tl, mro⟩ := F.called_set.mro
  have g1 := F.called_set.made
  have g2 := F.called_set.sub
  refine wpAny_call (codeAny_of_tree ?_)
  show wpAny _ _ (callAny (.type "set") _) _ _ _
  refine wpAny_pure ⟨Code.quiet_builtin _ (by decide +kernel), codeAny_builtin F.entry_type_call ?_⟩
  rw [Around.under_plain (weight_type_call_type "set" [.ref l] []) rfl]
  have g3 := F.called_set.notType
  have g4 := F.called_set.canCreate
  have g5 := F.typeCall_set_1 (.ref l)
  repeat (any_goals (first | assumption | wp_step))
  refine codeAny_mono (code_set_new_1 (.ref l) (E := E) (Q₁ := fun o s1 => ∃ led : Bool, o = .ref s.heap.objs.size ∧ s1 = { s with heap := s.heap.push (emptySet led) }) fun led => ⟨led, rfl, rfl⟩) fun r s1 hr => ?_
  cases r with
  | error e => exact hr
  | ok fl =>
    cases fl with
    | ret o =>
      obtain ⟨led, rfl, rfl⟩ := hr
      have hT : Shared.TypeIs { s with heap := s.heap.push (emptySet led) } (.ref s.heap.objs.size) "set" := ⟨_, Heap.get?_push_size _ rfl, rfl⟩
      have g6 := F.called_set.init.lookup
      have g7 := F.called_set.init.bind (.ref s.heap.objs.size)
      repeat (any_goals (first | assumption | wp_step))
      refine codeAny_mono (codeAny_call_builtin (R := wants (fun r s2 => r = .none ∧ SetMade P w s xs s2) E) F.called_set.init.plain F.entry_set_init (check_set_init_1 hT (setInit (by simp [calm]) hl ht nd few fun s2 q => ⟨rfl, q⟩))) fun r2 s2 hr2 => ?_
      cases r2 with
      | error e => exact hr2
      | ok f2 =>
        cases f2 with
        | ret v =>
          obtain ⟨rfl, q⟩ := hr2
          repeat (any_goals (first | assumption | wp_step))
          exact h _ q
        | _ => exact hr2.elim
    | _ => exact hr.elim
end
/-- len(set(xs)), xs a list of distinct texts -/
def tCount (K : PySem.W.Frag) (ta : TE) : TE := fun σ H Q => ta σ H fun x H1 => ∃ (l : Addr) (xs : List Str), x = .ref l ∧ SqL K H1 l (xs.map V.str) ∧ xs.Nodup ∧ xs.length ≤ 4000 ∧ Q (.int xs.length) H1
theorem pe_count {X : Cx} {a : Expr} {ta : TE} {p p2 q pos : Pos} (hc : X.calm = true) (hg : Gl X "len") (hm : X.mg "len" = none) (hg2 : Gl X "set") (hm2 : X.mg "set" = none) (ha : PE X a ta)
    (na : starEach [a] X.env = (false, eval a X.env) :: starEach [] X.env := by rfl) : PE X (.Call (.Name "len" p) [.Call (.Name "set" p2) [a] [] q] [] pos) (tCount X.K ta) := by
  refine ⟨fun pins s σ H Q I h => ?_⟩
  refine Call_ (ld_blt I hg hm boot_len (PyProof.Rows.callWith_builtin1 (PyProof.Rows.args_cons ?_ rfl) rfl rfl))
  refine Call_ (ld_blt I hg2 hm2 boot_set (PyProof.Rows.callWith_type1 (PyProof.Rows.args_cons (thn (ha.run pins s σ H _ I h) fun v s1 hh => PyProof.Rows.args_nil ?_) na) na rfl))
  obtain ⟨x, H1, I1, r1, l, xs, rfl, hq, nd, few, q1⟩ := hh
  cases r1
  obtain ⟨its, r, pl, hz⟩ := I1.list hq
  refine setOfTexts (I1.ok.hd hc) pl.isList (by simpa using strsAre_of r) nd (by unfold scanBound; omega) fun s' hs => PyProof.Rows.args_nil ?_
  obtain ⟨h', tk, rfl, ⟨o, es, ep, t, ho, hex, hd, _, _, _, hf, hn⟩, hk⟩ := hs
  have I2 : Inv X pins σ H1 { s1 with heap := h', toks := tk } := I1.kept fun b o z => hk b o (Heap.lt_size z) z
  exact call_len_set ho hex hd hf (by rw [hn]; omega) ⟨.int xs.length, H1, I2.tok _, ⟨_, by rw [hn]⟩, q1⟩
/-- xs + ys, lists that are read -/
def rCatL (K : PySem.W.Frag) : R2 := fun x y H Q => ∃ l b xs zs, x = .ref l ∧ y = .ref b ∧ SqL K H l xs ∧ SqL K H b zs ∧ xs.length + zs.length ≤ sizeLine ∧ ∀ p, H p = none → Q (.ref p) (upd H p (.lst (xs ++ zs)))
theorem op_catL {X : Cx} : OpR X (binaryOp .Add) (rCatL X.K) := by
  intro pins s σ H x y v u Q I rx ry h
  obtain ⟨l, b, xs, zs, rfl, rfl, h1, h2, hz, q⟩ := h
  cases rx
  cases ry
  obtain ⟨is, r1, ⟨⟨c1, d1, t1, s1⟩, n1, e1, k1, _, m1⟩, _⟩ := I.list h1
  obtain ⟨js, r2, ⟨⟨c2, d2, t2, s2⟩, n2, e2, k2, _, m2⟩, _⟩ := I.list h2
  dsimp only at k1 m1 k2 m2
  subst k1 m1 k2 m2
  have l1 := r1.length
  have l2 := r2.length
  refine concat_meets ⟨_, e1, rfl⟩ ⟨_, e2, rfl⟩ noFill_list_add seq_list_add F.slot_list_add F.entry_list_add (F.args_list_add_2 _ _)
    (list_addW l b is.toArray js.toArray n1 n2 d1 d2 s1 s2 (by simp only [List.size_toArray]; omega)) ⟨e1, e2, ?_⟩
  have ea : is.toArray ++ js.toArray = (is ++ js).toArray := by simp
  rw [ea]
  exact ⟨.ref _, _, I.lnew (t' := s.toks) (r1.append r2) (by rw [List.length_append]; omega), rfl, q _ I.fresh⟩
end Lf

set_option Elab.async false
set_option linter.all false
set_option maxRecDepth 100000
set_option maxHeartbeats 4000000
/-! Heaps that grow; data. -/
namespace Lf
open PySem PySem.Spec PyProof.Rows L2
/-- all but lists stay -/
def Solid (H H' : Hp) : Prop := ∀ b o, H b = some o → (∀ xs, o ≠ .lst xs) → H' b = some o
theorem Solid.refl (H : Hp) : Solid H H := fun _ _ h _ => h
theorem Solid.trans {H H1 H2 : Hp} (a : Solid H H1) (b : Solid H1 H2) : Solid H H2 := fun c o h n => b c o (a c o h n) n
theorem Solid.of {H H' : Hp} (e : Same H H') : Solid H H' := fun b o h _ => e b o h
theorem Solid.lst {H : Hp} {l : Addr} {xs ys : List V} (h : H l = some (.lst xs)) : Solid H (upd H l (.lst ys)) := fun b o e n => by
  rw [upd_ne (fun z => by rw [z, h] at e; cases e; exact n xs rfl)]
  exact e
theorem exo_nl {a C : Addr} {d : Option Addr} (xs : List V) : exo a C d ≠ .lst xs := fun z => by
  have z' : HO.ext _ = HO.lst xs := z
  cases z'
theorem exO_nl {a : Addr} {c : Value} (xs : List V) : ExO c a ≠ .lst xs := fun z => by
  have z' : HO.ext _ = HO.lst xs := z
  cases z'
theorem exd_nl {a : Addr} {fs : List (Str × V)} (xs : List V) : exd a fs ≠ .lst xs := fun z => by
  have z' : HO.ext _ = HO.lst xs := z
  cases z'
theorem XAt.solid {H H' : Hp} {a C : Addr} {d : Option Addr} (h : XAt H a C d) (s : Solid H H') : XAt H' a C d := by
  rcases h with h | ⟨e, h⟩
  · exact .inl (s _ _ h exo_nl)
  · exact .inr ⟨e, s _ _ h exO_nl⟩
/-- all but the thing at l stay -/
def But (l : Addr) (H H' : Hp) : Prop := ∀ b o, b ≠ l → H b = some o → H' b = some o
theorem But.refl {l : Addr} {H : Hp} : But l H H := fun _ _ _ h => h
theorem But.trans {l : Addr} {H H1 H2 : Hp} (a : But l H H1) (b : But l H1 H2) : But l H H2 := fun c o n h => b c o n (a c o n h)
theorem But.of {l : Addr} {H H' : Hp} (e : Same H H') : But l H H' := fun b o _ h => e b o h
theorem But.upd {l : Addr} {H : Hp} {o : HO} : But l H (upd H l o) := fun b u n h => by rw [upd_ne n]; exact h
theorem Same.but {l : Addr} {H0 H H' : Hp} (s : Same H0 H) (n : H0 l = none) (b : But l H H') : Same H0 H' := fun c o h => b c o (ne_of_none h n) (s c o h)
theorem SqT.same {K : PySem.W.Frag} {H H' : Hp} {a : Addr} {xs : List V} (e : Same H H') (h : SqT K H a xs) : SqT K H' a xs := by
  rcases h with (h | ⟨o, h⟩) | h
  · exact .inl (.inl (e _ _ h))
  · exact .inl (.inr ⟨o, e _ _ h⟩)
  · exact .inr h
theorem But.solid {l : Addr} {H H' : Hp} {xs : List V} (h : H l = some (.lst xs)) (b : But l H H') : Solid H H' := fun c o e n => b c o (fun z => by rw [z, h] at e; cases e; exact n xs rfl) e
theorem ifT {c : Bool} {A B : Prop} (hc : c = true) (h : A) : if c = true then A else B := by
  rw [if_pos hc]
  exact h
theorem ifF {c : Bool} {A B : Prop} (hc : c = false) (h : B) : if c = true then A else B := by
  rw [hc, if_neg Bool.false_ne_true]
  exact h
theorem pair_get {α β : Type} {F : α → β → Prop} : ∀ {as : List α} {bs : List β} {i : Nat} {a : α}, Paired F as bs → as[i]? = some a → ∃ b, bs[i]? = some b ∧ F a b
  | _, _, _, _, .nil, e => by simp at e
  | _, _, 0, _, .cons r _, e => by simp at e; subst e; exact ⟨_, rfl, r⟩
  | _, _, i + 1, a, .cons _ t, e => by
    obtain ⟨b, h1, h2⟩ := pair_get (i := i) (a := a) t (by simpa using e)
    exact ⟨b, by simpa using h1, h2⟩
theorem take_snoc {α : Type} {l : List α} {i : Nat} {x : α} (h : l[i]? = some x) : l.take (i + 1) = l.take i ++ [x] := by
  obtain ⟨hi, e⟩ := List.getElem?_eq_some_iff.mp h
  rw [← e]
  simp
theorem map_at {α : Type} {f : α → V} {l : List α} {i : Nat} {y : V} (h : (l.map f)[i]? = some y) : ∃ a, l[i]? = some a ∧ y = f a := by
  rw [List.getElem?_map] at h
  cases e : l[i]? with
  | none => rw [e] at h; cases h
  | some a => rw [e] at h; exact ⟨a, rfl, (Option.some.inj h).symm⟩
theorem eqv_same {d : PyData} (h : SeqAt.shaped d = true) : (!PyData.eqv d d) = false := by
  rw [SeqAt.eqv_refl d (SeqAt.canLay_of_shaped h)]
  rfl
mutual
theorem dp_same {K : PySem.W.Frag} {H H' : Hp} (e : Same H H') : ∀ {v : V} {d : PyData}, Dp K H v d → Dp K H' v d
  | _, _, .non => .non
  | _, _, .bl b => .bl b
  | _, _, .int i => .int i
  | _, _, .str x => .str x
  | _, _, .lst h r => .lst (L2.Same.seq e h) (dpAll_same e r)
  | _, _, .tup h r => .tup (SqT.same e h) (dpAll_same e r)
theorem dpAll_same {K : PySem.W.Frag} {H H' : Hp} (e : Same H H') : ∀ {vs : List V} {ds : List PyData}, DpAll K H vs ds → DpAll K H' vs ds
  | _, _, .nil => .nil
  | _, _, .cons h r => .cons (dp_same e h) (dpAll_same e r)
end
end Lf

set_option Elab.async false
set_option linter.all false
set_option maxRecDepth 100000
set_option maxHeartbeats 0
namespace K01
open PySem PySem.Spec PyProof.Rows L2
section
structure Txt (P : Program) (w : World) (K : PySem.W.Frag) (mg : Str → Option Value) (base : Heap) : Prop where
  d : He.SaysD fa fn K
  m : ex K = true
  gl : ∀ (i : Nat) (x : Str), fa[i]? = some (.glo x) → mg x = some (.ref (He.ga K x))
  fr : ∀ (i : Nat) (x : Str), fa[i]? = some (.free x) → mg x = none
variable {P : Program} {w : World} {K : PySem.W.Frag} {mg : Str → Option Value} {base : Heap}
theorem Txt.ini (T : Txt P w K mg base) (i : Nat) {p : Str × List Str} (h : inis[i]? = some p := by rfl) : iniB K p = true ∧ isB K p.1 = true := by
  have z := (He.ba T.m).1
  exact He.ba (List.all_eq_true.mp z p (List.mem_of_getElem? h))
theorem Txt.bar (T : Txt P w K mg base) (i : Nat) {x : Str} (h : bares[i]? = some x := by rfl) : Lf.errB K (He.ga K x) = true ∧ isB K x = true := by
  have z := (He.ba (He.ba T.m).2).1
  exact He.ba (List.all_eq_true.mp z x (List.mem_of_getElem? h))
/-- isinstance of FoldError, of ValueError -/
structure IsE (K : PySem.W.Frag) (x : Str) : Prop where
  fold : PySem.W.kitOne K (.ref (He.ga K x)) (.ref (He.ga K "FoldError")) = some true
  val : PySem.W.kitOne K (.ref (He.ga K x)) (.type "ValueError") = some true
theorem isB_ok {x : Str} (h : isB K x = true) : IsE K x := by
  obtain ⟨h1, h2⟩ := He.ba h
  exact ⟨of_decide_eq_true h1, of_decide_eq_true h2⟩
structure IniK (K : PySem.W.Frag) (p : Str × List Str) : Prop where
  c : Lf.ErrC K (He.ga K p.1)
  i : PySem.W.findIn K (.ref (He.ga K p.1)) "__init__" = some (some (.ref (He.ma K (He.ga K p.1) "__init__")))
  t : PySem.W.typeIn K (.ref (He.ma K (He.ga K p.1) "__init__")) = some (.type "function")
  f : ∀ f ∈ p.2, PySem.W.findIn K (.ref (He.ga K p.1)) f = some none
theorem iniB_ok {p : Str × List Str} (h : iniB K p = true) : IniK K p := by
  obtain ⟨h1, h⟩ := He.ba h
  obtain ⟨h2, h⟩ := He.ba h
  obtain ⟨h3, h4⟩ := He.ba h
  exact ⟨Lf.errB_ok h1, of_decide_eq_true h2, of_decide_eq_true h3, fun f hf => of_decide_eq_true (List.all_eq_true.mp h4 f hf)⟩

theorem tl_NoElement (T : Txt P w K mg base) : Lf.Tells P w K mg base (He.ga K "NoElement") "refused noelement" := by
  obtain ⟨fd, F⟩ := T.d.def_ 2 (d := d_NoElement_told) rfl
  have m : Meth K (He.ga K "NoElement") "told" (He.ma K (He.ga K "NoElement") "told") := He.meth_ok (T.d.fact 45 (f := .meth "NoElement" "told") rfl)
  have sc : FnScope ["self"] ["self"] d_NoElement_told.scope := ⟨rfl, rfl, rfl, by decide +kernel, rfl, by decide +kernel, by decide +kernel⟩
  have o : FnOk P w K mg base CX0 1 (He.fAd K d_NoElement_told.at_) fd ["self"] (Lf.spTold "refused noelement") := Lf.told_ok F sc
  have b : L2.Binds K fd ["self"] [] := F.bindsN fun _ _ _ _ _ _ us hl => match us, hl with | [_], _ => rfl
  exact ⟨_, fd, m, o, b⟩
theorem er_NoElement (T : Txt P w K mg base) : Lf.Err1 P w K mg base "NoElement" "place" "refused noelement" := by
  have k : IniK K ("NoElement", ["place"]) := iniB_ok (T.ini 0).1
  obtain ⟨fd, F⟩ := T.d.def_ 1 (d := d_NoElement_init) rfl
  have sc : FnScope ["self", "place"] ["self", "place"] d_NoElement_init.scope := ⟨rfl, rfl, rfl, by decide +kernel, rfl, by decide +kernel, by decide +kernel⟩
  have n0 : PySem.W.findIn K (.ref (He.ga K "NoElement")) "place" = some none := k.f _ (by simp)
  have o : FnOk P w K mg base CX0 1 (He.fAd K d_NoElement_init.at_) fd ["self", "place"] (Lf.spIni1 (He.ga K "NoElement") "place") := Lf.ini1_ok k.c.o n0 F sc
  have b : L2.Binds K fd ["self", "place"] [] := F.bindsN fun _ _ _ _ _ _ us hl => match us, hl with | [_, _], _ => rfl
  have g : mg "NoElement" = some (.ref (He.ga K "NoElement")) := T.gl 1 "NoElement" rfl
  exact ⟨g, k.c, n0, tl_NoElement T, _, fd, k.i, k.t, o, b⟩
theorem is_NoElement (T : Txt P w K mg base) : IsE K "NoElement" := isB_ok (T.ini 0 (p := ("NoElement", ["place"])) rfl).2
theorem tl_NoNumber (T : Txt P w K mg base) : Lf.Tells P w K mg base (He.ga K "NoNumber") "refused nonumber" := by
  obtain ⟨fd, F⟩ := T.d.def_ 4 (d := d_NoNumber_told) rfl
  have m : Meth K (He.ga K "NoNumber") "told" (He.ma K (He.ga K "NoNumber") "told") := He.meth_ok (T.d.fact 46 (f := .meth "NoNumber" "told") rfl)
  have sc : FnScope ["self"] ["self"] d_NoNumber_told.scope := ⟨rfl, rfl, rfl, by decide +kernel, rfl, by decide +kernel, by decide +kernel⟩
  have o : FnOk P w K mg base CX0 1 (He.fAd K d_NoNumber_told.at_) fd ["self"] (Lf.spTold "refused nonumber") := Lf.told_ok F sc
  have b : L2.Binds K fd ["self"] [] := F.bindsN fun _ _ _ _ _ _ us hl => match us, hl with | [_], _ => rfl
  exact ⟨_, fd, m, o, b⟩
theorem er_NoNumber (T : Txt P w K mg base) : Lf.Err1 P w K mg base "NoNumber" "number" "refused nonumber" := by
  have k : IniK K ("NoNumber", ["number"]) := iniB_ok (T.ini 1).1
  obtain ⟨fd, F⟩ := T.d.def_ 3 (d := d_NoNumber_init) rfl
  have sc : FnScope ["self", "number"] ["self", "number"] d_NoNumber_init.scope := ⟨rfl, rfl, rfl, by decide +kernel, rfl, by decide +kernel, by decide +kernel⟩
  have n0 : PySem.W.findIn K (.ref (He.ga K "NoNumber")) "number" = some none := k.f _ (by simp)
  have o : FnOk P w K mg base CX0 1 (He.fAd K d_NoNumber_init.at_) fd ["self", "number"] (Lf.spIni1 (He.ga K "NoNumber") "number") := Lf.ini1_ok k.c.o n0 F sc
  have b : L2.Binds K fd ["self", "number"] [] := F.bindsN fun _ _ _ _ _ _ us hl => match us, hl with | [_, _], _ => rfl
  have g : mg "NoNumber" = some (.ref (He.ga K "NoNumber")) := T.gl 2 "NoNumber" rfl
  exact ⟨g, k.c, n0, tl_NoNumber T, _, fd, k.i, k.t, o, b⟩
theorem is_NoNumber (T : Txt P w K mg base) : IsE K "NoNumber" := isB_ok (T.ini 1 (p := ("NoNumber", ["number"])) rfl).2
theorem tl_Unlike (T : Txt P w K mg base) : Lf.Tells P w K mg base (He.ga K "Unlike") "refused unlike" := by
  obtain ⟨fd, F⟩ := T.d.def_ 5 (d := d_Unlike_told) rfl
  have m : Meth K (He.ga K "Unlike") "told" (He.ma K (He.ga K "Unlike") "told") := He.meth_ok (T.d.fact 47 (f := .meth "Unlike" "told") rfl)
  have sc : FnScope ["self"] ["self"] d_Unlike_told.scope := ⟨rfl, rfl, rfl, by decide +kernel, rfl, by decide +kernel, by decide +kernel⟩
  have o : FnOk P w K mg base CX0 1 (He.fAd K d_Unlike_told.at_) fd ["self"] (Lf.spTold "refused unlike") := Lf.told_ok F sc
  have b : L2.Binds K fd ["self"] [] := F.bindsN fun _ _ _ _ _ _ us hl => match us, hl with | [_], _ => rfl
  exact ⟨_, fd, m, o, b⟩
theorem er_Unlike (T : Txt P w K mg base) : Lf.Err0 P w K mg base "Unlike" "refused unlike" :=
  ⟨T.gl 3 "Unlike" rfl, Lf.errB_ok (T.bar 0 (x := "Unlike") rfl).1, (He.exc_ok (T.d.fact 83 (f := .exc "Unlike") rfl)).1, tl_Unlike T⟩
theorem is_Unlike (T : Txt P w K mg base) : IsE K "Unlike" := isB_ok (T.bar 0 (x := "Unlike") rfl).2
theorem tl_NoText (T : Txt P w K mg base) : Lf.Tells P w K mg base (He.ga K "NoText") "refused notext" := by
  obtain ⟨fd, F⟩ := T.d.def_ 7 (d := d_NoText_told) rfl
  have m : Meth K (He.ga K "NoText") "told" (He.ma K (He.ga K "NoText") "told") := He.meth_ok (T.d.fact 48 (f := .meth "NoText" "told") rfl)
  have sc : FnScope ["self"] ["self"] d_NoText_told.scope := ⟨rfl, rfl, rfl, by decide +kernel, rfl, by decide +kernel, by decide +kernel⟩
  have o : FnOk P w K mg base CX0 1 (He.fAd K d_NoText_told.at_) fd ["self"] (Lf.spTold "refused notext") := Lf.told_ok F sc
  have b : L2.Binds K fd ["self"] [] := F.bindsN fun _ _ _ _ _ _ us hl => match us, hl with | [_], _ => rfl
  exact ⟨_, fd, m, o, b⟩
theorem er_NoText (T : Txt P w K mg base) : Lf.Err1 P w K mg base "NoText" "place" "refused notext" := by
  have k : IniK K ("NoText", ["place"]) := iniB_ok (T.ini 2).1
  obtain ⟨fd, F⟩ := T.d.def_ 6 (d := d_NoText_init) rfl
  have sc : FnScope ["self", "place"] ["self", "place"] d_NoText_init.scope := ⟨rfl, rfl, rfl, by decide +kernel, rfl, by decide +kernel, by decide +kernel⟩
  have n0 : PySem.W.findIn K (.ref (He.ga K "NoText")) "place" = some none := k.f _ (by simp)
  have o : FnOk P w K mg base CX0 1 (He.fAd K d_NoText_init.at_) fd ["self", "place"] (Lf.spIni1 (He.ga K "NoText") "place") := Lf.ini1_ok k.c.o n0 F sc
  have b : L2.Binds K fd ["self", "place"] [] := F.bindsN fun _ _ _ _ _ _ us hl => match us, hl with | [_, _], _ => rfl
  have g : mg "NoText" = some (.ref (He.ga K "NoText")) := T.gl 4 "NoText" rfl
  exact ⟨g, k.c, n0, tl_NoText T, _, fd, k.i, k.t, o, b⟩
theorem is_NoText (T : Txt P w K mg base) : IsE K "NoText" := isB_ok (T.ini 2 (p := ("NoText", ["place"])) rfl).2
theorem tl_NoMonoid (T : Txt P w K mg base) : Lf.Tells P w K mg base (He.ga K "NoMonoid") "refused nomonoid" := by
  obtain ⟨fd, F⟩ := T.d.def_ 9 (d := d_NoMonoid_told) rfl
  have m : Meth K (He.ga K "NoMonoid") "told" (He.ma K (He.ga K "NoMonoid") "told") := He.meth_ok (T.d.fact 49 (f := .meth "NoMonoid" "told") rfl)
  have sc : FnScope ["self"] ["self"] d_NoMonoid_told.scope := ⟨rfl, rfl, rfl, by decide +kernel, rfl, by decide +kernel, by decide +kernel⟩
  have o : FnOk P w K mg base CX0 1 (He.fAd K d_NoMonoid_told.at_) fd ["self"] (Lf.spTold "refused nomonoid") := Lf.told_ok F sc
  have b : L2.Binds K fd ["self"] [] := F.bindsN fun _ _ _ _ _ _ us hl => match us, hl with | [_], _ => rfl
  exact ⟨_, fd, m, o, b⟩
theorem er_NoMonoid (T : Txt P w K mg base) : Lf.Err2 P w K mg base "NoMonoid" "what" "place" "refused nomonoid" := by
  have k : IniK K ("NoMonoid", ["what", "place"]) := iniB_ok (T.ini 3).1
  obtain ⟨fd, F⟩ := T.d.def_ 8 (d := d_NoMonoid_init) rfl
  have sc : FnScope ["self", "what", "place"] ["self", "what", "place"] d_NoMonoid_init.scope := ⟨rfl, rfl, rfl, by decide +kernel, rfl, by decide +kernel, by decide +kernel⟩
  have n0 : PySem.W.findIn K (.ref (He.ga K "NoMonoid")) "what" = some none := k.f _ (by simp)
  have n1 : PySem.W.findIn K (.ref (He.ga K "NoMonoid")) "place" = some none := k.f _ (by simp)
  have o : FnOk P w K mg base CX0 1 (He.fAd K d_NoMonoid_init.at_) fd ["self", "what", "place"] (Lf.spIni2 (He.ga K "NoMonoid") "what" "place") := Lf.ini2_ok k.c.o n0 n1 F sc
  have b : L2.Binds K fd ["self", "what", "place"] [] := F.bindsN fun _ _ _ _ _ _ us hl => match us, hl with | [_, _, _], _ => rfl
  have g : mg "NoMonoid" = some (.ref (He.ga K "NoMonoid")) := T.gl 5 "NoMonoid" rfl
  exact ⟨g, k.c, n0, n1, tl_NoMonoid T, _, fd, k.i, k.t, o, b⟩
theorem is_NoMonoid (T : Txt P w K mg base) : IsE K "NoMonoid" := isB_ok (T.ini 3 (p := ("NoMonoid", ["what", "place"])) rfl).2
theorem tl_NoWord (T : Txt P w K mg base) : Lf.Tells P w K mg base (He.ga K "NoWord") "refused noword" := by
  obtain ⟨fd, F⟩ := T.d.def_ 11 (d := d_NoWord_told) rfl
  have m : Meth K (He.ga K "NoWord") "told" (He.ma K (He.ga K "NoWord") "told") := He.meth_ok (T.d.fact 50 (f := .meth "NoWord" "told") rfl)
  have sc : FnScope ["self"] ["self"] d_NoWord_told.scope := ⟨rfl, rfl, rfl, by decide +kernel, rfl, by decide +kernel, by decide +kernel⟩
  have o : FnOk P w K mg base CX0 1 (He.fAd K d_NoWord_told.at_) fd ["self"] (Lf.spTold "refused noword") := Lf.told_ok F sc
  have b : L2.Binds K fd ["self"] [] := F.bindsN fun _ _ _ _ _ _ us hl => match us, hl with | [_], _ => rfl
  exact ⟨_, fd, m, o, b⟩
theorem er_NoWord (T : Txt P w K mg base) : Lf.Err1 P w K mg base "NoWord" "word" "refused noword" := by
  have k : IniK K ("NoWord", ["word"]) := iniB_ok (T.ini 4).1
  obtain ⟨fd, F⟩ := T.d.def_ 10 (d := d_NoWord_init) rfl
  have sc : FnScope ["self", "word"] ["self", "word"] d_NoWord_init.scope := ⟨rfl, rfl, rfl, by decide +kernel, rfl, by decide +kernel, by decide +kernel⟩
  have n0 : PySem.W.findIn K (.ref (He.ga K "NoWord")) "word" = some none := k.f _ (by simp)
  have o : FnOk P w K mg base CX0 1 (He.fAd K d_NoWord_init.at_) fd ["self", "word"] (Lf.spIni1 (He.ga K "NoWord") "word") := Lf.ini1_ok k.c.o n0 F sc
  have b : L2.Binds K fd ["self", "word"] [] := F.bindsN fun _ _ _ _ _ _ us hl => match us, hl with | [_, _], _ => rfl
  have g : mg "NoWord" = some (.ref (He.ga K "NoWord")) := T.gl 6 "NoWord" rfl
  exact ⟨g, k.c, n0, tl_NoWord T, _, fd, k.i, k.t, o, b⟩
theorem is_NoWord (T : Txt P w K mg base) : IsE K "NoWord" := isB_ok (T.ini 4 (p := ("NoWord", ["word"])) rfl).2
theorem tl_NoGenerators (T : Txt P w K mg base) : Lf.Tells P w K mg base (He.ga K "NoGenerators") "refused nogenerators" := by
  obtain ⟨fd, F⟩ := T.d.def_ 13 (d := d_NoGenerators_told) rfl
  have m : Meth K (He.ga K "NoGenerators") "told" (He.ma K (He.ga K "NoGenerators") "told") := He.meth_ok (T.d.fact 51 (f := .meth "NoGenerators" "told") rfl)
  have sc : FnScope ["self"] ["self"] d_NoGenerators_told.scope := ⟨rfl, rfl, rfl, by decide +kernel, rfl, by decide +kernel, by decide +kernel⟩
  have o : FnOk P w K mg base CX0 1 (He.fAd K d_NoGenerators_told.at_) fd ["self"] (Lf.spTold "refused nogenerators") := Lf.told_ok F sc
  have b : L2.Binds K fd ["self"] [] := F.bindsN fun _ _ _ _ _ _ us hl => match us, hl with | [_], _ => rfl
  exact ⟨_, fd, m, o, b⟩
theorem er_NoGenerators (T : Txt P w K mg base) : Lf.Err1 P w K mg base "NoGenerators" "place" "refused nogenerators" := by
  have k : IniK K ("NoGenerators", ["place"]) := iniB_ok (T.ini 5).1
  obtain ⟨fd, F⟩ := T.d.def_ 12 (d := d_NoGenerators_init) rfl
  have sc : FnScope ["self", "place"] ["self", "place"] d_NoGenerators_init.scope := ⟨rfl, rfl, rfl, by decide +kernel, rfl, by decide +kernel, by decide +kernel⟩
  have n0 : PySem.W.findIn K (.ref (He.ga K "NoGenerators")) "place" = some none := k.f _ (by simp)
  have o : FnOk P w K mg base CX0 1 (He.fAd K d_NoGenerators_init.at_) fd ["self", "place"] (Lf.spIni1 (He.ga K "NoGenerators") "place") := Lf.ini1_ok k.c.o n0 F sc
  have b : L2.Binds K fd ["self", "place"] [] := F.bindsN fun _ _ _ _ _ _ us hl => match us, hl with | [_, _], _ => rfl
  have g : mg "NoGenerators" = some (.ref (He.ga K "NoGenerators")) := T.gl 7 "NoGenerators" rfl
  exact ⟨g, k.c, n0, tl_NoGenerators T, _, fd, k.i, k.t, o, b⟩
theorem is_NoGenerators (T : Txt P w K mg base) : IsE K "NoGenerators" := isB_ok (T.ini 5 (p := ("NoGenerators", ["place"])) rfl).2
theorem tl_TooMany (T : Txt P w K mg base) : Lf.Tells P w K mg base (He.ga K "TooMany") "refused toomany" := by
  obtain ⟨fd, F⟩ := T.d.def_ 15 (d := d_TooMany_told) rfl
  have m : Meth K (He.ga K "TooMany") "told" (He.ma K (He.ga K "TooMany") "told") := He.meth_ok (T.d.fact 52 (f := .meth "TooMany" "told") rfl)
  have sc : FnScope ["self"] ["self"] d_TooMany_told.scope := ⟨rfl, rfl, rfl, by decide +kernel, rfl, by decide +kernel, by decide +kernel⟩
  have o : FnOk P w K mg base CX0 1 (He.fAd K d_TooMany_told.at_) fd ["self"] (Lf.spTold "refused toomany") := Lf.told_ok F sc
  have b : L2.Binds K fd ["self"] [] := F.bindsN fun _ _ _ _ _ _ us hl => match us, hl with | [_], _ => rfl
  exact ⟨_, fd, m, o, b⟩
theorem er_TooMany (T : Txt P w K mg base) : Lf.Err1 P w K mg base "TooMany" "most" "refused toomany" := by
  have k : IniK K ("TooMany", ["most"]) := iniB_ok (T.ini 6).1
  obtain ⟨fd, F⟩ := T.d.def_ 14 (d := d_TooMany_init) rfl
  have sc : FnScope ["self", "most"] ["self", "most"] d_TooMany_init.scope := ⟨rfl, rfl, rfl, by decide +kernel, rfl, by decide +kernel, by decide +kernel⟩
  have n0 : PySem.W.findIn K (.ref (He.ga K "TooMany")) "most" = some none := k.f _ (by simp)
  have o : FnOk P w K mg base CX0 1 (He.fAd K d_TooMany_init.at_) fd ["self", "most"] (Lf.spIni1 (He.ga K "TooMany") "most") := Lf.ini1_ok k.c.o n0 F sc
  have b : L2.Binds K fd ["self", "most"] [] := F.bindsN fun _ _ _ _ _ _ us hl => match us, hl with | [_, _], _ => rfl
  have g : mg "TooMany" = some (.ref (He.ga K "TooMany")) := T.gl 8 "TooMany" rfl
  exact ⟨g, k.c, n0, tl_TooMany T, _, fd, k.i, k.t, o, b⟩
theorem is_TooMany (T : Txt P w K mg base) : IsE K "TooMany" := isB_ok (T.ini 6 (p := ("TooMany", ["most"])) rfl).2
theorem tl_NoKind (T : Txt P w K mg base) : Lf.Tells P w K mg base (He.ga K "NoKind") "refused nokind" := by
  obtain ⟨fd, F⟩ := T.d.def_ 17 (d := d_NoKind_told) rfl
  have m : Meth K (He.ga K "NoKind") "told" (He.ma K (He.ga K "NoKind") "told") := He.meth_ok (T.d.fact 53 (f := .meth "NoKind" "told") rfl)
  have sc : FnScope ["self"] ["self"] d_NoKind_told.scope := ⟨rfl, rfl, rfl, by decide +kernel, rfl, by decide +kernel, by decide +kernel⟩
  have o : FnOk P w K mg base CX0 1 (He.fAd K d_NoKind_told.at_) fd ["self"] (Lf.spTold "refused nokind") := Lf.told_ok F sc
  have b : L2.Binds K fd ["self"] [] := F.bindsN fun _ _ _ _ _ _ us hl => match us, hl with | [_], _ => rfl
  exact ⟨_, fd, m, o, b⟩
theorem er_NoKind (T : Txt P w K mg base) : Lf.Err1 P w K mg base "NoKind" "kind" "refused nokind" := by
  have k : IniK K ("NoKind", ["kind"]) := iniB_ok (T.ini 7).1
  obtain ⟨fd, F⟩ := T.d.def_ 16 (d := d_NoKind_init) rfl
  have sc : FnScope ["self", "kind"] ["self", "kind"] d_NoKind_init.scope := ⟨rfl, rfl, rfl, by decide +kernel, rfl, by decide +kernel, by decide +kernel⟩
  have n0 : PySem.W.findIn K (.ref (He.ga K "NoKind")) "kind" = some none := k.f _ (by simp)
  have o : FnOk P w K mg base CX0 1 (He.fAd K d_NoKind_init.at_) fd ["self", "kind"] (Lf.spIni1 (He.ga K "NoKind") "kind") := Lf.ini1_ok k.c.o n0 F sc
  have b : L2.Binds K fd ["self", "kind"] [] := F.bindsN fun _ _ _ _ _ _ us hl => match us, hl with | [_, _], _ => rfl
  have g : mg "NoKind" = some (.ref (He.ga K "NoKind")) := T.gl 9 "NoKind" rfl
  exact ⟨g, k.c, n0, tl_NoKind T, _, fd, k.i, k.t, o, b⟩
theorem is_NoKind (T : Txt P w K mg base) : IsE K "NoKind" := isB_ok (T.ini 7 (p := ("NoKind", ["kind"])) rfl).2
theorem tl_NotRegular (T : Txt P w K mg base) : Lf.Tells P w K mg base (He.ga K "NotRegular") "refused notregular" := by
  obtain ⟨fd, F⟩ := T.d.def_ 19 (d := d_NotRegular_told) rfl
  have m : Meth K (He.ga K "NotRegular") "told" (He.ma K (He.ga K "NotRegular") "told") := He.meth_ok (T.d.fact 54 (f := .meth "NotRegular" "told") rfl)
  have sc : FnScope ["self"] ["self"] d_NotRegular_told.scope := ⟨rfl, rfl, rfl, by decide +kernel, rfl, by decide +kernel, by decide +kernel⟩
  have o : FnOk P w K mg base CX0 1 (He.fAd K d_NotRegular_told.at_) fd ["self"] (Lf.spTold "refused notregular") := Lf.told_ok F sc
  have b : L2.Binds K fd ["self"] [] := F.bindsN fun _ _ _ _ _ _ us hl => match us, hl with | [_], _ => rfl
  exact ⟨_, fd, m, o, b⟩
theorem er_NotRegular (T : Txt P w K mg base) : Lf.Err1 P w K mg base "NotRegular" "number" "refused notregular" := by
  have k : IniK K ("NotRegular", ["number"]) := iniB_ok (T.ini 8).1
  obtain ⟨fd, F⟩ := T.d.def_ 18 (d := d_NotRegular_init) rfl
  have sc : FnScope ["self", "number"] ["self", "number"] d_NotRegular_init.scope := ⟨rfl, rfl, rfl, by decide +kernel, rfl, by decide +kernel, by decide +kernel⟩
  have n0 : PySem.W.findIn K (.ref (He.ga K "NotRegular")) "number" = some none := k.f _ (by simp)
  have o : FnOk P w K mg base CX0 1 (He.fAd K d_NotRegular_init.at_) fd ["self", "number"] (Lf.spIni1 (He.ga K "NotRegular") "number") := Lf.ini1_ok k.c.o n0 F sc
  have b : L2.Binds K fd ["self", "number"] [] := F.bindsN fun _ _ _ _ _ _ us hl => match us, hl with | [_, _], _ => rfl
  have g : mg "NotRegular" = some (.ref (He.ga K "NotRegular")) := T.gl 10 "NotRegular" rfl
  exact ⟨g, k.c, n0, tl_NotRegular T, _, fd, k.i, k.t, o, b⟩
theorem is_NotRegular (T : Txt P w K mg base) : IsE K "NotRegular" := isB_ok (T.ini 8 (p := ("NotRegular", ["number"])) rfl).2
theorem tl_NoPoints (T : Txt P w K mg base) : Lf.Tells P w K mg base (He.ga K "NoPoints") "refused nopoints" := by
  obtain ⟨fd, F⟩ := T.d.def_ 20 (d := d_NoPoints_told) rfl
  have m : Meth K (He.ga K "NoPoints") "told" (He.ma K (He.ga K "NoPoints") "told") := He.meth_ok (T.d.fact 55 (f := .meth "NoPoints" "told") rfl)
  have sc : FnScope ["self"] ["self"] d_NoPoints_told.scope := ⟨rfl, rfl, rfl, by decide +kernel, rfl, by decide +kernel, by decide +kernel⟩
  have o : FnOk P w K mg base CX0 1 (He.fAd K d_NoPoints_told.at_) fd ["self"] (Lf.spTold "refused nopoints") := Lf.told_ok F sc
  have b : L2.Binds K fd ["self"] [] := F.bindsN fun _ _ _ _ _ _ us hl => match us, hl with | [_], _ => rfl
  exact ⟨_, fd, m, o, b⟩
theorem er_NoPoints (T : Txt P w K mg base) : Lf.Err0 P w K mg base "NoPoints" "refused nopoints" :=
  ⟨T.gl 11 "NoPoints" rfl, Lf.errB_ok (T.bar 1 (x := "NoPoints") rfl).1, (He.exc_ok (T.d.fact 84 (f := .exc "NoPoints") rfl)).1, tl_NoPoints T⟩
theorem is_NoPoints (T : Txt P w K mg base) : IsE K "NoPoints" := isB_ok (T.bar 1 (x := "NoPoints") rfl).2
theorem tl_NoMaps (T : Txt P w K mg base) : Lf.Tells P w K mg base (He.ga K "NoMaps") "refused nomaps" := by
  obtain ⟨fd, F⟩ := T.d.def_ 22 (d := d_NoMaps_told) rfl
  have m : Meth K (He.ga K "NoMaps") "told" (He.ma K (He.ga K "NoMaps") "told") := He.meth_ok (T.d.fact 56 (f := .meth "NoMaps" "told") rfl)
  have sc : FnScope ["self"] ["self"] d_NoMaps_told.scope := ⟨rfl, rfl, rfl, by decide +kernel, rfl, by decide +kernel, by decide +kernel⟩
  have o : FnOk P w K mg base CX0 1 (He.fAd K d_NoMaps_told.at_) fd ["self"] (Lf.spTold "refused nomaps") := Lf.told_ok F sc
  have b : L2.Binds K fd ["self"] [] := F.bindsN fun _ _ _ _ _ _ us hl => match us, hl with | [_], _ => rfl
  exact ⟨_, fd, m, o, b⟩
theorem er_NoMaps (T : Txt P w K mg base) : Lf.Err1 P w K mg base "NoMaps" "place" "refused nomaps" := by
  have k : IniK K ("NoMaps", ["place"]) := iniB_ok (T.ini 9).1
  obtain ⟨fd, F⟩ := T.d.def_ 21 (d := d_NoMaps_init) rfl
  have sc : FnScope ["self", "place"] ["self", "place"] d_NoMaps_init.scope := ⟨rfl, rfl, rfl, by decide +kernel, rfl, by decide +kernel, by decide +kernel⟩
  have n0 : PySem.W.findIn K (.ref (He.ga K "NoMaps")) "place" = some none := k.f _ (by simp)
  have o : FnOk P w K mg base CX0 1 (He.fAd K d_NoMaps_init.at_) fd ["self", "place"] (Lf.spIni1 (He.ga K "NoMaps") "place") := Lf.ini1_ok k.c.o n0 F sc
  have b : L2.Binds K fd ["self", "place"] [] := F.bindsN fun _ _ _ _ _ _ us hl => match us, hl with | [_, _], _ => rfl
  have g : mg "NoMaps" = some (.ref (He.ga K "NoMaps")) := T.gl 12 "NoMaps" rfl
  exact ⟨g, k.c, n0, tl_NoMaps T, _, fd, k.i, k.t, o, b⟩
theorem is_NoMaps (T : Txt P w K mg base) : IsE K "NoMaps" := isB_ok (T.ini 9 (p := ("NoMaps", ["place"])) rfl).2
theorem tl_NoGreat (T : Txt P w K mg base) : Lf.Tells P w K mg base (He.ga K "NoGreat") "refused nogreat" := by
  obtain ⟨fd, F⟩ := T.d.def_ 23 (d := d_NoGreat_told) rfl
  have m : Meth K (He.ga K "NoGreat") "told" (He.ma K (He.ga K "NoGreat") "told") := He.meth_ok (T.d.fact 57 (f := .meth "NoGreat" "told") rfl)
  have sc : FnScope ["self"] ["self"] d_NoGreat_told.scope := ⟨rfl, rfl, rfl, by decide +kernel, rfl, by decide +kernel, by decide +kernel⟩
  have o : FnOk P w K mg base CX0 1 (He.fAd K d_NoGreat_told.at_) fd ["self"] (Lf.spTold "refused nogreat") := Lf.told_ok F sc
  have b : L2.Binds K fd ["self"] [] := F.bindsN fun _ _ _ _ _ _ us hl => match us, hl with | [_], _ => rfl
  exact ⟨_, fd, m, o, b⟩
theorem er_NoGreat (T : Txt P w K mg base) : Lf.Err0 P w K mg base "NoGreat" "refused nogreat" :=
  ⟨T.gl 13 "NoGreat" rfl, Lf.errB_ok (T.bar 2 (x := "NoGreat") rfl).1, (He.exc_ok (T.d.fact 85 (f := .exc "NoGreat") rfl)).1, tl_NoGreat T⟩
theorem is_NoGreat (T : Txt P w K mg base) : IsE K "NoGreat" := isB_ok (T.bar 2 (x := "NoGreat") rfl).2
theorem tl_NoSteps (T : Txt P w K mg base) : Lf.Tells P w K mg base (He.ga K "NoSteps") "refused nosteps" := by
  obtain ⟨fd, F⟩ := T.d.def_ 25 (d := d_NoSteps_told) rfl
  have m : Meth K (He.ga K "NoSteps") "told" (He.ma K (He.ga K "NoSteps") "told") := He.meth_ok (T.d.fact 58 (f := .meth "NoSteps" "told") rfl)
  have sc : FnScope ["self"] ["self"] d_NoSteps_told.scope := ⟨rfl, rfl, rfl, by decide +kernel, rfl, by decide +kernel, by decide +kernel⟩
  have o : FnOk P w K mg base CX0 1 (He.fAd K d_NoSteps_told.at_) fd ["self"] (Lf.spTold "refused nosteps") := Lf.told_ok F sc
  have b : L2.Binds K fd ["self"] [] := F.bindsN fun _ _ _ _ _ _ us hl => match us, hl with | [_], _ => rfl
  exact ⟨_, fd, m, o, b⟩
theorem er_NoSteps (T : Txt P w K mg base) : Lf.Err1 P w K mg base "NoSteps" "place" "refused nosteps" := by
  have k : IniK K ("NoSteps", ["place"]) := iniB_ok (T.ini 10).1
  obtain ⟨fd, F⟩ := T.d.def_ 24 (d := d_NoSteps_init) rfl
  have sc : FnScope ["self", "place"] ["self", "place"] d_NoSteps_init.scope := ⟨rfl, rfl, rfl, by decide +kernel, rfl, by decide +kernel, by decide +kernel⟩
  have n0 : PySem.W.findIn K (.ref (He.ga K "NoSteps")) "place" = some none := k.f _ (by simp)
  have o : FnOk P w K mg base CX0 1 (He.fAd K d_NoSteps_init.at_) fd ["self", "place"] (Lf.spIni1 (He.ga K "NoSteps") "place") := Lf.ini1_ok k.c.o n0 F sc
  have b : L2.Binds K fd ["self", "place"] [] := F.bindsN fun _ _ _ _ _ _ us hl => match us, hl with | [_, _], _ => rfl
  have g : mg "NoSteps" = some (.ref (He.ga K "NoSteps")) := T.gl 14 "NoSteps" rfl
  exact ⟨g, k.c, n0, tl_NoSteps T, _, fd, k.i, k.t, o, b⟩
theorem is_NoSteps (T : Txt P w K mg base) : IsE K "NoSteps" := isB_ok (T.ini 10 (p := ("NoSteps", ["place"])) rfl).2
theorem tl_NoRank (T : Txt P w K mg base) : Lf.Tells P w K mg base (He.ga K "NoRank") "refused norank" := by
  obtain ⟨fd, F⟩ := T.d.def_ 26 (d := d_NoRank_told) rfl
  have m : Meth K (He.ga K "NoRank") "told" (He.ma K (He.ga K "NoRank") "told") := He.meth_ok (T.d.fact 59 (f := .meth "NoRank" "told") rfl)
  have sc : FnScope ["self"] ["self"] d_NoRank_told.scope := ⟨rfl, rfl, rfl, by decide +kernel, rfl, by decide +kernel, by decide +kernel⟩
  have o : FnOk P w K mg base CX0 1 (He.fAd K d_NoRank_told.at_) fd ["self"] (Lf.spTold "refused norank") := Lf.told_ok F sc
  have b : L2.Binds K fd ["self"] [] := F.bindsN fun _ _ _ _ _ _ us hl => match us, hl with | [_], _ => rfl
  exact ⟨_, fd, m, o, b⟩
theorem er_NoRank (T : Txt P w K mg base) : Lf.Err0 P w K mg base "NoRank" "refused norank" :=
  ⟨T.gl 15 "NoRank" rfl, Lf.errB_ok (T.bar 3 (x := "NoRank") rfl).1, (He.exc_ok (T.d.fact 86 (f := .exc "NoRank") rfl)).1, tl_NoRank T⟩
theorem is_NoRank (T : Txt P w K mg base) : IsE K "NoRank" := isB_ok (T.bar 3 (x := "NoRank") rfl).2
theorem tl_NoSet (T : Txt P w K mg base) : Lf.Tells P w K mg base (He.ga K "NoSet") "refused noset" := by
  obtain ⟨fd, F⟩ := T.d.def_ 27 (d := d_NoSet_told) rfl
  have m : Meth K (He.ga K "NoSet") "told" (He.ma K (He.ga K "NoSet") "told") := He.meth_ok (T.d.fact 60 (f := .meth "NoSet" "told") rfl)
  have sc : FnScope ["self"] ["self"] d_NoSet_told.scope := ⟨rfl, rfl, rfl, by decide +kernel, rfl, by decide +kernel, by decide +kernel⟩
  have o : FnOk P w K mg base CX0 1 (He.fAd K d_NoSet_told.at_) fd ["self"] (Lf.spTold "refused noset") := Lf.told_ok F sc
  have b : L2.Binds K fd ["self"] [] := F.bindsN fun _ _ _ _ _ _ us hl => match us, hl with | [_], _ => rfl
  exact ⟨_, fd, m, o, b⟩
theorem er_NoSet (T : Txt P w K mg base) : Lf.Err0 P w K mg base "NoSet" "refused noset" :=
  ⟨T.gl 16 "NoSet" rfl, Lf.errB_ok (T.bar 4 (x := "NoSet") rfl).1, (He.exc_ok (T.d.fact 87 (f := .exc "NoSet") rfl)).1, tl_NoSet T⟩
theorem is_NoSet (T : Txt P w K mg base) : IsE K "NoSet" := isB_ok (T.bar 4 (x := "NoSet") rfl).2
theorem tl_NoMap (T : Txt P w K mg base) : Lf.Tells P w K mg base (He.ga K "NoMap") "refused nomap" := by
  obtain ⟨fd, F⟩ := T.d.def_ 28 (d := d_NoMap_told) rfl
  have m : Meth K (He.ga K "NoMap") "told" (He.ma K (He.ga K "NoMap") "told") := He.meth_ok (T.d.fact 61 (f := .meth "NoMap" "told") rfl)
  have sc : FnScope ["self"] ["self"] d_NoMap_told.scope := ⟨rfl, rfl, rfl, by decide +kernel, rfl, by decide +kernel, by decide +kernel⟩
  have o : FnOk P w K mg base CX0 1 (He.fAd K d_NoMap_told.at_) fd ["self"] (Lf.spTold "refused nomap") := Lf.told_ok F sc
  have b : L2.Binds K fd ["self"] [] := F.bindsN fun _ _ _ _ _ _ us hl => match us, hl with | [_], _ => rfl
  exact ⟨_, fd, m, o, b⟩
theorem er_NoMap (T : Txt P w K mg base) : Lf.Err0 P w K mg base "NoMap" "refused nomap" :=
  ⟨T.gl 17 "NoMap" rfl, Lf.errB_ok (T.bar 5 (x := "NoMap") rfl).1, (He.exc_ok (T.d.fact 88 (f := .exc "NoMap") rfl)).1, tl_NoMap T⟩
theorem is_NoMap (T : Txt P w K mg base) : IsE K "NoMap" := isB_ok (T.bar 5 (x := "NoMap") rfl).2
theorem tl_NotThere (T : Txt P w K mg base) : Lf.Tells P w K mg base (He.ga K "NotThere") "refused notthere" := by
  obtain ⟨fd, F⟩ := T.d.def_ 29 (d := d_NotThere_told) rfl
  have m : Meth K (He.ga K "NotThere") "told" (He.ma K (He.ga K "NotThere") "told") := He.meth_ok (T.d.fact 62 (f := .meth "NotThere" "told") rfl)
  have sc : FnScope ["self"] ["self"] d_NotThere_told.scope := ⟨rfl, rfl, rfl, by decide +kernel, rfl, by decide +kernel, by decide +kernel⟩
  have o : FnOk P w K mg base CX0 1 (He.fAd K d_NotThere_told.at_) fd ["self"] (Lf.spTold "refused notthere") := Lf.told_ok F sc
  have b : L2.Binds K fd ["self"] [] := F.bindsN fun _ _ _ _ _ _ us hl => match us, hl with | [_], _ => rfl
  exact ⟨_, fd, m, o, b⟩
theorem er_NotThere (T : Txt P w K mg base) : Lf.Err0 P w K mg base "NotThere" "refused notthere" :=
  ⟨T.gl 18 "NotThere" rfl, Lf.errB_ok (T.bar 6 (x := "NotThere") rfl).1, (He.exc_ok (T.d.fact 89 (f := .exc "NotThere") rfl)).1, tl_NotThere T⟩
theorem is_NotThere (T : Txt P w K mg base) : IsE K "NotThere" := isB_ok (T.bar 6 (x := "NotThere") rfl).2
theorem tl_NoPlace (T : Txt P w K mg base) : Lf.Tells P w K mg base (He.ga K "NoPlace") "refused noplace" := by
  obtain ⟨fd, F⟩ := T.d.def_ 30 (d := d_NoPlace_told) rfl
  have m : Meth K (He.ga K "NoPlace") "told" (He.ma K (He.ga K "NoPlace") "told") := He.meth_ok (T.d.fact 63 (f := .meth "NoPlace" "told") rfl)
  have sc : FnScope ["self"] ["self"] d_NoPlace_told.scope := ⟨rfl, rfl, rfl, by decide +kernel, rfl, by decide +kernel, by decide +kernel⟩
  have o : FnOk P w K mg base CX0 1 (He.fAd K d_NoPlace_told.at_) fd ["self"] (Lf.spTold "refused noplace") := Lf.told_ok F sc
  have b : L2.Binds K fd ["self"] [] := F.bindsN fun _ _ _ _ _ _ us hl => match us, hl with | [_], _ => rfl
  exact ⟨_, fd, m, o, b⟩
theorem er_NoPlace (T : Txt P w K mg base) : Lf.Err0 P w K mg base "NoPlace" "refused noplace" :=
  ⟨T.gl 19 "NoPlace" rfl, Lf.errB_ok (T.bar 7 (x := "NoPlace") rfl).1, (He.exc_ok (T.d.fact 90 (f := .exc "NoPlace") rfl)).1, tl_NoPlace T⟩
theorem is_NoPlace (T : Txt P w K mg base) : IsE K "NoPlace" := isB_ok (T.bar 7 (x := "NoPlace") rfl).2
theorem tl_NoPoint (T : Txt P w K mg base) : Lf.Tells P w K mg base (He.ga K "NoPoint") "refused nopoint" := by
  obtain ⟨fd, F⟩ := T.d.def_ 31 (d := d_NoPoint_told) rfl
  have m : Meth K (He.ga K "NoPoint") "told" (He.ma K (He.ga K "NoPoint") "told") := He.meth_ok (T.d.fact 64 (f := .meth "NoPoint" "told") rfl)
  have sc : FnScope ["self"] ["self"] d_NoPoint_told.scope := ⟨rfl, rfl, rfl, by decide +kernel, rfl, by decide +kernel, by decide +kernel⟩
  have o : FnOk P w K mg base CX0 1 (He.fAd K d_NoPoint_told.at_) fd ["self"] (Lf.spTold "refused nopoint") := Lf.told_ok F sc
  have b : L2.Binds K fd ["self"] [] := F.bindsN fun _ _ _ _ _ _ us hl => match us, hl with | [_], _ => rfl
  exact ⟨_, fd, m, o, b⟩
theorem er_NoPoint (T : Txt P w K mg base) : Lf.Err0 P w K mg base "NoPoint" "refused nopoint" :=
  ⟨T.gl 20 "NoPoint" rfl, Lf.errB_ok (T.bar 8 (x := "NoPoint") rfl).1, (He.exc_ok (T.d.fact 91 (f := .exc "NoPoint") rfl)).1, tl_NoPoint T⟩
theorem is_NoPoint (T : Txt P w K mg base) : IsE K "NoPoint" := isB_ok (T.bar 8 (x := "NoPoint") rfl).2
theorem tl_NoPairs (T : Txt P w K mg base) : Lf.Tells P w K mg base (He.ga K "NoPairs") "refused nopairs" := by
  obtain ⟨fd, F⟩ := T.d.def_ 33 (d := d_NoPairs_told) rfl
  have m : Meth K (He.ga K "NoPairs") "told" (He.ma K (He.ga K "NoPairs") "told") := He.meth_ok (T.d.fact 65 (f := .meth "NoPairs" "told") rfl)
  have sc : FnScope ["self"] ["self"] d_NoPairs_told.scope := ⟨rfl, rfl, rfl, by decide +kernel, rfl, by decide +kernel, by decide +kernel⟩
  have o : FnOk P w K mg base CX0 1 (He.fAd K d_NoPairs_told.at_) fd ["self"] (Lf.spTold "refused nopairs") := Lf.told_ok F sc
  have b : L2.Binds K fd ["self"] [] := F.bindsN fun _ _ _ _ _ _ us hl => match us, hl with | [_], _ => rfl
  exact ⟨_, fd, m, o, b⟩
theorem er_NoPairs (T : Txt P w K mg base) : Lf.Err1 P w K mg base "NoPairs" "place" "refused nopairs" := by
  have k : IniK K ("NoPairs", ["place"]) := iniB_ok (T.ini 11).1
  obtain ⟨fd, F⟩ := T.d.def_ 32 (d := d_NoPairs_init) rfl
  have sc : FnScope ["self", "place"] ["self", "place"] d_NoPairs_init.scope := ⟨rfl, rfl, rfl, by decide +kernel, rfl, by decide +kernel, by decide +kernel⟩
  have n0 : PySem.W.findIn K (.ref (He.ga K "NoPairs")) "place" = some none := k.f _ (by simp)
  have o : FnOk P w K mg base CX0 1 (He.fAd K d_NoPairs_init.at_) fd ["self", "place"] (Lf.spIni1 (He.ga K "NoPairs") "place") := Lf.ini1_ok k.c.o n0 F sc
  have b : L2.Binds K fd ["self", "place"] [] := F.bindsN fun _ _ _ _ _ _ us hl => match us, hl with | [_, _], _ => rfl
  have g : mg "NoPairs" = some (.ref (He.ga K "NoPairs")) := T.gl 21 "NoPairs" rfl
  exact ⟨g, k.c, n0, tl_NoPairs T, _, fd, k.i, k.t, o, b⟩
theorem is_NoPairs (T : Txt P w K mg base) : IsE K "NoPairs" := isB_ok (T.ini 11 (p := ("NoPairs", ["place"])) rfl).2
theorem tl_OtherLetters (T : Txt P w K mg base) : Lf.Tells P w K mg base (He.ga K "OtherLetters") "refused otherletters" := by
  obtain ⟨fd, F⟩ := T.d.def_ 34 (d := d_OtherLetters_told) rfl
  have m : Meth K (He.ga K "OtherLetters") "told" (He.ma K (He.ga K "OtherLetters") "told") := He.meth_ok (T.d.fact 66 (f := .meth "OtherLetters" "told") rfl)
  have sc : FnScope ["self"] ["self"] d_OtherLetters_told.scope := ⟨rfl, rfl, rfl, by decide +kernel, rfl, by decide +kernel, by decide +kernel⟩
  have o : FnOk P w K mg base CX0 1 (He.fAd K d_OtherLetters_told.at_) fd ["self"] (Lf.spTold "refused otherletters") := Lf.told_ok F sc
  have b : L2.Binds K fd ["self"] [] := F.bindsN fun _ _ _ _ _ _ us hl => match us, hl with | [_], _ => rfl
  exact ⟨_, fd, m, o, b⟩
theorem er_OtherLetters (T : Txt P w K mg base) : Lf.Err0 P w K mg base "OtherLetters" "refused otherletters" :=
  ⟨T.gl 22 "OtherLetters" rfl, Lf.errB_ok (T.bar 9 (x := "OtherLetters") rfl).1, (He.exc_ok (T.d.fact 92 (f := .exc "OtherLetters") rfl)).1, tl_OtherLetters T⟩
theorem is_OtherLetters (T : Txt P w K mg base) : IsE K "OtherLetters" := isB_ok (T.bar 9 (x := "OtherLetters") rfl).2
theorem tl_Unfinished (T : Txt P w K mg base) : Lf.Tells P w K mg base (He.ga K "Unfinished") "refused unfinished" := by
  obtain ⟨fd, F⟩ := T.d.def_ 35 (d := d_Unfinished_told) rfl
  have m : Meth K (He.ga K "Unfinished") "told" (He.ma K (He.ga K "Unfinished") "told") := He.meth_ok (T.d.fact 67 (f := .meth "Unfinished" "told") rfl)
  have sc : FnScope ["self"] ["self"] d_Unfinished_told.scope := ⟨rfl, rfl, rfl, by decide +kernel, rfl, by decide +kernel, by decide +kernel⟩
  have o : FnOk P w K mg base CX0 1 (He.fAd K d_Unfinished_told.at_) fd ["self"] (Lf.spTold "refused unfinished") := Lf.told_ok F sc
  have b : L2.Binds K fd ["self"] [] := F.bindsN fun _ _ _ _ _ _ us hl => match us, hl with | [_], _ => rfl
  exact ⟨_, fd, m, o, b⟩
theorem er_Unfinished (T : Txt P w K mg base) : Lf.Err0 P w K mg base "Unfinished" "refused unfinished" :=
  ⟨T.gl 23 "Unfinished" rfl, Lf.errB_ok (T.bar 10 (x := "Unfinished") rfl).1, (He.exc_ok (T.d.fact 93 (f := .exc "Unfinished") rfl)).1, tl_Unfinished T⟩
theorem is_Unfinished (T : Txt P w K mg base) : IsE K "Unfinished" := isB_ok (T.bar 10 (x := "Unfinished") rfl).2
theorem tl_Endless (T : Txt P w K mg base) : Lf.Tells P w K mg base (He.ga K "Endless") "refused endless" := by
  obtain ⟨fd, F⟩ := T.d.def_ 36 (d := d_Endless_told) rfl
  have m : Meth K (He.ga K "Endless") "told" (He.ma K (He.ga K "Endless") "told") := He.meth_ok (T.d.fact 68 (f := .meth "Endless" "told") rfl)
  have sc : FnScope ["self"] ["self"] d_Endless_told.scope := ⟨rfl, rfl, rfl, by decide +kernel, rfl, by decide +kernel, by decide +kernel⟩
  have o : FnOk P w K mg base CX0 1 (He.fAd K d_Endless_told.at_) fd ["self"] (Lf.spTold "refused endless") := Lf.told_ok F sc
  have b : L2.Binds K fd ["self"] [] := F.bindsN fun _ _ _ _ _ _ us hl => match us, hl with | [_], _ => rfl
  exact ⟨_, fd, m, o, b⟩
theorem er_Endless (T : Txt P w K mg base) : Lf.Err0 P w K mg base "Endless" "refused endless" :=
  ⟨T.gl 24 "Endless" rfl, Lf.errB_ok (T.bar 11 (x := "Endless") rfl).1, (He.exc_ok (T.d.fact 94 (f := .exc "Endless") rfl)).1, tl_Endless T⟩
theorem is_Endless (T : Txt P w K mg base) : IsE K "Endless" := isB_ok (T.bar 11 (x := "Endless") rfl).2
theorem tl_NoCongruence (T : Txt P w K mg base) : Lf.Tells P w K mg base (He.ga K "NoCongruence") "refused nocongruence" := by
  obtain ⟨fd, F⟩ := T.d.def_ 37 (d := d_NoCongruence_told) rfl
  have m : Meth K (He.ga K "NoCongruence") "told" (He.ma K (He.ga K "NoCongruence") "told") := He.meth_ok (T.d.fact 69 (f := .meth "NoCongruence" "told") rfl)
  have sc : FnScope ["self"] ["self"] d_NoCongruence_told.scope := ⟨rfl, rfl, rfl, by decide +kernel, rfl, by decide +kernel, by decide +kernel⟩
  have o : FnOk P w K mg base CX0 1 (He.fAd K d_NoCongruence_told.at_) fd ["self"] (Lf.spTold "refused nocongruence") := Lf.told_ok F sc
  have b : L2.Binds K fd ["self"] [] := F.bindsN fun _ _ _ _ _ _ us hl => match us, hl with | [_], _ => rfl
  exact ⟨_, fd, m, o, b⟩
theorem er_NoCongruence (T : Txt P w K mg base) : Lf.Err0 P w K mg base "NoCongruence" "refused nocongruence" :=
  ⟨T.gl 25 "NoCongruence" rfl, Lf.errB_ok (T.bar 12 (x := "NoCongruence") rfl).1, (He.exc_ok (T.d.fact 95 (f := .exc "NoCongruence") rfl)).1, tl_NoCongruence T⟩
theorem is_NoCongruence (T : Txt P w K mg base) : IsE K "NoCongruence" := isB_ok (T.bar 12 (x := "NoCongruence") rfl).2
theorem tl_NoParts (T : Txt P w K mg base) : Lf.Tells P w K mg base (He.ga K "NoParts") "refused noparts" := by
  obtain ⟨fd, F⟩ := T.d.def_ 38 (d := d_NoParts_told) rfl
  have m : Meth K (He.ga K "NoParts") "told" (He.ma K (He.ga K "NoParts") "told") := He.meth_ok (T.d.fact 70 (f := .meth "NoParts" "told") rfl)
  have sc : FnScope ["self"] ["self"] d_NoParts_told.scope := ⟨rfl, rfl, rfl, by decide +kernel, rfl, by decide +kernel, by decide +kernel⟩
  have o : FnOk P w K mg base CX0 1 (He.fAd K d_NoParts_told.at_) fd ["self"] (Lf.spTold "refused noparts") := Lf.told_ok F sc
  have b : L2.Binds K fd ["self"] [] := F.bindsN fun _ _ _ _ _ _ us hl => match us, hl with | [_], _ => rfl
  exact ⟨_, fd, m, o, b⟩
theorem er_NoParts (T : Txt P w K mg base) : Lf.Err0 P w K mg base "NoParts" "refused noparts" :=
  ⟨T.gl 26 "NoParts" rfl, Lf.errB_ok (T.bar 13 (x := "NoParts") rfl).1, (He.exc_ok (T.d.fact 96 (f := .exc "NoParts") rfl)).1, tl_NoParts T⟩
theorem is_NoParts (T : Txt P w K mg base) : IsE K "NoParts" := isB_ok (T.bar 13 (x := "NoParts") rfl).2
theorem tl_NoNumbers (T : Txt P w K mg base) : Lf.Tells P w K mg base (He.ga K "NoNumbers") "refused nonumbers" := by
  obtain ⟨fd, F⟩ := T.d.def_ 40 (d := d_NoNumbers_told) rfl
  have m : Meth K (He.ga K "NoNumbers") "told" (He.ma K (He.ga K "NoNumbers") "told") := He.meth_ok (T.d.fact 71 (f := .meth "NoNumbers" "told") rfl)
  have sc : FnScope ["self"] ["self"] d_NoNumbers_told.scope := ⟨rfl, rfl, rfl, by decide +kernel, rfl, by decide +kernel, by decide +kernel⟩
  have o : FnOk P w K mg base CX0 1 (He.fAd K d_NoNumbers_told.at_) fd ["self"] (Lf.spTold "refused nonumbers") := Lf.told_ok F sc
  have b : L2.Binds K fd ["self"] [] := F.bindsN fun _ _ _ _ _ _ us hl => match us, hl with | [_], _ => rfl
  exact ⟨_, fd, m, o, b⟩
theorem er_NoNumbers (T : Txt P w K mg base) : Lf.Err1 P w K mg base "NoNumbers" "place" "refused nonumbers" := by
  have k : IniK K ("NoNumbers", ["place"]) := iniB_ok (T.ini 12).1
  obtain ⟨fd, F⟩ := T.d.def_ 39 (d := d_NoNumbers_init) rfl
  have sc : FnScope ["self", "place"] ["self", "place"] d_NoNumbers_init.scope := ⟨rfl, rfl, rfl, by decide +kernel, rfl, by decide +kernel, by decide +kernel⟩
  have n0 : PySem.W.findIn K (.ref (He.ga K "NoNumbers")) "place" = some none := k.f _ (by simp)
  have o : FnOk P w K mg base CX0 1 (He.fAd K d_NoNumbers_init.at_) fd ["self", "place"] (Lf.spIni1 (He.ga K "NoNumbers") "place") := Lf.ini1_ok k.c.o n0 F sc
  have b : L2.Binds K fd ["self", "place"] [] := F.bindsN fun _ _ _ _ _ _ us hl => match us, hl with | [_, _], _ => rfl
  have g : mg "NoNumbers" = some (.ref (He.ga K "NoNumbers")) := T.gl 27 "NoNumbers" rfl
  exact ⟨g, k.c, n0, tl_NoNumbers T, _, fd, k.i, k.t, o, b⟩
theorem is_NoNumbers (T : Txt P w K mg base) : IsE K "NoNumbers" := isB_ok (T.ini 12 (p := ("NoNumbers", ["place"])) rfl).2
theorem tl_Broken (T : Txt P w K mg base) : Lf.Tells P w K mg base (He.ga K "Broken") "refused broken" := by
  obtain ⟨fd, F⟩ := T.d.def_ 42 (d := d_Broken_told) rfl
  have m : Meth K (He.ga K "Broken") "told" (He.ma K (He.ga K "Broken") "told") := He.meth_ok (T.d.fact 72 (f := .meth "Broken" "told") rfl)
  have sc : FnScope ["self"] ["self"] d_Broken_told.scope := ⟨rfl, rfl, rfl, by decide +kernel, rfl, by decide +kernel, by decide +kernel⟩
  have o : FnOk P w K mg base CX0 1 (He.fAd K d_Broken_told.at_) fd ["self"] (Lf.spTold "refused broken") := Lf.told_ok F sc
  have b : L2.Binds K fd ["self"] [] := F.bindsN fun _ _ _ _ _ _ us hl => match us, hl with | [_], _ => rfl
  exact ⟨_, fd, m, o, b⟩
theorem er_Broken (T : Txt P w K mg base) : Lf.Err2 P w K mg base "Broken" "first" "second" "refused broken" := by
  have k : IniK K ("Broken", ["first", "second"]) := iniB_ok (T.ini 13).1
  obtain ⟨fd, F⟩ := T.d.def_ 41 (d := d_Broken_init) rfl
  have sc : FnScope ["self", "first", "second"] ["self", "first", "second"] d_Broken_init.scope := ⟨rfl, rfl, rfl, by decide +kernel, rfl, by decide +kernel, by decide +kernel⟩
  have n0 : PySem.W.findIn K (.ref (He.ga K "Broken")) "first" = some none := k.f _ (by simp)
  have n1 : PySem.W.findIn K (.ref (He.ga K "Broken")) "second" = some none := k.f _ (by simp)
  have o : FnOk P w K mg base CX0 1 (He.fAd K d_Broken_init.at_) fd ["self", "first", "second"] (Lf.spIni2 (He.ga K "Broken") "first" "second") := Lf.ini2_ok k.c.o n0 n1 F sc
  have b : L2.Binds K fd ["self", "first", "second"] [] := F.bindsN fun _ _ _ _ _ _ us hl => match us, hl with | [_, _, _], _ => rfl
  have g : mg "Broken" = some (.ref (He.ga K "Broken")) := T.gl 28 "Broken" rfl
  exact ⟨g, k.c, n0, n1, tl_Broken T, _, fd, k.i, k.t, o, b⟩
theorem is_Broken (T : Txt P w K mg base) : IsE K "Broken" := isB_ok (T.ini 13 (p := ("Broken", ["first", "second"])) rfl).2
theorem tl_NoAutomaton (T : Txt P w K mg base) : Lf.Tells P w K mg base (He.ga K "NoAutomaton") "refused noautomaton" := by
  obtain ⟨fd, F⟩ := T.d.def_ 44 (d := d_NoAutomaton_told) rfl
  have m : Meth K (He.ga K "NoAutomaton") "told" (He.ma K (He.ga K "NoAutomaton") "told") := He.meth_ok (T.d.fact 73 (f := .meth "NoAutomaton" "told") rfl)
  have sc : FnScope ["self"] ["self"] d_NoAutomaton_told.scope := ⟨rfl, rfl, rfl, by decide +kernel, rfl, by decide +kernel, by decide +kernel⟩
  have o : FnOk P w K mg base CX0 1 (He.fAd K d_NoAutomaton_told.at_) fd ["self"] (Lf.spTold "refused noautomaton") := Lf.told_ok F sc
  have b : L2.Binds K fd ["self"] [] := F.bindsN fun _ _ _ _ _ _ us hl => match us, hl with | [_], _ => rfl
  exact ⟨_, fd, m, o, b⟩
theorem er_NoAutomaton (T : Txt P w K mg base) : Lf.Err1 P w K mg base "NoAutomaton" "what" "refused noautomaton" := by
  have k : IniK K ("NoAutomaton", ["what"]) := iniB_ok (T.ini 14).1
  obtain ⟨fd, F⟩ := T.d.def_ 43 (d := d_NoAutomaton_init) rfl
  have sc : FnScope ["self", "what"] ["self", "what"] d_NoAutomaton_init.scope := ⟨rfl, rfl, rfl, by decide +kernel, rfl, by decide +kernel, by decide +kernel⟩
  have n0 : PySem.W.findIn K (.ref (He.ga K "NoAutomaton")) "what" = some none := k.f _ (by simp)
  have o : FnOk P w K mg base CX0 1 (He.fAd K d_NoAutomaton_init.at_) fd ["self", "what"] (Lf.spIni1 (He.ga K "NoAutomaton") "what") := Lf.ini1_ok k.c.o n0 F sc
  have b : L2.Binds K fd ["self", "what"] [] := F.bindsN fun _ _ _ _ _ _ us hl => match us, hl with | [_, _], _ => rfl
  have g : mg "NoAutomaton" = some (.ref (He.ga K "NoAutomaton")) := T.gl 29 "NoAutomaton" rfl
  exact ⟨g, k.c, n0, tl_NoAutomaton T, _, fd, k.i, k.t, o, b⟩
theorem is_NoAutomaton (T : Txt P w K mg base) : IsE K "NoAutomaton" := isB_ok (T.ini 14 (p := ("NoAutomaton", ["what"])) rfl).2
theorem tl_NoLanguage (T : Txt P w K mg base) : Lf.Tells P w K mg base (He.ga K "NoLanguage") "refused nolanguage" := by
  obtain ⟨fd, F⟩ := T.d.def_ 45 (d := d_NoLanguage_told) rfl
  have m : Meth K (He.ga K "NoLanguage") "told" (He.ma K (He.ga K "NoLanguage") "told") := He.meth_ok (T.d.fact 74 (f := .meth "NoLanguage" "told") rfl)
  have sc : FnScope ["self"] ["self"] d_NoLanguage_told.scope := ⟨rfl, rfl, rfl, by decide +kernel, rfl, by decide +kernel, by decide +kernel⟩
  have o : FnOk P w K mg base CX0 1 (He.fAd K d_NoLanguage_told.at_) fd ["self"] (Lf.spTold "refused nolanguage") := Lf.told_ok F sc
  have b : L2.Binds K fd ["self"] [] := F.bindsN fun _ _ _ _ _ _ us hl => match us, hl with | [_], _ => rfl
  exact ⟨_, fd, m, o, b⟩
theorem er_NoLanguage (T : Txt P w K mg base) : Lf.Err0 P w K mg base "NoLanguage" "refused nolanguage" :=
  ⟨T.gl 30 "NoLanguage" rfl, Lf.errB_ok (T.bar 14 (x := "NoLanguage") rfl).1, (He.exc_ok (T.d.fact 97 (f := .exc "NoLanguage") rfl)).1, tl_NoLanguage T⟩
theorem is_NoLanguage (T : Txt P w K mg base) : IsE K "NoLanguage" := isB_ok (T.bar 14 (x := "NoLanguage") rfl).2
theorem tl_NoWay (T : Txt P w K mg base) : Lf.Tells P w K mg base (He.ga K "NoWay") "refused noway" := by
  obtain ⟨fd, F⟩ := T.d.def_ 47 (d := d_NoWay_told) rfl
  have m : Meth K (He.ga K "NoWay") "told" (He.ma K (He.ga K "NoWay") "told") := He.meth_ok (T.d.fact 75 (f := .meth "NoWay" "told") rfl)
  have sc : FnScope ["self"] ["self"] d_NoWay_told.scope := ⟨rfl, rfl, rfl, by decide +kernel, rfl, by decide +kernel, by decide +kernel⟩
  have o : FnOk P w K mg base CX0 1 (He.fAd K d_NoWay_told.at_) fd ["self"] (Lf.spTold "refused noway") := Lf.told_ok F sc
  have b : L2.Binds K fd ["self"] [] := F.bindsN fun _ _ _ _ _ _ us hl => match us, hl with | [_], _ => rfl
  exact ⟨_, fd, m, o, b⟩
theorem er_NoWay (T : Txt P w K mg base) : Lf.Err1 P w K mg base "NoWay" "way" "refused noway" := by
  have k : IniK K ("NoWay", ["way"]) := iniB_ok (T.ini 15).1
  obtain ⟨fd, F⟩ := T.d.def_ 46 (d := d_NoWay_init) rfl
  have sc : FnScope ["self", "way"] ["self", "way"] d_NoWay_init.scope := ⟨rfl, rfl, rfl, by decide +kernel, rfl, by decide +kernel, by decide +kernel⟩
  have n0 : PySem.W.findIn K (.ref (He.ga K "NoWay")) "way" = some none := k.f _ (by simp)
  have o : FnOk P w K mg base CX0 1 (He.fAd K d_NoWay_init.at_) fd ["self", "way"] (Lf.spIni1 (He.ga K "NoWay") "way") := Lf.ini1_ok k.c.o n0 F sc
  have b : L2.Binds K fd ["self", "way"] [] := F.bindsN fun _ _ _ _ _ _ us hl => match us, hl with | [_, _], _ => rfl
  have g : mg "NoWay" = some (.ref (He.ga K "NoWay")) := T.gl 31 "NoWay" rfl
  exact ⟨g, k.c, n0, tl_NoWay T, _, fd, k.i, k.t, o, b⟩
theorem is_NoWay (T : Txt P w K mg base) : IsE K "NoWay" := isB_ok (T.ini 15 (p := ("NoWay", ["way"])) rfl).2
theorem tl_NoNode (T : Txt P w K mg base) : Lf.Tells P w K mg base (He.ga K "NoNode") "refused nonode" := by
  obtain ⟨fd, F⟩ := T.d.def_ 49 (d := d_NoNode_told) rfl
  have m : Meth K (He.ga K "NoNode") "told" (He.ma K (He.ga K "NoNode") "told") := He.meth_ok (T.d.fact 76 (f := .meth "NoNode" "told") rfl)
  have sc : FnScope ["self"] ["self"] d_NoNode_told.scope := ⟨rfl, rfl, rfl, by decide +kernel, rfl, by decide +kernel, by decide +kernel⟩
  have o : FnOk P w K mg base CX0 1 (He.fAd K d_NoNode_told.at_) fd ["self"] (Lf.spTold "refused nonode") := Lf.told_ok F sc
  have b : L2.Binds K fd ["self"] [] := F.bindsN fun _ _ _ _ _ _ us hl => match us, hl with | [_], _ => rfl
  exact ⟨_, fd, m, o, b⟩
theorem er_NoNode (T : Txt P w K mg base) : Lf.Err1 P w K mg base "NoNode" "place" "refused nonode" := by
  have k : IniK K ("NoNode", ["place"]) := iniB_ok (T.ini 16).1
  obtain ⟨fd, F⟩ := T.d.def_ 48 (d := d_NoNode_init) rfl
  have sc : FnScope ["self", "place"] ["self", "place"] d_NoNode_init.scope := ⟨rfl, rfl, rfl, by decide +kernel, rfl, by decide +kernel, by decide +kernel⟩
  have n0 : PySem.W.findIn K (.ref (He.ga K "NoNode")) "place" = some none := k.f _ (by simp)
  have o : FnOk P w K mg base CX0 1 (He.fAd K d_NoNode_init.at_) fd ["self", "place"] (Lf.spIni1 (He.ga K "NoNode") "place") := Lf.ini1_ok k.c.o n0 F sc
  have b : L2.Binds K fd ["self", "place"] [] := F.bindsN fun _ _ _ _ _ _ us hl => match us, hl with | [_, _], _ => rfl
  have g : mg "NoNode" = some (.ref (He.ga K "NoNode")) := T.gl 32 "NoNode" rfl
  exact ⟨g, k.c, n0, tl_NoNode T, _, fd, k.i, k.t, o, b⟩
theorem is_NoNode (T : Txt P w K mg base) : IsE K "NoNode" := isB_ok (T.ini 16 (p := ("NoNode", ["place"])) rfl).2
theorem tl_LongWord (T : Txt P w K mg base) : Lf.Tells P w K mg base (He.ga K "LongWord") "refused longword" := by
  obtain ⟨fd, F⟩ := T.d.def_ 51 (d := d_LongWord_told) rfl
  have m : Meth K (He.ga K "LongWord") "told" (He.ma K (He.ga K "LongWord") "told") := He.meth_ok (T.d.fact 77 (f := .meth "LongWord" "told") rfl)
  have sc : FnScope ["self"] ["self"] d_LongWord_told.scope := ⟨rfl, rfl, rfl, by decide +kernel, rfl, by decide +kernel, by decide +kernel⟩
  have o : FnOk P w K mg base CX0 1 (He.fAd K d_LongWord_told.at_) fd ["self"] (Lf.spTold "refused longword") := Lf.told_ok F sc
  have b : L2.Binds K fd ["self"] [] := F.bindsN fun _ _ _ _ _ _ us hl => match us, hl with | [_], _ => rfl
  exact ⟨_, fd, m, o, b⟩
theorem er_LongWord (T : Txt P w K mg base) : Lf.Err1 P w K mg base "LongWord" "length" "refused longword" := by
  have k : IniK K ("LongWord", ["length"]) := iniB_ok (T.ini 17).1
  obtain ⟨fd, F⟩ := T.d.def_ 50 (d := d_LongWord_init) rfl
  have sc : FnScope ["self", "length"] ["self", "length"] d_LongWord_init.scope := ⟨rfl, rfl, rfl, by decide +kernel, rfl, by decide +kernel, by decide +kernel⟩
  have n0 : PySem.W.findIn K (.ref (He.ga K "LongWord")) "length" = some none := k.f _ (by simp)
  have o : FnOk P w K mg base CX0 1 (He.fAd K d_LongWord_init.at_) fd ["self", "length"] (Lf.spIni1 (He.ga K "LongWord") "length") := Lf.ini1_ok k.c.o n0 F sc
  have b : L2.Binds K fd ["self", "length"] [] := F.bindsN fun _ _ _ _ _ _ us hl => match us, hl with | [_, _], _ => rfl
  have g : mg "LongWord" = some (.ref (He.ga K "LongWord")) := T.gl 33 "LongWord" rfl
  exact ⟨g, k.c, n0, tl_LongWord T, _, fd, k.i, k.t, o, b⟩
theorem is_LongWord (T : Txt P w K mg base) : IsE K "LongWord" := isB_ok (T.ini 17 (p := ("LongWord", ["length"])) rfl).2
theorem tl_Counting (T : Txt P w K mg base) : Lf.Tells P w K mg base (He.ga K "Counting") "refused counting" := by
  obtain ⟨fd, F⟩ := T.d.def_ 53 (d := d_Counting_told) rfl
  have m : Meth K (He.ga K "Counting") "told" (He.ma K (He.ga K "Counting") "told") := He.meth_ok (T.d.fact 78 (f := .meth "Counting" "told") rfl)
  have sc : FnScope ["self"] ["self"] d_Counting_told.scope := ⟨rfl, rfl, rfl, by decide +kernel, rfl, by decide +kernel, by decide +kernel⟩
  have o : FnOk P w K mg base CX0 1 (He.fAd K d_Counting_told.at_) fd ["self"] (Lf.spTold "refused counting") := Lf.told_ok F sc
  have b : L2.Binds K fd ["self"] [] := F.bindsN fun _ _ _ _ _ _ us hl => match us, hl with | [_], _ => rfl
  exact ⟨_, fd, m, o, b⟩
theorem er_Counting (T : Txt P w K mg base) : Lf.Err2 P w K mg base "Counting" "word" "period" "refused counting" := by
  have k : IniK K ("Counting", ["word", "period"]) := iniB_ok (T.ini 18).1
  obtain ⟨fd, F⟩ := T.d.def_ 52 (d := d_Counting_init) rfl
  have sc : FnScope ["self", "word", "period"] ["self", "word", "period"] d_Counting_init.scope := ⟨rfl, rfl, rfl, by decide +kernel, rfl, by decide +kernel, by decide +kernel⟩
  have n0 : PySem.W.findIn K (.ref (He.ga K "Counting")) "word" = some none := k.f _ (by simp)
  have n1 : PySem.W.findIn K (.ref (He.ga K "Counting")) "period" = some none := k.f _ (by simp)
  have o : FnOk P w K mg base CX0 1 (He.fAd K d_Counting_init.at_) fd ["self", "word", "period"] (Lf.spIni2 (He.ga K "Counting") "word" "period") := Lf.ini2_ok k.c.o n0 n1 F sc
  have b : L2.Binds K fd ["self", "word", "period"] [] := F.bindsN fun _ _ _ _ _ _ us hl => match us, hl with | [_, _, _], _ => rfl
  have g : mg "Counting" = some (.ref (He.ga K "Counting")) := T.gl 34 "Counting" rfl
  exact ⟨g, k.c, n0, n1, tl_Counting T, _, fd, k.i, k.t, o, b⟩
theorem is_Counting (T : Txt P w K mg base) : IsE K "Counting" := isB_ok (T.ini 18 (p := ("Counting", ["word", "period"])) rfl).2
theorem tl_NoLength (T : Txt P w K mg base) : Lf.Tells P w K mg base (He.ga K "NoLength") "refused nolength" := by
  obtain ⟨fd, F⟩ := T.d.def_ 55 (d := d_NoLength_told) rfl
  have m : Meth K (He.ga K "NoLength") "told" (He.ma K (He.ga K "NoLength") "told") := He.meth_ok (T.d.fact 79 (f := .meth "NoLength" "told") rfl)
  have sc : FnScope ["self"] ["self"] d_NoLength_told.scope := ⟨rfl, rfl, rfl, by decide +kernel, rfl, by decide +kernel, by decide +kernel⟩
  have o : FnOk P w K mg base CX0 1 (He.fAd K d_NoLength_told.at_) fd ["self"] (Lf.spTold "refused nolength") := Lf.told_ok F sc
  have b : L2.Binds K fd ["self"] [] := F.bindsN fun _ _ _ _ _ _ us hl => match us, hl with | [_], _ => rfl
  exact ⟨_, fd, m, o, b⟩
theorem er_NoLength (T : Txt P w K mg base) : Lf.Err1 P w K mg base "NoLength" "length" "refused nolength" := by
  have k : IniK K ("NoLength", ["length"]) := iniB_ok (T.ini 19).1
  obtain ⟨fd, F⟩ := T.d.def_ 54 (d := d_NoLength_init) rfl
  have sc : FnScope ["self", "length"] ["self", "length"] d_NoLength_init.scope := ⟨rfl, rfl, rfl, by decide +kernel, rfl, by decide +kernel, by decide +kernel⟩
  have n0 : PySem.W.findIn K (.ref (He.ga K "NoLength")) "length" = some none := k.f _ (by simp)
  have o : FnOk P w K mg base CX0 1 (He.fAd K d_NoLength_init.at_) fd ["self", "length"] (Lf.spIni1 (He.ga K "NoLength") "length") := Lf.ini1_ok k.c.o n0 F sc
  have b : L2.Binds K fd ["self", "length"] [] := F.bindsN fun _ _ _ _ _ _ us hl => match us, hl with | [_, _], _ => rfl
  have g : mg "NoLength" = some (.ref (He.ga K "NoLength")) := T.gl 35 "NoLength" rfl
  exact ⟨g, k.c, n0, tl_NoLength T, _, fd, k.i, k.t, o, b⟩
theorem is_NoLength (T : Txt P w K mg base) : IsE K "NoLength" := isB_ok (T.ini 19 (p := ("NoLength", ["length"])) rfl).2
theorem tl_Untested (T : Txt P w K mg base) : Lf.Tells P w K mg base (He.ga K "Untested") "refused untested" := by
  obtain ⟨fd, F⟩ := T.d.def_ 57 (d := d_Untested_told) rfl
  have m : Meth K (He.ga K "Untested") "told" (He.ma K (He.ga K "Untested") "told") := He.meth_ok (T.d.fact 80 (f := .meth "Untested" "told") rfl)
  have sc : FnScope ["self"] ["self"] d_Untested_told.scope := ⟨rfl, rfl, rfl, by decide +kernel, rfl, by decide +kernel, by decide +kernel⟩
  have o : FnOk P w K mg base CX0 1 (He.fAd K d_Untested_told.at_) fd ["self"] (Lf.spTold "refused untested") := Lf.told_ok F sc
  have b : L2.Binds K fd ["self"] [] := F.bindsN fun _ _ _ _ _ _ us hl => match us, hl with | [_], _ => rfl
  exact ⟨_, fd, m, o, b⟩
theorem er_Untested (T : Txt P w K mg base) : Lf.Err2 P w K mg base "Untested" "yes" "no" "refused untested" := by
  have k : IniK K ("Untested", ["yes", "no"]) := iniB_ok (T.ini 20).1
  obtain ⟨fd, F⟩ := T.d.def_ 56 (d := d_Untested_init) rfl
  have sc : FnScope ["self", "yes", "no"] ["self", "yes", "no"] d_Untested_init.scope := ⟨rfl, rfl, rfl, by decide +kernel, rfl, by decide +kernel, by decide +kernel⟩
  have n0 : PySem.W.findIn K (.ref (He.ga K "Untested")) "yes" = some none := k.f _ (by simp)
  have n1 : PySem.W.findIn K (.ref (He.ga K "Untested")) "no" = some none := k.f _ (by simp)
  have o : FnOk P w K mg base CX0 1 (He.fAd K d_Untested_init.at_) fd ["self", "yes", "no"] (Lf.spIni2 (He.ga K "Untested") "yes" "no") := Lf.ini2_ok k.c.o n0 n1 F sc
  have b : L2.Binds K fd ["self", "yes", "no"] [] := F.bindsN fun _ _ _ _ _ _ us hl => match us, hl with | [_, _, _], _ => rfl
  have g : mg "Untested" = some (.ref (He.ga K "Untested")) := T.gl 36 "Untested" rfl
  exact ⟨g, k.c, n0, n1, tl_Untested T, _, fd, k.i, k.t, o, b⟩
theorem is_Untested (T : Txt P w K mg base) : IsE K "Untested" := isB_ok (T.ini 20 (p := ("Untested", ["yes", "no"])) rfl).2
theorem tl_LongTests (T : Txt P w K mg base) : Lf.Tells P w K mg base (He.ga K "LongTests") "refused longtests" := by
  obtain ⟨fd, F⟩ := T.d.def_ 59 (d := d_LongTests_told) rfl
  have m : Meth K (He.ga K "LongTests") "told" (He.ma K (He.ga K "LongTests") "told") := He.meth_ok (T.d.fact 81 (f := .meth "LongTests" "told") rfl)
  have sc : FnScope ["self"] ["self"] d_LongTests_told.scope := ⟨rfl, rfl, rfl, by decide +kernel, rfl, by decide +kernel, by decide +kernel⟩
  have o : FnOk P w K mg base CX0 1 (He.fAd K d_LongTests_told.at_) fd ["self"] (Lf.spTold "refused longtests") := Lf.told_ok F sc
  have b : L2.Binds K fd ["self"] [] := F.bindsN fun _ _ _ _ _ _ us hl => match us, hl with | [_], _ => rfl
  exact ⟨_, fd, m, o, b⟩
theorem er_LongTests (T : Txt P w K mg base) : Lf.Err1 P w K mg base "LongTests" "length" "refused longtests" := by
  have k : IniK K ("LongTests", ["length"]) := iniB_ok (T.ini 21).1
  obtain ⟨fd, F⟩ := T.d.def_ 58 (d := d_LongTests_init) rfl
  have sc : FnScope ["self", "length"] ["self", "length"] d_LongTests_init.scope := ⟨rfl, rfl, rfl, by decide +kernel, rfl, by decide +kernel, by decide +kernel⟩
  have n0 : PySem.W.findIn K (.ref (He.ga K "LongTests")) "length" = some none := k.f _ (by simp)
  have o : FnOk P w K mg base CX0 1 (He.fAd K d_LongTests_init.at_) fd ["self", "length"] (Lf.spIni1 (He.ga K "LongTests") "length") := Lf.ini1_ok k.c.o n0 F sc
  have b : L2.Binds K fd ["self", "length"] [] := F.bindsN fun _ _ _ _ _ _ us hl => match us, hl with | [_, _], _ => rfl
  have g : mg "LongTests" = some (.ref (He.ga K "LongTests")) := T.gl 37 "LongTests" rfl
  exact ⟨g, k.c, n0, tl_LongTests T, _, fd, k.i, k.t, o, b⟩
theorem is_LongTests (T : Txt P w K mg base) : IsE K "LongTests" := isB_ok (T.ini 21 (p := ("LongTests", ["length"])) rfl).2
theorem tl_NoTerm (T : Txt P w K mg base) : Lf.Tells P w K mg base (He.ga K "NoTerm") "refused noterm" := by
  obtain ⟨fd, F⟩ := T.d.def_ 61 (d := d_NoTerm_told) rfl
  have m : Meth K (He.ga K "NoTerm") "told" (He.ma K (He.ga K "NoTerm") "told") := He.meth_ok (T.d.fact 82 (f := .meth "NoTerm" "told") rfl)
  have sc : FnScope ["self"] ["self"] d_NoTerm_told.scope := ⟨rfl, rfl, rfl, by decide +kernel, rfl, by decide +kernel, by decide +kernel⟩
  have o : FnOk P w K mg base CX0 1 (He.fAd K d_NoTerm_told.at_) fd ["self"] (Lf.spTold "refused noterm") := Lf.told_ok F sc
  have b : L2.Binds K fd ["self"] [] := F.bindsN fun _ _ _ _ _ _ us hl => match us, hl with | [_], _ => rfl
  exact ⟨_, fd, m, o, b⟩
theorem er_NoTerm (T : Txt P w K mg base) : Lf.Err1 P w K mg base "NoTerm" "place" "refused noterm" := by
  have k : IniK K ("NoTerm", ["place"]) := iniB_ok (T.ini 22).1
  obtain ⟨fd, F⟩ := T.d.def_ 60 (d := d_NoTerm_init) rfl
  have sc : FnScope ["self", "place"] ["self", "place"] d_NoTerm_init.scope := ⟨rfl, rfl, rfl, by decide +kernel, rfl, by decide +kernel, by decide +kernel⟩
  have n0 : PySem.W.findIn K (.ref (He.ga K "NoTerm")) "place" = some none := k.f _ (by simp)
  have o : FnOk P w K mg base CX0 1 (He.fAd K d_NoTerm_init.at_) fd ["self", "place"] (Lf.spIni1 (He.ga K "NoTerm") "place") := Lf.ini1_ok k.c.o n0 F sc
  have b : L2.Binds K fd ["self", "place"] [] := F.bindsN fun _ _ _ _ _ _ us hl => match us, hl with | [_, _], _ => rfl
  have g : mg "NoTerm" = some (.ref (He.ga K "NoTerm")) := T.gl 38 "NoTerm" rfl
  exact ⟨g, k.c, n0, tl_NoTerm T, _, fd, k.i, k.t, o, b⟩
theorem is_NoTerm (T : Txt P w K mg base) : IsE K "NoTerm" := isB_ok (T.ini 22 (p := ("NoTerm", ["place"])) rfl).2
end
end K01

set_option Elab.async false
set_option linter.all false
set_option maxRecDepth 100000
set_option maxHeartbeats 4000000
namespace K01
open PySem PySem.Spec PyProof.Rows L2 Lf
/-- the digits' source at l -/
def Src (H : Hp) (l : Addr) : Prop := ∃ a b c : Int, H l = some (.lst [.int a, .int b, .int c]) ∧ 0 ≤ a ∧ (0 ≤ b ∧ b < 2 ^ 32) ∧ 0 ≤ c ∧ c < 2 ^ 32
theorem Src.same {H H' : Hp} {l : Addr} (s : Src H l) (e : Same H H') : Src H' l := by
  obtain ⟨a, b, c, h, r⟩ := s
  exact ⟨a, b, c, e _ _ h, r⟩
def spState : Sp := fun vs H Q _ => ∃ n : Int, vs = [.int n] ∧ ∀ l H', Same H H' → H l = none → Src H' l → Q (.ref l) H'
def spDigit : Sp := fun vs H Q _ => ∃ (l : Addr) (m : Int), vs = [.ref l, .int m] ∧ Src H l ∧ 0 < m ∧ m < 1000000 ∧ ∀ (d : Int) H', 0 ≤ d → d < m → But l H H' → Src H' l → Q (.int d) H'
section
variable {P : Program} {w : World} {K : PySem.W.Frag} {mg : Str → Option Value} {base : Heap}
theorem scState : FnScope ["_law_source"] ["_law_source"] (defScope s_L_state) := ⟨rfl, rfl, rfl, by decide +kernel, rfl, by decide +kernel, by decide +kernel⟩
theorem ok_state {f : Addr} {fd : FuncData} {q : Str} (F : FunD K "_law_state" q (defArgs s_L_state) (defBody s_L_state) (defScope s_L_state) [] [] f fd) (zA : mg "abs" = none) (zI : mg "int" = none) :
    FnOk P w K mg base CX0 1 f fd ["_law_source"] spState := by
  refine F.ok scState (fun vs H Q E h => ?_) (fun cdv A outer s H vs Q E hr h => ?_)
  · obtain ⟨n, rfl, _⟩ := h
    rfl
  · obtain ⟨n, rfl, k⟩ := h
    refine ⟨_, PSs.nox (pss_cons (ps_set (i := 0) scState.nd rfl (.inl rfl) (pe_callB call_abs rfl zA boot_abs (pa_cons (pv 0) pa_nil)))
      (pss_one (ps_ret (pe_lst (pa_cons (pe_op op_mul (pv 0) (pe_callTy call_int1 rfl zI boot_int (pa_cons (pe_cmpR op_ge (pv 0) (pe_op op_pow pe_int pe_int) (nomark _)) pa_nil)))
        (pa_cons (pe_op op_add (pe_op op_mod (pe_callTy call_int1 rfl zI boot_int (pa_cons (pv 0) pa_nil)) pe_int) pe_int)
        (pa_cons (pe_op op_mod (pe_callTy call_int1 rfl zI boot_int (pa_cons (pv 0) pa_nil)) pe_int) pa_nil))))))), ?_⟩
    refine ⟨_, rfl, n, rfl, ?_⟩
    have nn : 0 ≤ (if n < 0 then -n else n) := by split <;> omega
    generalize (if n < 0 then -n else n) = a at nn ⊢
    refine ⟨_, rfl, _, rfl, 10, 18, rfl, rfl, ⟨by decide, by decide, by decide⟩, a, _, rfl, rfl, .inr ⟨_, rfl, a, _, rfl, rfl, .inr ?_, ?_⟩⟩
    · split <;> decide
    refine ⟨_, rfl, .inl ⟨a, rfl, a, 2147483629, rfl, rfl, (show (0 : Int) < 2147483629 by decide), _, 7, rfl, rfl, _, rfl, .inl ⟨a, rfl, a, 2147483587, rfl, rfl, (show (0 : Int) < 2147483587 by decide), ?_⟩⟩⟩
    refine ⟨(by show 3 ≤ sizeLine; decide), fun l hl => k l _ (same_upd hl) hl ⟨_, _, _, upd_same, ?_, ?_, ?_⟩⟩
    · split
      · omega
      · simp
    · constructor <;> omega
    · constructor <;> omega
theorem scDigit : FnScope ["_law_state_here", "_law_base", "_law_found", "_law_mixed"] ["_law_state_here", "_law_base"] (defScope s_L_digit) := ⟨rfl, rfl, rfl, by decide +kernel, rfl, by decide +kernel, by decide +kernel⟩
theorem ok_digit {f : Addr} {fd : FuncData} {q : Str} (F : FunD K "_law_digit" q (defArgs s_L_digit) (defBody s_L_digit) (defScope s_L_digit) [] [] f fd) (zI : mg "int" = none) :
    FnOk P w K mg base CX0 1 f fd ["_law_state_here", "_law_base"] spDigit := by
  refine F.ok scDigit (fun vs H Q E h => ?_) (fun cdv A outer s H vs Q E hr h => ?_)
  · obtain ⟨l, m, rfl, _⟩ := h
    rfl
  · obtain ⟨l, m, rfl, ⟨a, b, c, hl, ha, ⟨hb1, hb2⟩, hc1, hc2⟩, m0, m1, k⟩ := h
    refine ⟨_, PSs.nox (pss_cons (ps_if (pt_cmpR op_gt (pe_ix ix_list (pv 0) pe_int (fun _ _ => rfl)) pe_int (nomark _))
        (pss_cons (ps_set (i := 2) scDigit.nd rfl (.inl rfl) (pe_op op_mod (pe_callTy call_int1 rfl zI boot_int (pa_cons (pe_ix ix_list (pv 0) pe_int (fun _ _ => rfl)) pa_nil)) (pv 1)))
        (pss_cons (ps_asg (pe_op op_fdiv (pe_ix ix_list (pv 0) pe_int (fun _ _ => rfl)) (pv 1)) (pg_sub (pv 0) pe_int set_list))
        (pss_one (ps_ret (pv 2))))) pss_nil)
      (pss_cons (ps_set (i := 3) scDigit.nd rfl (.inl rfl) (pe_op op_mul (pe_ix ix_list (pv 0) pe_int (fun _ _ => rfl)) (pe_op op_add (pe_op op_fdiv (pe_ix ix_list (pv 0) pe_int (fun _ _ => rfl)) pe_int) pe_int)))
      (pss_cons (ps_asg (pe_op op_add (pe_op op_mod (pe_callTy call_int1 rfl zI boot_int (pa_cons (pe_op op_add (pv 3) (pe_ix ix_list (pv 0) pe_int (fun _ _ => rfl))) pa_nil)) pe_int) pe_int) (pg_sub (pv 0) pe_int set_list))
      (pss_one (ps_ret (pe_op op_mod (pe_callTy call_int1 rfl zI boot_int (pa_cons (pe_op op_fdiv (pe_ix ix_list (pv 0) pe_int (fun _ _ => rfl)) pe_int) pa_nil)) (pv 1))))))), ?_⟩
    have at0 : atI [V.int a, V.int b, V.int c] 0 = some (.int a) := rfl
    have at1 : atI [V.int a, V.int b, V.int c] 1 = some (.int b) := rfl
    refine ⟨_, rfl, l, _, 0, _, rfl, rfl, SqL.of hl, at0, a, 0, rfl, rfl, _, rfl, ?_⟩
    refine ite2 (fun h0 => ?_) (fun h0 => ?_)
    · refine ⟨_, rfl, l, _, 0, _, rfl, rfl, SqL.of hl, at0, .inl ⟨a, rfl, _, rfl, a, m, rfl, rfl, m0, ?_⟩⟩
      refine ⟨_, rfl, l, _, 0, _, rfl, rfl, SqL.of hl, at0, _, rfl, a, m, rfl, rfl, ⟨m0, by omega⟩, ?_⟩
      refine ⟨_, rfl, l, _, 0, 0, rfl, rfl, hl, rfl, ?_⟩
      refine ⟨_, rfl, k _ _ (Int.emod_nonneg _ (by omega)) (Int.emod_lt_of_pos _ m0) But.upd ⟨_, b, c, upd_same, Int.ediv_nonneg ha (by omega), ⟨hb1, hb2⟩, hc1, hc2⟩⟩
    · refine ⟨_, rfl, l, _, 1, _, rfl, rfl, SqL.of hl, at1, _, rfl, l, _, 1, _, rfl, rfl, SqL.of hl, at1, b, 1009, rfl, rfl, ⟨by decide, by decide⟩, _, 69621, rfl, rfl, b, _, rfl, rfl, .inl ⟨by omega, by omega⟩, ?_⟩
      have at2 : atI [V.int a, V.int b, V.int c] 2 = some (.int c) := rfl
      refine ⟨_, rfl, _, rfl, l, _, 2, _, rfl, rfl, SqL.of hl, at2, _, c, rfl, rfl, .inl ⟨_, rfl, _, 2147483629, rfl, rfl, (show (0 : Int) < 2147483629 by decide), _, 7, rfl, rfl, ?_⟩⟩
      refine ⟨_, rfl, l, _, 1, 1, rfl, rfl, hl, rfl, ?_⟩
      generalize hz : b * (b / 1009 + 69621) + c = z
      have z1 : 0 ≤ z % 2147483629 := Int.emod_nonneg _ (by decide)
      have z2 : z % 2147483629 < 2147483629 := Int.emod_lt_of_pos _ (by decide)
      refine ⟨_, rfl, l, _, 1, .int (z % 2147483629 + 7), rfl, rfl, SqL.of upd_same, rfl, _, 97, rfl, rfl, ⟨by decide, by decide⟩, .inl ⟨_, rfl, _, rfl, _, m, rfl, rfl, m0, ?_⟩⟩
      exact k _ _ (Int.emod_nonneg _ (by omega)) (Int.emod_lt_of_pos _ m0) But.upd ⟨a, _, c, upd_same, ha, ⟨by omega, by omega⟩, hc1, hc2⟩
end
end K01

set_option Elab.async false
set_option linter.all false
set_option maxRecDepth 100000
set_option maxHeartbeats 8000000
namespace K01
open PySem PySem.Spec PyProof.Rows L2 Lf
section
variable (P : Program) (w : World) (K : PySem.W.Frag) (mg : Str → Option Value) (base : Heap)
/-- at e an error that tells t -/
structure IsErr (H : Hp) (e : Addr) (t : Str) : Prop where
  ex : ∃ x d, ErrC K (He.ga K x) ∧ XAt H e (He.ga K x) d ∧ (∀ dx, d = some dx → ∃ fs, H dx = some (exd dx fs) ∧ fs.lookup ("told" : Str) = none) ∧ Tells P w K mg base (He.ga K x) t ∧ IsE K x
/-- an entry: a tuple of an error, what stands between, a word; the error tells it -/
def Ent (H : Hp) (mid : List V) (tp : Addr) (wd : Str) : Prop := ∃ e, H tp = some (.tup (.ref e :: (mid ++ [.str wd]))) ∧ IsErr P w K mg base H e ("refused " ++ wd)
structure Found (H0 H : Hp) (l : Addr) (mid : List V) (wds : List Str) : Prop where
  s : Same H0 H
  n : H0 l = none
  ex : ∃ tps : List Addr, H l = some (.lst (tps.map V.ref)) ∧ Paired (Ent P w K mg base H mid) tps wds
end
section
variable {P : Program} {w : World} {K : PySem.W.Frag} {mg : Str → Option Value} {base : Heap}
theorem IsErr.solid {H H' : Hp} {e : Addr} {t : Str} (h : IsErr P w K mg base H e t) (s : Solid H H') : IsErr P w K mg base H' e t := by
  obtain ⟨x, d, c, a, k, r⟩ := h.ex
  exact ⟨x, d, c, a.solid s, fun dx z => (k dx z).imp fun fs q => ⟨s _ _ q.1 exd_nl, q.2⟩, r⟩
theorem Ent.solid {H H' : Hp} {mid : List V} {tp : Addr} {wd : Str} (h : Ent P w K mg base H mid tp wd) (s : Solid H H') : Ent P w K mg base H' mid tp wd := by
  obtain ⟨e, a, b⟩ := h
  exact ⟨e, s _ _ a (fun xs z => by cases z), b.solid s⟩
theorem paired_app {α β : Type} {F : α → β → Prop} : ∀ {as : List α} {bs : List β} {a : α} {b : β}, Paired F as bs → F a b → Paired F (as ++ [a]) (bs ++ [b])
  | _, _, _, _, .nil, h => .cons h .nil
  | _, _, _, _, .cons r t, h => .cons r (paired_app t h)
theorem paired_len {α β : Type} {F : α → β → Prop} {as : List α} {bs : List β} (h : Paired F as bs) : as.length = bs.length := Paired.length h
theorem Found.more {H0 H H1 : Hp} {l e tp : Addr} {mid : List V} {wds : List Str} {wd t : Str} (F : Found P w K mg base H0 H l mid wds) (s1 : Same H H1) (nt : H1 tp = none) (i : IsErr P w K mg base H1 e t) (ht : "refused " ++ wd = t) :
    ∃ xs, upd H1 tp (.tup (.ref e :: (mid ++ [.str wd]))) l = some (.lst xs) ∧ xs.length = wds.length ∧ Found P w K mg base H0 (upd (upd H1 tp (.tup (.ref e :: (mid ++ [.str wd])))) l (.lst (xs ++ [.ref tp]))) l mid (wds ++ [wd]) := by
  obtain ⟨tps, hl, pr⟩ := F.ex
  have hl1 := s1 _ _ hl
  have s2 : Same H1 (upd H1 tp (.tup (.ref e :: (mid ++ [.str wd])))) := same_upd nt
  have hl2 := s2 _ _ hl1
  have so : Solid (upd H1 tp (.tup (.ref e :: (mid ++ [.str wd])))) (upd (upd H1 tp (.tup (.ref e :: (mid ++ [.str wd])))) l (.lst (tps.map V.ref ++ [.ref tp]))) := Solid.lst hl2
  refine ⟨_, hl2, by rw [List.length_map, paired_len pr], Same.but (F.s.trans (s1.trans s2)) F.n But.upd, F.n, tps ++ [tp], by rw [List.map_append]; exact upd_same, paired_app ?_ ?_⟩
  · exact L2.Paired.mapP pr fun a b z => z.solid ((Solid.of (s1.trans s2)).trans so)
  · exact ⟨e, so _ _ upd_same (fun xs z => by cases z), ht ▸ (i.solid ((Solid.of s2).trans so))⟩
theorem err1_is {H : Hp} {a d : Addr} {x fl t : Str} {v : V} (E : Err1 P w K mg base x fl t) (is : IsE K x) (nt : (("told" : Str) == fl) = false) (xa : XAt H a (He.ga K x) (some d)) (hd : H d = some (exd d [(fl, v)])) : IsErr P w K mg base H a t :=
  ⟨x, _, E.c, xa, fun dx z => by cases z; exact ⟨_, hd, by simp [List.lookup, nt]⟩, E.tl, is⟩
theorem err2_is {H : Hp} {a d : Addr} {x fl gl t : Str} {v u : V} (E : Err2 P w K mg base x fl gl t) (is : IsE K x) (nt : (("told" : Str) == fl) = false) (nt2 : (("told" : Str) == gl) = false) (xa : XAt H a (He.ga K x) (some d)) (hd : H d = some (exd d [(gl, u), (fl, v)])) : IsErr P w K mg base H a t :=
  ⟨x, _, E.c, xa, fun dx z => by cases z; exact ⟨_, hd, by simp [List.lookup, nt, nt2]⟩, E.tl, is⟩
theorem err0_is {H : Hp} {a : Addr} {x t : Str} (E : Err0 P w K mg base x t) (is : IsE K x) (xa : XAt H a (He.ga K x) none) : IsErr P w K mg base H a t :=
  ⟨x, none, E.c, xa, (fun dx z => nomatch z), E.tl, is⟩
abbrev tErr1 (K : PySem.W.Frag) (x fl : Str) (ta : TE) : TE := fun σ H Q => ta σ H fun v H1 => ∀ a d H', H1 a = none → H1 d = none → Same H1 H' → XAt H' a (He.ga K x) (some d) → H' d = some (exd d [(fl, v)]) → Q (.ref a) H'
abbrev tErr0 (K : PySem.W.Frag) (x : Str) : TE := fun _ H Q => ∀ a H', H a = none → Same H H' → XAt H' a (He.ga K x) none → Q (.ref a) H'
theorem step3 {x fl t wd : Str} (E : Err1 P w K mg base x fl t) (is : IsE K x) (ht : "refused " ++ wd = t) (nt : (("told" : Str) == fl) = false) {rest : TS} {D : Ends} {v : V} {l : Addr} {eo : Option V} {H0 H : Hp} {wds : List Str}
    (F : Found P w K mg base H0 H l [v] wds) (few : wds.length ≤ 100) (k : ∀ H' e, Found P w K mg base H0 H' l [v] (wds ++ [wd]) → rest D [some v, some (.ref l), e] H') :
    tSeq (tAsg (tErr1 K x fl (tVar 0)) (gName 2)) (tSeq (tDrop (tBM K "list" rAppend (tVar 1) (tCons (tTup (tCons (tVar 2) (tCons (tXo K fl (tVar 2)) (tCons (tC (.str wd)) tNil)))) tNil))) rest) D [some v, some (.ref l), eo] H := by
  refine ⟨v, rfl, fun a d H1 na nd s1 xa dd => ?_⟩
  obtain ⟨tps, hl, _⟩ := F.ex
  refine ⟨.ref l, rfl, .inl ⟨rfl, _, .inl (.inl (s1 _ _ hl))⟩, _, rfl, _, rfl, a, _, d, _, v, rfl, E.c.x, E.no, xa, dd, by simp [List.lookup], (by show 3 ≤ sizeLine; decide), fun p np => ?_⟩
  obtain ⟨xs, h1, h2, F2⟩ := F.more (wd := wd) s1 np (err1_is E is nt xa dd) ht
  exact ⟨l, xs, _, rfl, rfl, h1, small1000 (by omega), k _ _ F2⟩
theorem step2 {x t wd : Str} (E : Err0 P w K mg base x t) (is : IsE K x) (ht : "refused " ++ wd = t) {rest : TS} {D : Ends} {l : Addr} {H0 H : Hp} {wds : List Str}
    (F : Found P w K mg base H0 H l [] wds) (few : wds.length ≤ 100) (k : ∀ H', Found P w K mg base H0 H' l [] (wds ++ [wd]) → rest D [some (.ref l)] H') :
    tSeq (tDrop (tBM K "list" rAppend (tVar 0) (tCons (tTup (tCons (tErr0 K x) (tCons (tC (.str wd)) tNil))) tNil))) rest D [some (.ref l)] H := by
  obtain ⟨tps, hl, _⟩ := F.ex
  refine ⟨.ref l, rfl, .inl ⟨rfl, _, .inl (.inl hl)⟩, fun a H1 na s1 xa => ⟨(by show 2 ≤ sizeLine; decide), fun p np => ?_⟩⟩
  obtain ⟨xs, h1, h2, F2⟩ := F.more (wd := wd) s1 np (err0_is E is xa) ht
  exact ⟨l, xs, _, rfl, rfl, h1, small1000 (by omega), k _ F2⟩
theorem found_new {H : Hp} {l : Addr} {mid : List V} (n : H l = none) : Found P w K mg base H (upd H l (.lst [])) l mid [] := ⟨same_upd n, n, [], upd_same, .nil⟩

def wFirst : List Str := ["noelement", "nonumber", "notext", "noword", "nogenerators", "toomany", "nokind", "notregular", "nomaps", "nosteps"]
def wSingle : List Str := ["nopairs", "nonumbers", "noautomaton", "noway", "nonode", "longword", "nolength", "longtests", "noterm"]
def wPlain : List Str := ["unlike", "nopoints", "nogreat", "norank", "noset", "nomap", "notthere", "noplace", "nopoint", "otherletters", "unfinished", "endless", "nocongruence", "noparts", "nolanguage"]
def spList (P : Program) (w : World) (K : PySem.W.Frag) (mg : Str → Option Value) (base : Heap) (wds : List Str) : Sp := fun vs H Q _ => ∃ v, vs = [v] ∧ ∀ H' l, Found P w K mg base H H' l [v] wds → Q (.ref l) H'
def spPlain (P : Program) (w : World) (K : PySem.W.Frag) (mg : Str → Option Value) (base : Heap) : Sp := fun vs H Q _ => vs = [] ∧ ∀ H' l, Found P w K mg base H H' l [] wPlain → Q (.ref l) H'

theorem scFirst : FnScope ["_law_x", "_law_found", "_law_error"] ["_law_x"] (defScope s_L_first) := ⟨rfl, rfl, rfl, by decide +kernel, rfl, by decide +kernel, by decide +kernel⟩
theorem ok_first {f : Addr} {fd : FuncData} {q : Str} (F : FunD K "_law_first" q (defArgs s_L_first) (defBody s_L_first) (defScope s_L_first) [] [] f fd) (T : Txt P w K mg base) :
    FnOk P w K mg base CX0 3 f fd ["_law_x"] (spList P w K mg base wFirst) := by
  refine F.ok scFirst (fun vs H Q E h => ?_) (fun cdv A outer s H vs Q E hr h => ?_)
  · obtain ⟨v, rfl, _⟩ := h
    rfl
  · obtain ⟨v, rfl, k⟩ := h
    have hr2 : Room 2 _ := hr
    refine ⟨_, PSs.nox (pss_cons (ps_set (i := 1) scFirst.nd rfl (.inl rfl) (pe_lst pa_nil)) (pss_cons (ps_set (i := 2) scFirst.nd rfl (.inl rfl) (pe_err1 (er_NoElement T) hr2 rfl (pv 0)))
 (pss_cons (ps_expr (pe_bm PySem.F.plainAttrs_list PySem.F.slot_list_append PySem.F.type_list_append mt_append (pv 1) (pa_cons (pe_tup (pa_cons (pv 2) (pa_cons (pe_xo (pv 2)) (pa_cons pe_str pa_nil)))) pa_nil)))
 (pss_cons (ps_set (i := 2) scFirst.nd rfl (.inl rfl) (pe_err1 (er_NoNumber T) hr2 rfl (pv 0)))
 (pss_cons (ps_expr (pe_bm PySem.F.plainAttrs_list PySem.F.slot_list_append PySem.F.type_list_append mt_append (pv 1) (pa_cons (pe_tup (pa_cons (pv 2) (pa_cons (pe_xo (pv 2)) (pa_cons pe_str pa_nil)))) pa_nil)))
 (pss_cons (ps_set (i := 2) scFirst.nd rfl (.inl rfl) (pe_err1 (er_NoText T) hr2 rfl (pv 0)))
 (pss_cons (ps_expr (pe_bm PySem.F.plainAttrs_list PySem.F.slot_list_append PySem.F.type_list_append mt_append (pv 1) (pa_cons (pe_tup (pa_cons (pv 2) (pa_cons (pe_xo (pv 2)) (pa_cons pe_str pa_nil)))) pa_nil)))
 (pss_cons (ps_set (i := 2) scFirst.nd rfl (.inl rfl) (pe_err1 (er_NoWord T) hr2 rfl (pv 0)))
 (pss_cons (ps_expr (pe_bm PySem.F.plainAttrs_list PySem.F.slot_list_append PySem.F.type_list_append mt_append (pv 1) (pa_cons (pe_tup (pa_cons (pv 2) (pa_cons (pe_xo (pv 2)) (pa_cons pe_str pa_nil)))) pa_nil)))
 (pss_cons (ps_set (i := 2) scFirst.nd rfl (.inl rfl) (pe_err1 (er_NoGenerators T) hr2 rfl (pv 0)))
 (pss_cons (ps_expr (pe_bm PySem.F.plainAttrs_list PySem.F.slot_list_append PySem.F.type_list_append mt_append (pv 1) (pa_cons (pe_tup (pa_cons (pv 2) (pa_cons (pe_xo (pv 2)) (pa_cons pe_str pa_nil)))) pa_nil)))
 (pss_cons (ps_set (i := 2) scFirst.nd rfl (.inl rfl) (pe_err1 (er_TooMany T) hr2 rfl (pv 0)))
 (pss_cons (ps_expr (pe_bm PySem.F.plainAttrs_list PySem.F.slot_list_append PySem.F.type_list_append mt_append (pv 1) (pa_cons (pe_tup (pa_cons (pv 2) (pa_cons (pe_xo (pv 2)) (pa_cons pe_str pa_nil)))) pa_nil)))
 (pss_cons (ps_set (i := 2) scFirst.nd rfl (.inl rfl) (pe_err1 (er_NoKind T) hr2 rfl (pv 0)))
 (pss_cons (ps_expr (pe_bm PySem.F.plainAttrs_list PySem.F.slot_list_append PySem.F.type_list_append mt_append (pv 1) (pa_cons (pe_tup (pa_cons (pv 2) (pa_cons (pe_xo (pv 2)) (pa_cons pe_str pa_nil)))) pa_nil)))
 (pss_cons (ps_set (i := 2) scFirst.nd rfl (.inl rfl) (pe_err1 (er_NotRegular T) hr2 rfl (pv 0)))
 (pss_cons (ps_expr (pe_bm PySem.F.plainAttrs_list PySem.F.slot_list_append PySem.F.type_list_append mt_append (pv 1) (pa_cons (pe_tup (pa_cons (pv 2) (pa_cons (pe_xo (pv 2)) (pa_cons pe_str pa_nil)))) pa_nil)))
 (pss_cons (ps_set (i := 2) scFirst.nd rfl (.inl rfl) (pe_err1 (er_NoMaps T) hr2 rfl (pv 0)))
 (pss_cons (ps_expr (pe_bm PySem.F.plainAttrs_list PySem.F.slot_list_append PySem.F.type_list_append mt_append (pv 1) (pa_cons (pe_tup (pa_cons (pv 2) (pa_cons (pe_xo (pv 2)) (pa_cons pe_str pa_nil)))) pa_nil)))
 (pss_cons (ps_set (i := 2) scFirst.nd rfl (.inl rfl) (pe_err1 (er_NoSteps T) hr2 rfl (pv 0)))
 (pss_cons (ps_expr (pe_bm PySem.F.plainAttrs_list PySem.F.slot_list_append PySem.F.type_list_append mt_append (pv 1) (pa_cons (pe_tup (pa_cons (pv 2) (pa_cons (pe_xo (pv 2)) (pa_cons pe_str pa_nil)))) pa_nil)))
 (pss_one (ps_ret (pv 1)))))))))))))))))))))))), ?_⟩
    refine ⟨Nat.zero_le _, fun l hl => ?_⟩
    have F0 := found_new (P := P) (w := w) (K := K) (mg := mg) (base := base) (mid := [v]) hl
    refine step3 (er_NoElement T) (is_NoElement T) (by decide) (by decide) F0 (by decide) fun H1 e1 F1 => ?_
    refine step3 (er_NoNumber T) (is_NoNumber T) (by decide) (by decide) F1 (by decide) fun H2 e2 F2 => ?_
    refine step3 (er_NoText T) (is_NoText T) (by decide) (by decide) F2 (by decide) fun H3 e3 F3 => ?_
    refine step3 (er_NoWord T) (is_NoWord T) (by decide) (by decide) F3 (by decide) fun H4 e4 F4 => ?_
    refine step3 (er_NoGenerators T) (is_NoGenerators T) (by decide) (by decide) F4 (by decide) fun H5 e5 F5 => ?_
    refine step3 (er_TooMany T) (is_TooMany T) (by decide) (by decide) F5 (by decide) fun H6 e6 F6 => ?_
    refine step3 (er_NoKind T) (is_NoKind T) (by decide) (by decide) F6 (by decide) fun H7 e7 F7 => ?_
    refine step3 (er_NotRegular T) (is_NotRegular T) (by decide) (by decide) F7 (by decide) fun H8 e8 F8 => ?_
    refine step3 (er_NoMaps T) (is_NoMaps T) (by decide) (by decide) F8 (by decide) fun H9 e9 F9 => ?_
    refine step3 (er_NoSteps T) (is_NoSteps T) (by decide) (by decide) F9 (by decide) fun H10 e10 F10 => ?_
    exact ⟨_, rfl, k _ _ F10⟩
theorem scSingle : FnScope ["_law_x", "_law_found", "_law_error"] ["_law_x"] (defScope s_L_single) := ⟨rfl, rfl, rfl, by decide +kernel, rfl, by decide +kernel, by decide +kernel⟩
theorem Found.cat {H0 H H' : Hp} {l p : Addr} {mid : List V} {xs ys : List Str} (F : Found P w K mg base H0 H l mid xs) {m : Addr} (G : Found P w K mg base H H' m mid ys) (np : H' p = none) :
    ∃ as bs, H' l = some (.lst as) ∧ H' m = some (.lst bs) ∧ as.length = xs.length ∧ bs.length = ys.length ∧ Found P w K mg base H0 (upd H' p (.lst (as ++ bs))) p mid (xs ++ ys) := by
  obtain ⟨tps, hl, pr⟩ := F.ex
  obtain ⟨tqs, hm, pq⟩ := G.ex
  have hl' := G.s _ _ hl
  have s2 : Same H' (upd H' p (.lst (tps.map V.ref ++ tqs.map V.ref))) := same_upd np
  have app : ∀ {as : List Addr} {bs : List Str} {as' : List Addr} {bs' : List Str} {R : Addr → Str → Prop}, Paired R as bs → Paired R as' bs' → Paired R (as ++ as') (bs ++ bs') := fun {as bs as' bs' R} h h' => by
    induction h with
    | nil => exact h'
    | cons r t ih => exact .cons r ih
  refine ⟨_, _, hl', hm, by rw [List.length_map, paired_len pr], by rw [List.length_map, paired_len pq], F.s.trans (G.s.trans s2), ?_, tps ++ tqs, by rw [List.map_append]; exact upd_same, app (L2.Paired.mapP pr fun a b z => z.solid (Solid.of (G.s.trans s2))) (L2.Paired.mapP pq fun a b z => z.solid (Solid.of s2))⟩
  exact (F.s.trans G.s).free np
theorem ok_single {f : Addr} {fd : FuncData} {q : Str} (F : FunD K "_law_single" q (defArgs s_L_single) (defBody s_L_single) (defScope s_L_single) [] [] f fd) (T : Txt P w K mg base)
    (D1 : Def P w K mg base CX0 3 "_law_first" ["_law_x"] (spList P w K mg base wFirst)) :
    FnOk P w K mg base CX0 4 f fd ["_law_x"] (spList P w K mg base (wSingle ++ wFirst)) := by
  refine F.ok scSingle (fun vs H Q E h => ?_) (fun cdv A outer s H vs Q E hr h => ?_)
  · obtain ⟨v, rfl, _⟩ := h
    rfl
  · obtain ⟨v, rfl, k⟩ := h
    have hr2 : Room 2 _ := hr.mono (by decide)
    refine ⟨_, PSs.nox (pss_cons (ps_set (i := 1) scSingle.nd rfl (.inl rfl) (pe_lst pa_nil)) (pss_cons (ps_set (i := 2) scSingle.nd rfl (.inl rfl) (pe_err1 (er_NoPairs T) hr2 rfl (pv 0)))
 (pss_cons (ps_expr (pe_bm PySem.F.plainAttrs_list PySem.F.slot_list_append PySem.F.type_list_append mt_append (pv 1) (pa_cons (pe_tup (pa_cons (pv 2) (pa_cons (pe_xo (pv 2)) (pa_cons pe_str pa_nil)))) pa_nil)))
 (pss_cons (ps_set (i := 2) scSingle.nd rfl (.inl rfl) (pe_err1 (er_NoNumbers T) hr2 rfl (pv 0)))
 (pss_cons (ps_expr (pe_bm PySem.F.plainAttrs_list PySem.F.slot_list_append PySem.F.type_list_append mt_append (pv 1) (pa_cons (pe_tup (pa_cons (pv 2) (pa_cons (pe_xo (pv 2)) (pa_cons pe_str pa_nil)))) pa_nil)))
 (pss_cons (ps_set (i := 2) scSingle.nd rfl (.inl rfl) (pe_err1 (er_NoAutomaton T) hr2 rfl (pv 0)))
 (pss_cons (ps_expr (pe_bm PySem.F.plainAttrs_list PySem.F.slot_list_append PySem.F.type_list_append mt_append (pv 1) (pa_cons (pe_tup (pa_cons (pv 2) (pa_cons (pe_xo (pv 2)) (pa_cons pe_str pa_nil)))) pa_nil)))
 (pss_cons (ps_set (i := 2) scSingle.nd rfl (.inl rfl) (pe_err1 (er_NoWay T) hr2 rfl (pv 0)))
 (pss_cons (ps_expr (pe_bm PySem.F.plainAttrs_list PySem.F.slot_list_append PySem.F.type_list_append mt_append (pv 1) (pa_cons (pe_tup (pa_cons (pv 2) (pa_cons (pe_xo (pv 2)) (pa_cons pe_str pa_nil)))) pa_nil)))
 (pss_cons (ps_set (i := 2) scSingle.nd rfl (.inl rfl) (pe_err1 (er_NoNode T) hr2 rfl (pv 0)))
 (pss_cons (ps_expr (pe_bm PySem.F.plainAttrs_list PySem.F.slot_list_append PySem.F.type_list_append mt_append (pv 1) (pa_cons (pe_tup (pa_cons (pv 2) (pa_cons (pe_xo (pv 2)) (pa_cons pe_str pa_nil)))) pa_nil)))
 (pss_cons (ps_set (i := 2) scSingle.nd rfl (.inl rfl) (pe_err1 (er_LongWord T) hr2 rfl (pv 0)))
 (pss_cons (ps_expr (pe_bm PySem.F.plainAttrs_list PySem.F.slot_list_append PySem.F.type_list_append mt_append (pv 1) (pa_cons (pe_tup (pa_cons (pv 2) (pa_cons (pe_xo (pv 2)) (pa_cons pe_str pa_nil)))) pa_nil)))
 (pss_cons (ps_set (i := 2) scSingle.nd rfl (.inl rfl) (pe_err1 (er_NoLength T) hr2 rfl (pv 0)))
 (pss_cons (ps_expr (pe_bm PySem.F.plainAttrs_list PySem.F.slot_list_append PySem.F.type_list_append mt_append (pv 1) (pa_cons (pe_tup (pa_cons (pv 2) (pa_cons (pe_xo (pv 2)) (pa_cons pe_str pa_nil)))) pa_nil)))
 (pss_cons (ps_set (i := 2) scSingle.nd rfl (.inl rfl) (pe_err1 (er_LongTests T) hr2 rfl (pv 0)))
 (pss_cons (ps_expr (pe_bm PySem.F.plainAttrs_list PySem.F.slot_list_append PySem.F.type_list_append mt_append (pv 1) (pa_cons (pe_tup (pa_cons (pv 2) (pa_cons (pe_xo (pv 2)) (pa_cons pe_str pa_nil)))) pa_nil)))
 (pss_cons (ps_set (i := 2) scSingle.nd rfl (.inl rfl) (pe_err1 (er_NoTerm T) hr2 rfl (pv 0)))
 (pss_cons (ps_expr (pe_bm PySem.F.plainAttrs_list PySem.F.slot_list_append PySem.F.type_list_append mt_append (pv 1) (pa_cons (pe_tup (pa_cons (pv 2) (pa_cons (pe_xo (pv 2)) (pa_cons pe_str pa_nil)))) pa_nil)))
 (pss_one (ps_ret (pe_op op_cat (pv 1) (pe_def D1 hr pass0 rfl (pa_cons (pv 0) pa_nil)))))))))))))))))))))))), ?_⟩
    refine ⟨Nat.zero_le _, fun l hl => ?_⟩
    have F0 := found_new (P := P) (w := w) (K := K) (mg := mg) (base := base) (mid := [v]) hl
    refine step3 (er_NoPairs T) (is_NoPairs T) (by decide) (by decide) F0 (by decide) fun H1 e1 F1 => ?_
    refine step3 (er_NoNumbers T) (is_NoNumbers T) (by decide) (by decide) F1 (by decide) fun H2 e2 F2 => ?_
    refine step3 (er_NoAutomaton T) (is_NoAutomaton T) (by decide) (by decide) F2 (by decide) fun H3 e3 F3 => ?_
    refine step3 (er_NoWay T) (is_NoWay T) (by decide) (by decide) F3 (by decide) fun H4 e4 F4 => ?_
    refine step3 (er_NoNode T) (is_NoNode T) (by decide) (by decide) F4 (by decide) fun H5 e5 F5 => ?_
    refine step3 (er_LongWord T) (is_LongWord T) (by decide) (by decide) F5 (by decide) fun H6 e6 F6 => ?_
    refine step3 (er_NoLength T) (is_NoLength T) (by decide) (by decide) F6 (by decide) fun H7 e7 F7 => ?_
    refine step3 (er_LongTests T) (is_LongTests T) (by decide) (by decide) F7 (by decide) fun H8 e8 F8 => ?_
    refine step3 (er_NoTerm T) (is_NoTerm T) (by decide) (by decide) F8 (by decide) fun H9 e9 F9 => ?_
    refine ⟨_, rfl, _, rfl, v, rfl, fun H2 m G => ?_⟩
    obtain ⟨tps, hl, pr⟩ := F9.ex
    obtain ⟨tqs, hm, pq⟩ := G.ex
    refine ⟨l, m, _, _, rfl, rfl, G.s _ _ hl, hm, ?_, fun p np => ?_⟩
    · rw [List.length_map, List.length_map, paired_len pr, paired_len pq]
      decide
    · obtain ⟨as, bs, h1, h2, h3, h4, F'⟩ := F9.cat G np
      rw [G.s _ _ hl] at h1
      rw [hm] at h2
      cases h1
      cases h2
      exact k _ _ F' 
theorem scPlain : FnScope ["_law_found"] [] (defScope s_L_plain) := ⟨rfl, rfl, rfl, by decide +kernel, rfl, by decide +kernel, by decide +kernel⟩
theorem ok_plain {f : Addr} {fd : FuncData} {q : Str} (F : FunD K "_law_plain" q (defArgs s_L_plain) (defBody s_L_plain) (defScope s_L_plain) [] [] f fd) (T : Txt P w K mg base) :
    FnOk P w K mg base CX0 3 f fd [] (spPlain P w K mg base) := by
  refine F.ok scPlain (fun vs H Q E h => ?_) (fun cdv A outer s H vs Q E hr h => ?_)
  · obtain ⟨rfl, _⟩ := h
    rfl
  · obtain ⟨rfl, k⟩ := h
    refine ⟨_, PSs.nox (pss_cons (ps_set (i := 0) scPlain.nd rfl (.inl rfl) (pe_lst pa_nil)) 
(pss_cons (ps_expr (pe_bm PySem.F.plainAttrs_list PySem.F.slot_list_append PySem.F.type_list_append mt_append (pv 0) (pa_cons (pe_tup (pa_cons (pe_err0 (er_Unlike T) rfl) (pa_cons pe_str pa_nil))) pa_nil))) 
(pss_cons (ps_expr (pe_bm PySem.F.plainAttrs_list PySem.F.slot_list_append PySem.F.type_list_append mt_append (pv 0) (pa_cons (pe_tup (pa_cons (pe_err0 (er_NoPoints T) rfl) (pa_cons pe_str pa_nil))) pa_nil))) 
(pss_cons (ps_expr (pe_bm PySem.F.plainAttrs_list PySem.F.slot_list_append PySem.F.type_list_append mt_append (pv 0) (pa_cons (pe_tup (pa_cons (pe_err0 (er_NoGreat T) rfl) (pa_cons pe_str pa_nil))) pa_nil))) 
(pss_cons (ps_expr (pe_bm PySem.F.plainAttrs_list PySem.F.slot_list_append PySem.F.type_list_append mt_append (pv 0) (pa_cons (pe_tup (pa_cons (pe_err0 (er_NoRank T) rfl) (pa_cons pe_str pa_nil))) pa_nil))) 
(pss_cons (ps_expr (pe_bm PySem.F.plainAttrs_list PySem.F.slot_list_append PySem.F.type_list_append mt_append (pv 0) (pa_cons (pe_tup (pa_cons (pe_err0 (er_NoSet T) rfl) (pa_cons pe_str pa_nil))) pa_nil))) 
(pss_cons (ps_expr (pe_bm PySem.F.plainAttrs_list PySem.F.slot_list_append PySem.F.type_list_append mt_append (pv 0) (pa_cons (pe_tup (pa_cons (pe_err0 (er_NoMap T) rfl) (pa_cons pe_str pa_nil))) pa_nil))) 
(pss_cons (ps_expr (pe_bm PySem.F.plainAttrs_list PySem.F.slot_list_append PySem.F.type_list_append mt_append (pv 0) (pa_cons (pe_tup (pa_cons (pe_err0 (er_NotThere T) rfl) (pa_cons pe_str pa_nil))) pa_nil))) 
(pss_cons (ps_expr (pe_bm PySem.F.plainAttrs_list PySem.F.slot_list_append PySem.F.type_list_append mt_append (pv 0) (pa_cons (pe_tup (pa_cons (pe_err0 (er_NoPlace T) rfl) (pa_cons pe_str pa_nil))) pa_nil))) 
(pss_cons (ps_expr (pe_bm PySem.F.plainAttrs_list PySem.F.slot_list_append PySem.F.type_list_append mt_append (pv 0) (pa_cons (pe_tup (pa_cons (pe_err0 (er_NoPoint T) rfl) (pa_cons pe_str pa_nil))) pa_nil))) 
(pss_cons (ps_expr (pe_bm PySem.F.plainAttrs_list PySem.F.slot_list_append PySem.F.type_list_append mt_append (pv 0) (pa_cons (pe_tup (pa_cons (pe_err0 (er_OtherLetters T) rfl) (pa_cons pe_str pa_nil))) pa_nil))) 
(pss_cons (ps_expr (pe_bm PySem.F.plainAttrs_list PySem.F.slot_list_append PySem.F.type_list_append mt_append (pv 0) (pa_cons (pe_tup (pa_cons (pe_err0 (er_Unfinished T) rfl) (pa_cons pe_str pa_nil))) pa_nil))) 
(pss_cons (ps_expr (pe_bm PySem.F.plainAttrs_list PySem.F.slot_list_append PySem.F.type_list_append mt_append (pv 0) (pa_cons (pe_tup (pa_cons (pe_err0 (er_Endless T) rfl) (pa_cons pe_str pa_nil))) pa_nil))) 
(pss_cons (ps_expr (pe_bm PySem.F.plainAttrs_list PySem.F.slot_list_append PySem.F.type_list_append mt_append (pv 0) (pa_cons (pe_tup (pa_cons (pe_err0 (er_NoCongruence T) rfl) (pa_cons pe_str pa_nil))) pa_nil))) 
(pss_cons (ps_expr (pe_bm PySem.F.plainAttrs_list PySem.F.slot_list_append PySem.F.type_list_append mt_append (pv 0) (pa_cons (pe_tup (pa_cons (pe_err0 (er_NoParts T) rfl) (pa_cons pe_str pa_nil))) pa_nil))) 
(pss_cons (ps_expr (pe_bm PySem.F.plainAttrs_list PySem.F.slot_list_append PySem.F.type_list_append mt_append (pv 0) (pa_cons (pe_tup (pa_cons (pe_err0 (er_NoLanguage T) rfl) (pa_cons pe_str pa_nil))) pa_nil))) (pss_one (ps_ret (pv 0))))))))))))))))))), ?_⟩
    refine ⟨Nat.zero_le _, fun l hl => ?_⟩
    have F0 := found_new (P := P) (w := w) (K := K) (mg := mg) (base := base) (mid := []) hl
    refine step2 (er_Unlike T) (is_Unlike T) (by decide) F0 (by decide) fun H1 F1 => ?_
    refine step2 (er_NoPoints T) (is_NoPoints T) (by decide) F1 (by decide) fun H2 F2 => ?_
    refine step2 (er_NoGreat T) (is_NoGreat T) (by decide) F2 (by decide) fun H3 F3 => ?_
    refine step2 (er_NoRank T) (is_NoRank T) (by decide) F3 (by decide) fun H4 F4 => ?_
    refine step2 (er_NoSet T) (is_NoSet T) (by decide) F4 (by decide) fun H5 F5 => ?_
    refine step2 (er_NoMap T) (is_NoMap T) (by decide) F5 (by decide) fun H6 F6 => ?_
    refine step2 (er_NotThere T) (is_NotThere T) (by decide) F6 (by decide) fun H7 F7 => ?_
    refine step2 (er_NoPlace T) (is_NoPlace T) (by decide) F7 (by decide) fun H8 F8 => ?_
    refine step2 (er_NoPoint T) (is_NoPoint T) (by decide) F8 (by decide) fun H9 F9 => ?_
    refine step2 (er_OtherLetters T) (is_OtherLetters T) (by decide) F9 (by decide) fun H10 F10 => ?_
    refine step2 (er_Unfinished T) (is_Unfinished T) (by decide) F10 (by decide) fun H11 F11 => ?_
    refine step2 (er_Endless T) (is_Endless T) (by decide) F11 (by decide) fun H12 F12 => ?_
    refine step2 (er_NoCongruence T) (is_NoCongruence T) (by decide) F12 (by decide) fun H13 F13 => ?_
    refine step2 (er_NoParts T) (is_NoParts T) (by decide) F13 (by decide) fun H14 F14 => ?_
    refine step2 (er_NoLanguage T) (is_NoLanguage T) (by decide) F14 (by decide) fun H15 F15 => ?_
    exact ⟨_, rfl, k _ _ F15⟩
end
end K01

set_option Elab.async false
set_option linter.all false
set_option maxRecDepth 100000
set_option maxHeartbeats 8000000
namespace K01
open PySem PySem.Spec PyProof.Rows L2 Lf
section
variable {P : Program} {w : World} {K : PySem.W.Frag} {mg : Str → Option Value} {base : Heap}
def Dat (K : PySem.W.Frag) (H : Hp) (x : V) : Prop := ∃ d, Dp K H x d ∧ d.canLay0 = true ∧ d.depth ≤ 8
theorem Dat.same {H H' : Hp} {x : V} (h : Dat K H x) (s : Same H H') : Dat K H' x := by
  obtain ⟨d, h, z⟩ := h
  exact ⟨d, dp_same s h, z⟩
theorem IsErr.told {X : Cx} {H : Hp} {e : Addr} {t : Str} {Q : VK} (i : IsErr X.prog X.w X.K X.mg X.base H e t) (q : Q (.str t) H) : ∃ (a C f : Addr) (d : Option Addr) (fd : FuncData) (sp : Sp),
    V.ref e = .ref a ∧ IsC X.K C ∧ Meth X.K C "told" f ∧ XAt H a C d ∧ (∀ dx, d = some dx → ∃ fs, H dx = some (exd dx fs) ∧ fs.lookup ("told" : Str) = none) ∧
    FnOk X.prog X.w X.K X.mg X.base CX0 1 f fd ["self"] sp ∧ Binds X.K fd ["self"] [] ∧ sp [.ref a] H Q E0 := by
  obtain ⟨x, d, c, xa, hd, tl, is⟩ := i.ex
  obtain ⟨f, fd, M, F, b⟩ := tl.ex
  exact ⟨e, _, f, d, fd, _, rfl, c.i, M, xa, hd, F, b, _, rfl, q⟩
theorem shape_int (i : Int) : PyData.canLay0 (.int i) = true ∧ PyData.depth (.int i) ≤ 8 := by
  simp [PyData.canLay0, PyData.depth]
theorem shape_of {d : PyData} (h : d.canLay0 = true ∧ d.depth ≤ 8) : SeqAt.shaped d = true := by
  unfold SeqAt.shaped
  rw [h.1, decide_eq_true (show d.depth ≤ 64 by omega)] <;> rfl
theorem shape_two {d e : PyData} (h : d.canLay0 = true ∧ d.depth ≤ 8) (k : e.canLay0 = true ∧ e.depth ≤ 8) : SeqAt.shaped (.tuple [d, e]) = true := by
  unfold SeqAt.shaped
  have h1 : PyData.canLay0 (.tuple [d, e]) = true := by simp [PyData.canLay0, PyData.canLayAll0, h.1, k.1]
  have h2 : PyData.depth (.tuple [d, e]) ≤ 64 := by
    have a := h.2
    have b := k.2
    simp only [PyData.depth, PyData.depthAll]
    omega
  rw [h1, decide_eq_true h2] <;> rfl
def spLaw (K : PySem.W.Frag) : Sp := fun vs H Q _ => ∃ (a : Addr) (ns : List Int), vs = [.ref a] ∧ SqL K H a (ns.map V.int) ∧ ns.length ≤ 63 ∧ ∀ H', Q (.bl true) H'
theorem words_nd : (((wSingle ++ wFirst) ++ wPlain)).Nodup ∧ (((wSingle ++ wFirst) ++ wPlain)).length = 34 := by
  constructor <;> decide
abbrev tErr2 (K : PySem.W.Frag) (x fl gl : Str) (ta tb : TE) : TE := fun σ H Q => ta σ H fun v H0 => Lf.up tb σ H0 fun u H1 => ∀ a d H', H1 a = none → H1 d = none → Same H1 H' → XAt H' a (He.ga K x) (some d) → H' d = some (exd d [(gl, u), (fl, v)]) → Q (.ref a) H'
theorem blk2 {X : Cx} {x fl gl t : Str} (E : Err2 X.prog X.w X.K X.mg X.base x fl gl t) (is : IsE X.K x) (nf : (("told" : Str) == fl) = false) (ng : (("told" : Str) == gl) = false) (nn : (fl == gl) = false)
    {s0 s1 s2 s5 s6 s7 s8 : Option V} {xv yv : V} {rest : TS} {D : Ends} {H : Hp} (dx : Dat X.K H xv) (dy : Dat X.K H yv)
    (k : ∀ a d H', Same H H' → XAt H' a (He.ga X.K x) (some d) → H' d = some (exd d [(gl, yv), (fl, xv)]) → rest D [s0, s1, s2, some xv, some yv, s5, some (.ref a), s7, s8] H') :
    tSeq (tAsg (tErr2 X.K x fl gl (tVar 3) (tVar 4)) (gName 6)) (tSeq (tIfS (tOr (tTest (tOp (rNeD X.K) (tTup (tCons (tXo X.K fl (tVar 6)) (tCons (tXo X.K gl (tVar 6)) tNil))) (tTup (tCons (tVar 3) (tCons (tVar 4) tNil)))))
      (tTest (tOp rNe (tTold X "told" (tVar 6)) (tC (.str t))))) (tRet (tC (.bl false))) tNext) rest) D [s0, s1, s2, some xv, some yv, s5, s6, s7, s8] H := by
  refine ⟨xv, rfl, _, ⟨yv, rfl, fun a d H1 na nd sF xa xd => ?_⟩, fun _ _ z => z⟩
  obtain ⟨d1, h1, c1⟩ := dx.same sF
  obtain ⟨d2, h2, c2⟩ := dy.same sF
  have l1 : List.lookup fl [(gl, yv), (fl, xv)] = some xv := by simp [List.lookup, nn]
  have l2 : List.lookup gl [(gl, yv), (fl, xv)] = some yv := by simp [List.lookup]
  refine ⟨_, rfl, a, _, d, _, _, rfl, E.c.x, E.no, xa, xd, l1, _, rfl, a, _, d, _, _, rfl, E.c.x, E.no2, xa, xd, l2, (by show 2 ≤ sizeLine; decide), fun t1 n1 => ?_⟩
  refine ⟨_, rfl, _, rfl, (by show 2 ≤ sizeLine; decide), fun t2 n2 => ?_⟩
  have sT := (same_upd (o := .tup [xv, yv]) n1).trans (same_upd (o := .tup [xv, yv]) n2)
  have e1 : upd (upd H1 t1 (.tup [xv, yv])) t2 (.tup [xv, yv]) t1 = some (.tup [xv, yv]) := same_upd n2 _ _ upd_same
  have e2 : upd (upd H1 t1 (.tup [xv, yv])) t2 (.tup [xv, yv]) t2 = some (.tup [xv, yv]) := upd_same
  generalize upd (upd H1 t1 (.tup [xv, yv])) t2 (.tup [xv, yv]) = HT at sT e1 e2 ⊢
  have dd : ∀ {q : Addr}, HT q = some (.tup [xv, yv]) → Dp X.K HT (.ref q) (.tuple [d1, d2]) := fun e => .tup (SqT.of e) (.cons (dp_same sT h1) (.cons (dp_same sT h2) .nil))
  refine ⟨_, _, dd e1, dd e2, shape_two c1 c2, shape_two c1 c2, _, rfl, ?_⟩
  refine ifF (eqv_same (shape_two c1 c2)) ?_
  have xa2 := xa.mono sT
  have xd2 := sT _ _ xd
  refine ⟨_, rfl, (err2_is E is nf ng xa2 xd2).told ⟨rfl, _, rfl, ?_⟩⟩
  refine ifF (by simp) ?_
  exact k a d HT (sF.trans sT) xa2 xd2
theorem scLaw : FnScope ["_law_script", "_law_cell", "_law_s", "_law_x", "_law_y", "_law_words", "_law_error", "_law_kept", "_law_word"] ["_law_script"] (defScope s_law) := ⟨rfl, rfl, rfl, by decide +kernel, rfl, by decide +kernel, by decide +kernel⟩
theorem ok_law {f : Addr} {fd : FuncData} {q : Str} (F : FunD K "law" q (defArgs s_law) (defBody s_law) (defScope s_law) [] [] f fd) (T : Txt P w K mg base)
    (DS : Def P w K mg base CX0 1 "_law_state" ["_law_source"] spState) (DD : Def P w K mg base CX0 1 "_law_digit" ["_law_state_here", "_law_base"] spDigit)
    (D1 : Def P w K mg base CX0 4 "_law_single" ["_law_x"] (spList P w K mg base (wSingle ++ wFirst))) (D2 : Def P w K mg base CX0 3 "_law_plain" [] (spPlain P w K mg base))
    (gF : mg "FoldError" = some (.ref (He.ga K "FoldError"))) (zL : mg "len" = none) (zS : mg "set" = none) (zI : mg "isinstance" = none) (zV : mg "ValueError" = none)
    (k1 : PySem.W.kitOne K (.ref (He.ga K "NoWord")) (.ref (He.ga K "NoText")) = some false) (k2 : PySem.W.kitOne K (.ref (He.ga K "NoText")) (.ref (He.ga K "NoWord")) = some false)
    (k3 : PySem.W.kitAny K (.ref (He.ga K "Untested")) [.ref (He.ga K "NoMonoid"), .ref (He.ga K "TooMany"), .ref (He.ga K "Broken")] = some false) :
    FnOk P w K mg base CX0 5 f fd ["_law_script"] (spLaw K) := by
  refine F.ok scLaw (fun vs H Q E h => ?_) (fun cdv A outer s H vs Q E hr h => ?_)
  · obtain ⟨a, ns, rfl, _⟩ := h
    rfl
  · obtain ⟨a, ns, rfl, hS, hlen, fin⟩ := h
    have r1 : Room 1 _ := hr.mono (by decide)
    have r2 : Room 2 _ := hr.mono (by decide)
    have r3 : Room 3 _ := hr.mono (by decide)
    have eW : (er_NoWord T).g = (er_NoWord T).g := rfl
    refine ⟨_, PSs.nox (pss_cons (ps_for PassesOwn.never rfl (pi_list (pe_slice sl_list (pe_op op_catL (pv 0) (pe_lst (pa_cons pe_int pa_nil))) po_none (po_some pe_int))) (pg_name (i := 1) scLaw.nd rfl (.inl rfl))
      (pss_cons (ps_set (i := 2) scLaw.nd rfl (.inl rfl) (pe_def DS r1 pass0 rfl (pa_cons (pv 1) pa_nil)))
      (pss_cons (ps_set (i := 3) scLaw.nd rfl (.inl rfl) (pe_ix ix_list (pe_lst (pa_cons (pe_def DD r1 pass0 rfl (pa_cons (pv 2) (pa_cons pe_int pa_nil))) (pa_cons pe_non (pa_cons pe_str
          (pa_cons (pe_tup (pa_cons pe_int (pa_cons pe_int pa_nil))) (pa_cons (pe_lst (pa_cons pe_int (pa_cons (pe_lst (pa_cons pe_int pa_nil)) pa_nil))) (pa_cons (pe_un un_neg pe_int) pa_nil)))))))
          (pe_def DD r1 pass0 rfl (pa_cons (pv 2) (pa_cons pe_int pa_nil))) (fun _ _ => rfl)))
      (pss_cons (ps_set (i := 4) scLaw.nd rfl (.inl rfl) (pe_ix ix_list (pe_lst (pa_cons pe_int (pa_cons pe_str (pa_cons (pe_lst (pa_cons pe_int pa_nil)) pa_nil))))
          (pe_def DD r1 pass0 rfl (pa_cons (pv 2) (pa_cons pe_int pa_nil))) (fun _ _ => rfl)))
      (pss_cons (ps_set (i := 5) scLaw.nd rfl (.inl rfl) (pe_lst pa_nil))
      (pss_cons (ps_for PassesOwn.never rfl (pi_list (pe_def D1 hr pass0 rfl (pa_cons (pv 3) pa_nil))) (pg_tup rfl (pgs_cons (pg_name (i := 6) scLaw.nd rfl (.inl rfl)) (pgs_cons (pg_name (i := 7) scLaw.nd rfl (.inl rfl)) (pgs_cons (pg_name (i := 8) scLaw.nd rfl (.inl rfl)) pgs_nil))))
        (pss_cons (ps_if (PW.pt (pw_or (pt_cmpR (op_neD hr.units) (pv 7) (pv 3) (nomark _)) (pw_or (pt_cmpR op_ne (pe_told (pv 6) r1) (pe_op op_add_str pe_str (pv 8)) (nomark _))
            (pw_or1 (pt_not (pt_val (pe_callB call_isX rfl zI PyProof.Rows.boot_isinstance (pa_cons (pv 6) (pa_cons (pe_cl rfl gF) pa_nil)))))))) ) (pss_one (ps_ret pe_bl)) pss_nil)
        (pss_one (ps_expr (pe_bm PySem.F.plainAttrs_list PySem.F.slot_list_append PySem.F.type_list_append mt_append (pv 5) (pa_cons (pv 8) pa_nil))))))
      (pss_cons (ps_for PassesOwn.never rfl (pi_list (pe_def0 D2 r3 pass0 rfl)) (pg_tup rfl (pgs_cons (pg_name (i := 6) scLaw.nd rfl (.inl rfl)) (pgs_cons (pg_name (i := 8) scLaw.nd rfl (.inl rfl)) pgs_nil)))
        (pss_cons (ps_if (PW.pt (pw_or (pt_cmpR op_ne (pe_told (pv 6) r1) (pe_op op_add_str pe_str (pv 8)) (nomark _))
            (pw_or1 (pt_not (pt_val (pe_callB call_isX rfl zI PyProof.Rows.boot_isinstance (pa_cons (pv 6) (pa_cons (pe_bltn (v := .ty "ValueError") rfl zV (by decide +kernel) rfl) pa_nil)))))))) (pss_one (ps_ret pe_bl)) pss_nil)
        (pss_one (ps_expr (pe_bm PySem.F.plainAttrs_list PySem.F.slot_list_append PySem.F.type_list_append mt_append (pv 5) (pa_cons (pv 8) pa_nil))))))
      (pss_cons (ps_if (PW.pt (pw_or (pt_cmpR op_ne (pe_count rfl rfl zL rfl zS (pv 5)) pe_int (nomark _))
          (pw_or (pt_val (pe_callB call_isX rfl zI PyProof.Rows.boot_isinstance (pa_cons (pe_err1 (er_NoWord T) r2 rfl (pv 3)) (pa_cons (pe_cl rfl (er_NoText T).g) pa_nil))))
          (pw_or1 (pt_val (pe_callB call_isX rfl zI PyProof.Rows.boot_isinstance (pa_cons (pe_err1 (er_NoText T) r2 rfl (pv 3)) (pa_cons (pe_cl rfl (er_NoWord T).g) pa_nil)))))))) (pss_one (ps_ret pe_bl)) pss_nil)
      (pss_cons (ps_set (i := 6) scLaw.nd rfl (.inl rfl) (pe_err2 (er_NoMonoid T) r2 rfl (pv 3) (pv 4)))
      (pss_cons (ps_if (PW.pt (pw_or (pt_cmpR (op_neD hr.units) (pe_tup (pa_cons (pe_xo (pv 6)) (pa_cons (pe_xo (pv 6)) pa_nil))) (pe_tup (pa_cons (pv 3) (pa_cons (pv 4) pa_nil))) (nomark _)) (pw_or1 (pt_cmpR op_ne (pe_told (pv 6) r1) pe_str (nomark _))))) (pss_one (ps_ret pe_bl)) pss_nil)
      (pss_cons (ps_set (i := 6) scLaw.nd rfl (.inl rfl) (pe_err2 (er_Broken T) r2 rfl (pv 3) (pv 4)))
      (pss_cons (ps_if (PW.pt (pw_or (pt_cmpR (op_neD hr.units) (pe_tup (pa_cons (pe_xo (pv 6)) (pa_cons (pe_xo (pv 6)) pa_nil))) (pe_tup (pa_cons (pv 3) (pa_cons (pv 4) pa_nil))) (nomark _)) (pw_or1 (pt_cmpR op_ne (pe_told (pv 6) r1) pe_str (nomark _))))) (pss_one (ps_ret pe_bl)) pss_nil)
      (pss_cons (ps_set (i := 6) scLaw.nd rfl (.inl rfl) (pe_err2 (er_Counting T) r2 rfl (pv 3) (pv 4)))
      (pss_cons (ps_if (PW.pt (pw_or (pt_cmpR (op_neD hr.units) (pe_tup (pa_cons (pe_xo (pv 6)) (pa_cons (pe_xo (pv 6)) pa_nil))) (pe_tup (pa_cons (pv 3) (pa_cons (pv 4) pa_nil))) (nomark _)) (pw_or1 (pt_cmpR op_ne (pe_told (pv 6) r1) pe_str (nomark _))))) (pss_one (ps_ret pe_bl)) pss_nil)
      (pss_cons (ps_set (i := 6) scLaw.nd rfl (.inl rfl) (pe_err2 (er_Untested T) r2 rfl (pv 3) (pv 4)))
      (pss_cons (ps_if (PW.pt (pw_or (pt_cmpR (op_neD hr.units) (pe_tup (pa_cons (pe_xo (pv 6)) (pa_cons (pe_xo (pv 6)) pa_nil))) (pe_tup (pa_cons (pv 3) (pa_cons (pv 4) pa_nil))) (nomark _)) (pw_or1 (pt_cmpR op_ne (pe_told (pv 6) r1) pe_str (nomark _))))) (pss_one (ps_ret pe_bl)) pss_nil)
      (pss_one (ps_if (PW.pt (pw_or (pt_not (pt_val (pe_callB call_isX rfl zI PyProof.Rows.boot_isinstance (pa_cons (pv 6) (pa_cons (pe_cl rfl gF) pa_nil)))))
          (pw_or1 (pt_val (pe_callB call_isXT rfl zI PyProof.Rows.boot_isinstance (pa_cons (pv 6) (pa_cons (pe_tup (pa_cons (pe_cl rfl (er_NoMonoid T).g) (pa_cons (pe_cl rfl (er_TooMany T).g) (pa_cons (pe_cl rfl (er_Broken T).g) pa_nil)))) pa_nil))))))) (pss_one (ps_ret pe_bl)) pss_nil)))))))))))))))))
      ) (pss_one (ps_ret pe_bl))), ?_⟩
    refine ⟨_, rfl, (by show 1 ≤ sizeLine; decide), fun z hz => ⟨a, z, _, _, rfl, rfl, L2.Same.seq (same_upd hz) hS, SqL.of upd_same, ?_, fun l0 h0 => ?_⟩⟩
    · rw [List.length_map]
      exact small1000 (by show ns.length + 1 + 1 ≤ 1000; omega) |> Nat.le_of_lt |> Nat.le_trans (Nat.le_succ _)
    refine ⟨3, rfl, l0, _, rfl, SqL.of upd_same, fun l1 h1 => ⟨l1, rfl, ⟨_, SqL.of upd_same⟩, ?_⟩⟩
    generalize hHs : upd (upd (upd H z _) l0 _) l1 _ = Hs
    have at1 : Hs l1 = some (.lst (cutV (ns.map V.int ++ [.int 0]) none (some 3))) := by rw [← hHs]; exact upd_same
    refine for_list (K := K) (a := l1) (xs := cutV (ns.map V.int ++ [.int 0]) none (some 3)) (fun i σ H' => ∃ v1 v2 v3 v4 v5 v6 v7 v8 : Option V, σ = [some (.ref a), v1, v2, v3, v4, v5, v6, v7, v8] ∧ Same Hs H')
      ⟨none, none, none, none, none, none, none, none, rfl, L2.Same.refl _⟩ (fun i σ H' _ ⟨_, _, _, _, _, _, _, _, _, s⟩ => SqL.of (s _ _ at1)) ?_ (fun σ H' _ => fin _)
    rintro i y σ H1 hi ⟨v1, v2, v3, v4, v5, v6, v7, v8, rfl, s1⟩
    obtain ⟨n, rfl⟩ : ∃ n, y = V.int n := by
      have hm := List.mem_of_getElem? hi
      have hm2 := List.mem_of_mem_drop (List.mem_of_mem_take hm)
      rcases List.mem_append.mp hm2 with q | q
      · obtain ⟨n, _, e⟩ := List.mem_map.mp q
        exact ⟨n, e.symm⟩
      · exact ⟨0, List.mem_singleton.mp q⟩
    -- s
    refine ⟨_, rfl, n, rfl, fun l H2 s2 nl src2 => ?_⟩
    have lf : ∀ {o}, Hs l = some o → False := fun e => by rw [s1 _ _ e] at nl; cases nl
    have nls : Hs l = none := by
      cases e : Hs l with
      | none => rfl
      | some o => exact (lf e).elim
    -- x
    refine ⟨_, rfl, l, 100, rfl, src2, (by decide), (by decide), fun d1 H3 _ _ b3 src3 => ?_⟩
    refine ⟨(by show 2 ≤ sizeLine; decide), fun p1 n1 => ⟨(by show 1 ≤ sizeLine; decide), fun p2 n2 => ⟨(by show 2 ≤ sizeLine; decide), fun p3 n3 => ⟨5, rfl, (by show 6 ≤ sizeLine; decide), fun p4 n4 => ?_⟩⟩⟩⟩
    obtain ⟨H7, hH7, s37, e1, e2, e3, e4⟩ : ∃ H7, upd (upd (upd (upd H3 p1 (.tup [.int 0, .int 1])) p2 (.lst [.int 3])) p3 (.lst [.int 2, .ref p2])) p4 (.lst [.int d1, .non, .str "word", .ref p1, .ref p3, .int (-5)]) = H7 ∧
        Same H3 H7 ∧ H7 p1 = some (.tup [.int 0, .int 1]) ∧ H7 p2 = some (.lst [.int 3]) ∧ H7 p3 = some (.lst [.int 2, .ref p2]) ∧ H7 p4 = some (.lst [.int d1, .non, .str "word", .ref p1, .ref p3, .int (-5)]) := by
      refine ⟨_, rfl, (same_upd n1).trans ((same_upd n2).trans ((same_upd n3).trans (same_upd n4))), ?_, ?_, ?_, upd_same⟩
      · exact ((same_upd n2).trans ((same_upd n3).trans (same_upd n4))) _ _ upd_same
      · exact ((same_upd n3).trans (same_upd n4)) _ _ upd_same
      · exact (same_upd n4) _ _ upd_same
    rw [hH7]
    clear hH7
    have offl : ∀ {q : Addr}, H3 q = none → q ≠ l := fun {q} nq z => by
      obtain ⟨_, _, _, e, _⟩ := src3
      rw [z, e] at nq
      cases nq
    have o1 : p1 ≠ l := offl n1
    have o2 : p2 ≠ l := offl ((same_upd n1).free n2)
    have o3 : p3 ≠ l := offl ((same_upd n1).free ((same_upd n2).free n3))
    refine ⟨_, rfl, l, 6, rfl, src3.same s37, (by decide), (by decide), fun d2 H8 a0 a6 b8 src8 => ?_⟩
    have e1 := b8 _ _ o1 e1
    have e2 := b8 _ _ o2 e2
    have e3 := b8 _ _ o3 e3
    have o4 : p4 ≠ l := fun z => by
      obtain ⟨_, _, _, e, _⟩ := src3.same s37
      rw [z, e] at e4
      cases e4
    have e4 := b8 _ _ o4 e4
    have hx : ∃ xv, atI [V.int d1, .non, .str "word", .ref p1, .ref p3, .int (-5)] d2 = some xv ∧ ∀ H' : Hp, H' p1 = some (.tup [.int 0, .int 1]) → H' p2 = some (.lst [.int 3]) → H' p3 = some (.lst [.int 2, .ref p2]) → Dat K H' xv := by
      have dd : d2 = 0 ∨ d2 = 1 ∨ d2 = 2 ∨ d2 = 3 ∨ d2 = 4 ∨ d2 = 5 := by omega
      rcases dd with rfl | rfl | rfl | rfl | rfl | rfl
      · exact ⟨_, rfl, fun H' e1 e2 e3 => ⟨_, .int _, shape_int _⟩⟩
      · exact ⟨_, rfl, fun H' e1 e2 e3 => ⟨_, .non, by decide +kernel⟩⟩
      · exact ⟨_, rfl, fun H' e1 e2 e3 => ⟨_, .str _, by decide +kernel⟩⟩
      · exact ⟨_, rfl, fun H' e1 e2 e3 => ⟨_, .tup (SqT.of e1) (.cons (.int _) (.cons (.int _) .nil)), by decide +kernel⟩⟩
      · exact ⟨_, rfl, fun H' e1 e2 e3 => ⟨_, .lst (SqL.of e3) (.cons (.int _) (.cons (.lst (SqL.of e2) (.cons (.int _) .nil)) .nil)), by decide +kernel⟩⟩
      · exact ⟨_, rfl, fun H' e1 e2 e3 => ⟨_, .int _, by decide +kernel⟩⟩
    obtain ⟨xv, hat, dx⟩ := hx
    refine ⟨p4, _, d2, xv, rfl, rfl, SqL.of e4, hat, ?_⟩
    -- y
    refine ⟨(by show 1 ≤ sizeLine; decide), fun q1 m1 => ⟨(by show 3 ≤ sizeLine; decide), fun q2 m2 => ?_⟩⟩
    have s89 := (same_upd (o := .lst [.int 8]) m1).trans (same_upd (o := .lst [.int 7, .str "x", .ref q1]) m2)
    have f1 : upd (upd H8 q1 (.lst [.int 8])) q2 (.lst [.int 7, .str "x", .ref q1]) q1 = some (.lst [.int 8]) := same_upd m2 _ _ upd_same
    have f2 : upd (upd H8 q1 (.lst [.int 8])) q2 (.lst [.int 7, .str "x", .ref q1]) q2 = some (.lst [.int 7, .str "x", .ref q1]) := upd_same
    generalize upd (upd H8 q1 (.lst [.int 8])) q2 (.lst [.int 7, .str "x", .ref q1]) = H9 at s89 f1 f2 ⊢
    have src9 := src8.same s89
    have p1l : q1 ≠ l := fun z => by
      obtain ⟨_, _, _, e, _⟩ := src9
      rw [z, e] at f1
      cases f1
    have p2l : q2 ≠ l := fun z => by
      obtain ⟨_, _, _, e, _⟩ := src9
      rw [z, e] at f2
      cases f2
    refine ⟨_, rfl, l, 3, rfl, src9, (by decide), (by decide), fun d3 HA c0 c3 bA srcA => ?_⟩
    have f1 := bA _ _ p1l f1
    have f2 := bA _ _ p2l f2
    have hy : ∃ yv, atI [V.int 7, .str "x", .ref q1] d3 = some yv ∧ Dat K HA yv := by
      have dd : d3 = 0 ∨ d3 = 1 ∨ d3 = 2 := by omega
      rcases dd with rfl | rfl | rfl
      · exact ⟨_, rfl, _, .int _, by decide +kernel⟩
      · exact ⟨_, rfl, _, .str _, by decide +kernel⟩
      · exact ⟨_, rfl, _, .lst (SqL.of f1) (.cons (.int _) .nil), by decide +kernel⟩
    obtain ⟨yv, hat2, dy⟩ := hy
    refine ⟨q2, _, d3, yv, rfl, rfl, SqL.of f2, hat2, ?_⟩
    have dxA : Dat K HA xv := dx HA (bA _ _ o1 (s89 _ _ e1)) (bA _ _ o2 (s89 _ _ e2)) (bA _ _ o3 (s89 _ _ e3))
    have sA : Same Hs HA := s1.trans (Same.but ((Same.but ((Same.but s2 nl b3).trans s37) nl b8).trans s89) nl bA)
    clear dx e1 e2 e3 e4 f1 f2 src2 src3 src8 src9 b3 b8 bA s37 s89 hat hat2 n1 n2 n3 n4 m1 m2
    -- words
    refine ⟨Nat.zero_le _, fun lw nw => ?_⟩
    have sW := same_upd (o := .lst []) nw
    have eW : upd HA lw (.lst []) lw = some (.lst []) := upd_same
    generalize upd HA lw (.lst []) = HB at sW eW ⊢
    -- the first loop
    refine ⟨_, rfl, xv, rfl, fun HC l2 G => ⟨l2, rfl, ?_⟩⟩
    obtain ⟨tps, hl2, pr⟩ := G.ex
    refine ⟨⟨_, SqL.of hl2⟩, ?_⟩
    have sC : Same HA HC := sW.trans G.s
    have lne : lw ≠ l2 := fun z => by
      have y := G.n
      rw [← z, eW] at y
      cases y
    refine for_list (K := K) (a := l2) (xs := tps.map V.ref) (fun i σ H' => ∃ v6 v7 v8 : Option V, σ = [some (.ref a), some (.int n), some (.ref l), some xv, some yv, some (.ref lw), v6, v7, v8] ∧ Same HA H' ∧ H' lw = some (.lst (((wSingle ++ wFirst).take i).map V.str)) ∧ But lw HC H')
      ⟨v6, v7, v8, rfl, sC, G.s _ _ eW, But.refl⟩ (fun i σ H' _ ⟨_, _, _, _, _, _, b⟩ => SqL.of (b _ _ (Ne.symm lne) hl2)) ?_ ?_
    · rintro j y σ H' hj ⟨v6, v7, v8, rfl, s', ew, b'⟩
      obtain ⟨tp, htp, rfl⟩ := map_at hj
      obtain ⟨wd, hwd, e, het, ie⟩ := pair_get pr htp
      have so := But.solid (G.s _ _ eW) b'
      have ht2 := so _ _ het (fun xs z => by cases z)
      have ie2 := ie.solid so
      obtain ⟨d, hd, sh⟩ := dxA.same s'
      refine ⟨tp, _, rfl, SqT.of ht2, rfl, _, _, rfl, _, _, rfl, _, _, rfl, rfl, ?_⟩
      refine ⟨_, rfl, _, rfl, d, d, hd, hd, shape_of sh, shape_of sh, _, rfl, ?_⟩
      refine ifF (eqv_same (shape_of sh)) ?_
      refine ⟨_, rfl, ie2.told ?_⟩
      have bw : ("refused " : Str).length + wd.length ≤ sizeLine := by
        have hm := List.mem_of_getElem? hwd
        have z : ∀ y ∈ (wSingle ++ wFirst), ("refused " : Str).length + y.length ≤ sizeLine := by decide
        exact z wd hm
      refine ⟨_, rfl, _, _, rfl, rfl, bw, rfl, _, rfl, ?_⟩
      refine ifF (by simp) ?_
      -- not isinstance(error, FoldError)
      obtain ⟨x, dd, ec, xa, xd, tl, is⟩ := ie2.ex
      refine ⟨_, rfl, e, _, dd, _, _, true, rfl, .own _, ec.i, xa, fun dx z => (xd dx z).imp fun fs q => q.1, is.fold, true, rfl, ?_⟩
      refine ifF rfl ?_
      have nlw : ∀ {q : Addr}, H' q = some (.tup [.ref e, xv, .str wd]) → q ≠ lw := fun {q} z y => by
        rw [y, ew] at z
        cases z
      refine ⟨_, rfl, .inl ⟨rfl, _, SqL.of ew⟩, _, rfl, lw, _, _, rfl, rfl, ew, ?_, ?_⟩
      · have z : (wSingle ++ wFirst).length ≤ 100 := by decide
        rw [List.length_map, List.length_take]
        exact small1000 (by omega)
      refine ⟨_, _, _, rfl, Same.but s' nw But.upd, ?_, b'.trans But.upd⟩
      rw [upd_same, take_snoc hwd, List.map_append]
      rfl
    · rintro σ H' ⟨v6, v7, v8, rfl, s', ew, b'⟩
      have full : (wSingle ++ wFirst).take (tps.map V.ref).length = wSingle ++ wFirst := by
        rw [List.length_map, Paired.length pr, List.take_length]
      rw [full] at ew
      -- the second loop
      refine ⟨rfl, fun HD l3 G3 => ⟨l3, rfl, ?_⟩⟩
      obtain ⟨tqs, hl3, pq⟩ := G3.ex
      refine ⟨⟨_, SqL.of hl3⟩, ?_⟩
      have sD : Same HA HD := s'.trans G3.s
      have lne3 : lw ≠ l3 := fun z => by
        have y := G3.n
        rw [← z, ew] at y
        cases y
      refine for_list (K := K) (a := l3) (xs := tqs.map V.ref) (fun i σ H' => ∃ v6 v7 v8 : Option V, σ = [some (.ref a), some (.int n), some (.ref l), some xv, some yv, some (.ref lw), v6, v7, v8] ∧ Same HA H' ∧ H' lw = some (.lst (((wSingle ++ wFirst) ++ wPlain.take i).map V.str)) ∧ But lw HD H')
        ⟨v6, v7, v8, rfl, sD, ?_, But.refl⟩ (fun i σ H' _ ⟨_, _, _, _, _, _, b⟩ => SqL.of (b _ _ (Ne.symm lne3) hl3)) ?_ ?_
      · rw [List.take_zero, List.append_nil]
        exact G3.s _ _ ew
      · rintro j y σ H2' hj ⟨u6, u7, u8, rfl, s2', ew2, b2'⟩
        obtain ⟨tp, htp, rfl⟩ := map_at hj
        obtain ⟨wd, hwd, e, het, ie⟩ := pair_get pq htp
        have so := But.solid (G3.s _ _ ew) b2'
        have ht2 := so _ _ het (fun xs z => by cases z)
        have ie2 := ie.solid so
        refine ⟨tp, _, rfl, SqT.of ht2, rfl, _, _, rfl, _, _, rfl, rfl, ?_⟩
        refine ⟨_, rfl, ie2.told ?_⟩
        have bw : ("refused " : Str).length + wd.length ≤ sizeLine := by
          have hm := List.mem_of_getElem? hwd
          have z : ∀ y ∈ wPlain, ("refused " : Str).length + y.length ≤ sizeLine := by decide
          exact z wd hm
        refine ⟨_, rfl, _, _, rfl, rfl, bw, rfl, _, rfl, ?_⟩
        refine ifF (by simp) ?_
        obtain ⟨x, dd, ec, xa, xd, tl, is⟩ := ie2.ex
        refine ⟨_, rfl, e, _, dd, _, _, true, rfl, .ty _, ec.i, xa, fun dx z => (xd dx z).imp fun fs q => q.1, is.val, true, rfl, ?_⟩
        refine ifF rfl ?_
        refine ⟨_, rfl, .inl ⟨rfl, _, SqL.of ew2⟩, _, rfl, lw, _, _, rfl, rfl, ew2, ?_, ?_⟩
        · have z : (wSingle ++ wFirst).length ≤ 100 := by decide
          have z2 : wPlain.length ≤ 100 := by decide
          rw [List.length_map, List.length_append, List.length_take]
          exact small1000 (by omega)
        refine ⟨_, _, _, rfl, Same.but s2' nw But.upd, ?_, b2'.trans But.upd⟩
        rw [upd_same, take_snoc hwd]
        simp
      · rintro σ H2' ⟨u6, u7, u8, rfl, s2', ew2, b2'⟩
        have full2 : wPlain.take (tqs.map V.ref).length = wPlain := by
          rw [List.length_map, Paired.length pq, List.take_length]
        rw [full2] at ew2
        have dxE := dxA.same s2'
        have dyE := dy.same s2'
        have sE := sA.trans s2'
        refine ⟨_, rfl, lw, _, rfl, SqL.of ew2, words_nd.1, (by rw [words_nd.2]; decide), rfl, _, rfl, ?_⟩
        refine ifF (by rw [words_nd.2]; rfl) ?_
        refine ⟨xv, rfl, fun a1 x1 HF _ _ sF xa1 xd1 => ?_⟩
        refine ⟨a1, _, some x1, _, _, false, rfl, .own _, (er_NoWord T).c.i, xa1, (fun dx z => by cases z; exact ⟨_, xd1⟩), k1, false, rfl, ?_⟩
        refine ifF rfl ?_
        refine ⟨xv, rfl, fun a2 x2 HG _ _ sG xa2 xd2 => ?_⟩
        refine ⟨a2, _, some x2, _, _, false, rfl, .own _, (er_NoText T).c.i, xa2, (fun dx z => by cases z; exact ⟨_, xd2⟩), k2, false, rfl, ?_⟩
        refine ifF rfl ?_
        have sH := sE.trans (sF.trans sG)
        have dxG := (dxE.same sF).same sG
        have dyG := (dyE.same sF).same sG
        refine blk2 (er_NoMonoid T) (is_NoMonoid T) (by decide) (by decide) (by decide) dxG dyG fun a3 x3 HH sI _ _ => ?_
        have dxI := dxG.same sI
        have dyI := dyG.same sI
        refine blk2 (er_Broken T) (is_Broken T) (by decide) (by decide) (by decide) dxI dyI fun a4 x4 HI sJ _ _ => ?_
        have dxJ := dxI.same sJ
        have dyJ := dyI.same sJ
        refine blk2 (er_Counting T) (is_Counting T) (by decide) (by decide) (by decide) dxJ dyJ fun a5 x5 HJ sK _ _ => ?_
        refine blk2 (er_Untested T) (is_Untested T) (by decide) (by decide) (by decide) (dxJ.same sK) (dyJ.same sK) fun a6 x6 HK sL xa6 xd6 => ?_
        refine ⟨_, rfl, a6, _, some x6, _, _, true, rfl, .own _, (er_Untested T).c.i, xa6, (fun dx z => by cases z; exact ⟨_, xd6⟩), (is_Untested T).fold, true, rfl, ?_⟩
        refine ifF rfl ?_
        refine ⟨_, rfl, (by show 3 ≤ sizeLine; decide), fun t nt => ?_⟩
        refine ⟨a6, _, some x6, t, _, _, false, rfl, upd_same, .cons (.own _) (.cons (.own _) (.cons (.own _) .nil)), (er_Untested T).c.i, xa6.mono (same_upd nt), (fun dx z => by cases z; exact ⟨_, same_upd nt _ _ xd6⟩), k3, false, rfl, ?_⟩
        refine ifF rfl ?_
        exact ⟨_, _, _, _, _, _, _, _, rfl, (sH.trans (sI.trans (sJ.trans (sK.trans sL)))).trans (same_upd nt)⟩
end
end K01

set_option Elab.async false
set_option linter.all false
set_option maxRecDepth 100000
set_option maxHeartbeats 8000000
namespace K01
open PySem PySem.Spec PyProof.Rows L2 Lf
theorem facts {P : Program} {w : World} {K : PySem.W.Frag} {h : Heap} {mg : Str → Option Value} {f : Addr} (X : K.In h) (G : h.Ns mainGlobals mg) (hfa : mg ("law" : Str) = some (.ref f)) (c : He.SaysD fa fn K) (m : ex K = true) :
    ∃ fd : FuncData, (∀ (s : Shared) (v : Value), BindsTo s fd ⟨[v], []⟩ [("_law_script", v)]) ∧ ∀ base : Heap, K.In base → base.Ns mainGlobals mg → FnOk P w K mg base CX0 5 f fd ["_law_script"] (spLaw K) := by
  obtain ⟨fdS, FS⟩ := c.def_ 62 (d := d_L_state) rfl
  obtain ⟨fdD, FD⟩ := c.def_ 63 (d := d_L_digit) rfl
  obtain ⟨fd1, F1⟩ := c.def_ 64 (d := d_L_first) rfl
  obtain ⟨fd2, F2⟩ := c.def_ 65 (d := d_L_single) rfl
  obtain ⟨fd3, F3⟩ := c.def_ 66 (d := d_L_plain) rfl
  obtain ⟨fd, F⟩ := c.def_ 67 (d := d_law) rfl
  have gl : ∀ (i : Nat) (x : Str), fa[i]? = some (.glo x) → mg x = some (.ref (He.ga K x)) := fun i x e => He.glo_ok X G (c.fact i e)
  have fr : ∀ (i : Nat) (x : Str), fa[i]? = some (.free x) → mg x = none := fun i x e => He.free_ok X G (c.fact i e)
  have e := hfa.symm.trans (gl 44 "law" rfl)
  cases e
  have b := FunD.bindsA (ps := ["_law_script"]) F fun _ _ _ _ _ _ us hl => match us, hl with | [_], _ => rfl
  refine ⟨fd, fun s v => b s [v] rfl, fun base _ _ => ?_⟩
  have T : Txt P w K mg base := ⟨c, m, gl, fr⟩
  have DS : Def P w K mg base CX0 1 "_law_state" ["_law_source"] spState := ⟨_, fdS, T.gl 39 "_law_state" rfl, FS.kp, ok_state FS (T.fr 101 "abs" rfl) (T.fr 102 "int" rfl), FS.bindsN fun _ _ _ _ _ _ us hl => match us, hl with | [_], _ => rfl⟩
  have DD : Def P w K mg base CX0 1 "_law_digit" ["_law_state_here", "_law_base"] spDigit := ⟨_, fdD, T.gl 40 "_law_digit" rfl, FD.kp, ok_digit FD (T.fr 102 "int" rfl), FD.bindsN fun _ _ _ _ _ _ us hl => match us, hl with | [_, _], _ => rfl⟩
  have D0 : Def P w K mg base CX0 3 "_law_first" ["_law_x"] (spList P w K mg base wFirst) := ⟨_, fd1, T.gl 41 "_law_first" rfl, F1.kp, ok_first F1 T, F1.bindsN fun _ _ _ _ _ _ us hl => match us, hl with | [_], _ => rfl⟩
  have D1 : Def P w K mg base CX0 4 "_law_single" ["_law_x"] (spList P w K mg base (wSingle ++ wFirst)) := ⟨_, fd2, T.gl 42 "_law_single" rfl, F2.kp, ok_single F2 T D0, F2.bindsN fun _ _ _ _ _ _ us hl => match us, hl with | [_], _ => rfl⟩
  have D2 : Def P w K mg base CX0 3 "_law_plain" [] (spPlain P w K mg base) := ⟨_, fd3, T.gl 43 "_law_plain" rfl, F3.kp, ok_plain F3 T, F3.bindsN fun _ _ _ _ _ _ us hl => match us, hl with | [], _ => rfl⟩
  obtain ⟨_, m2⟩ := He.ba m
  obtain ⟨_, m3⟩ := He.ba m2
  obtain ⟨m4, m5⟩ := He.ba m3
  obtain ⟨m6, m7⟩ := He.ba m5
  exact ok_law F T DS DD D1 D2 (T.gl 0 "FoldError" rfl) (T.fr 98 "len" rfl) (T.fr 99 "set" rfl) (T.fr 100 "isinstance" rfl) (T.fr 103 "ValueError" rfl) (of_decide_eq_true m4) (of_decide_eq_true m6) (of_decide_eq_true m7)
end K01
open PySem PySem.W PySem.Calls PyProof.Rows
theorem PySem.Challenge.cw_letterfolds_k01_errors_holds : PySem.Challenge.rw_letterfolds_k01_errors.Holds := by
  w_on; o_law
  refine HandSHeadRun.head_any (r := K01.R) (q := K01.vw) (H := K01.hk) (ob := K01.ob) (M := 20000) (loose := K01.loose) (d := HandSHeadRun.topDef K01.R.prog 46) (kwd := []) K01.ob_eq
    (by kernel_rfl) (fun s => by kernel_rfl) K01.run (by kernel_rfl) (by kernel_rfl) (by kernel_rfl) (by rfl) (by first | assumption | decide +kernel) (by decide +kernel) ⟨rfl, rfl, rfl, rfl, rfl, by decide +kernel⟩ ?hw ?hc
  case hw => w_witness2
  case hc =>
    refine L2.walk_ofE (l := PySem.Challenge.rw_letterfolds_k01_errors) (n := 63) (k := 5) (x := "_law_script") (CX := L2.CX0) rfl (by decide) (by kernel_rfl) ⟨rfl, by decide, by decide⟩ ?F (fun _ _ _ _ z => z)
    intro w mg fa h Y G hmg0
    obtain ⟨K, KX, c, cm⟩ := Y
    have hmg : mg ("law" : PySem.Str) = some (.ref fa) := by
      have e : (HandSHeadRun.topDef K01.R.prog 46).name = ("law" : PySem.Str) := by kernel_rfl
      rw [← e]
      exact hmg0
    obtain ⟨fd, hb, hF⟩ := K01.facts (P := PySem.Challenge.rw_letterfolds_k01_errors.prog) (w := w) KX G hmg c cm
    exact ⟨K, fd, K01.spLaw K, KX, hb, fun H a ns hl _ hS => ⟨a, ns, rfl, hS, hl, fun _ => rfl⟩, hF⟩
