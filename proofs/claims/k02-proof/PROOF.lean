import PyProof.Rows.All
import Wide.All
import OpenK.AllK
import Wide.FinOn
import HandS.ForExc
import HandS.IsInst
import HandS.Property
import HandS.Gcd
import HandS.Wide
import HandS.Defaults
import HandS.Base
import HandS.Call
import HandS.List
import HandS.Ends
import HandS.Words
import HandS.Exc
import HandS.ExcOwn
import HandS.ExcCtx
import HandS.WordsExc
import HandS.TryMany
import PySem.Challenge.RW_bestpapers_k02_fraction_texts
import KE.KFromBytes
import HandS.SlotsOwn
import HandS.OwnEq
import HandS.TupLe
import HandS.Comp
import HandS.Walk
import HandS.Zip
import HandS.ExcIs
import KE.KExcIs
import HandS.ExcField
import HandS.ExcInit
import HandS.Text
import HandS.HotCalls
import HandS.ExcInitHot
import HandS.RaiseFrom
import KE.GoesRaise
import HandS.ClsMeth
import HandS.HeadNt
import HandS.StrMore
import HandS.FStr
import HandS.RaiseMore
import HandS.Codes
import PyProof.StrOps2
import PyProof.CallStr
import PyProof.Rows.StrDigitsNeg
import HandS.LawCells
import HandS.ForMost
set_option Elab.async false
set_option linter.all false
set_option maxRecDepth 100000
set_option maxHeartbeats 4000000
set_option exponentiation.threshold 10000
namespace Bp
open PySem.Spec PySem PyProof.Rows L2 PySem.W

section
variable {prog : Program} {w : World} {A : Around} {E : Value → Shared → Prop} {s : Shared} {C dx p : Addr} {Q : Value → Shared → Prop} {i : Int} {t : Tok}
theorem dec_add (ho : s.heap.get? p = some (instObj C dx)) (h : Q .notImplemented s) : wpAny (model prog w) A (call (.builtin "int.__add__") [.int i t, .ref p]) Q E s := by
  obtain ⟨hp, g, d, tk, os⟩ := s
  refine wpAny_call (codeAny_call_builtin F.slot_int_add.plain F.entry_int_add (F.slot_int_add.check _ _ _ _ _ _ _ _ (typeIs_int _ i t) (F.args_int_add_2 _ _) ?_))
  wp_walk using AutoSeq1.wpAny_loadPart' ho
  exact h
theorem dec_sub (ho : s.heap.get? p = some (instObj C dx)) (h : Q .notImplemented s) : wpAny (model prog w) A (call (.builtin "int.__sub__") [.int i t, .ref p]) Q E s := by
  obtain ⟨hp, g, d, tk, os⟩ := s
  refine wpAny_call (codeAny_call_builtin F.slot_int_sub.plain F.entry_int_sub (F.slot_int_sub.check _ _ _ _ _ _ _ _ (typeIs_int _ i t) (F.args_int_sub_2 _ _) ?_))
  wp_walk using AutoSeq1.wpAny_loadPart' ho
  exact h
theorem dec_mul (ho : s.heap.get? p = some (instObj C dx)) (h : Q .notImplemented s) : wpAny (model prog w) A (call (.builtin "int.__mul__") [.int i t, .ref p]) Q E s := by
  obtain ⟨hp, g, d, tk, os⟩ := s
  refine wpAny_call (codeAny_call_builtin F.slot_int_mul.plain F.entry_int_mul (F.slot_int_mul.check _ _ _ _ _ _ _ _ (typeIs_int _ i t) (F.args_int_mul_2 _ _) ?_))
  wp_walk using AutoSeq1.wpAny_loadPart' ho
  exact h
theorem dec_floordiv (ho : s.heap.get? p = some (instObj C dx)) (h : Q .notImplemented s) : wpAny (model prog w) A (call (.builtin "int.__floordiv__") [.int i t, .ref p]) Q E s := by
  obtain ⟨hp, g, d, tk, os⟩ := s
  refine wpAny_call (codeAny_call_builtin F.slot_int_floordiv.plain F.entry_int_floordiv (F.slot_int_floordiv.check _ _ _ _ _ _ _ _ (typeIs_int _ i t) (F.args_int_floordiv_2 _ _) ?_))
  wp_walk using AutoSeq1.wpAny_loadPart' ho
  exact h
theorem dec_mod (ho : s.heap.get? p = some (instObj C dx)) (h : Q .notImplemented s) : wpAny (model prog w) A (call (.builtin "int.__mod__") [.int i t, .ref p]) Q E s := by
  obtain ⟨hp, g, d, tk, os⟩ := s
  refine wpAny_call (codeAny_call_builtin F.slot_int_mod.plain F.entry_int_mod (F.slot_int_mod.check _ _ _ _ _ _ _ _ (typeIs_int _ i t) (F.args_int_mod_2 _ _) ?_))
  wp_walk using AutoSeq1.wpAny_loadPart' ho
  exact h
theorem dec_lt (ho : s.heap.get? p = some (instObj C dx)) (h : Q .notImplemented s) : wpAny (model prog w) A (call (.builtin "int.__lt__") [.int i t, .ref p]) Q E s := by
  obtain ⟨hp, g, d, tk, os⟩ := s
  refine wpAny_call (codeAny_call_builtin F.slot_int_lt.plain F.entry_int_lt (F.slot_int_lt.check _ _ _ _ _ _ _ _ (typeIs_int _ i t) (F.args_int_lt_2 _ _) ?_))
  wp_walk using AutoSeq1.wpAny_loadPart' ho
  exact h
theorem dec_le (ho : s.heap.get? p = some (instObj C dx)) (h : Q .notImplemented s) : wpAny (model prog w) A (call (.builtin "int.__le__") [.int i t, .ref p]) Q E s := by
  obtain ⟨hp, g, d, tk, os⟩ := s
  refine wpAny_call (codeAny_call_builtin F.slot_int_le.plain F.entry_int_le (F.slot_int_le.check _ _ _ _ _ _ _ _ (typeIs_int _ i t) (F.args_int_le_2 _ _) ?_))
  wp_walk using AutoSeq1.wpAny_loadPart' ho
  exact h
theorem dec_gt (ho : s.heap.get? p = some (instObj C dx)) (h : Q .notImplemented s) : wpAny (model prog w) A (call (.builtin "int.__gt__") [.int i t, .ref p]) Q E s := by
  obtain ⟨hp, g, d, tk, os⟩ := s
  refine wpAny_call (codeAny_call_builtin F.slot_int_gt.plain F.entry_int_gt (F.slot_int_gt.check _ _ _ _ _ _ _ _ (typeIs_int _ i t) (F.args_int_gt_2 _ _) ?_))
  wp_walk using AutoSeq1.wpAny_loadPart' ho
  exact h
theorem dec_ge (ho : s.heap.get? p = some (instObj C dx)) (h : Q .notImplemented s) : wpAny (model prog w) A (call (.builtin "int.__ge__") [.int i t, .ref p]) Q E s := by
  obtain ⟨hp, g, d, tk, os⟩ := s
  refine wpAny_call (codeAny_call_builtin F.slot_int_ge.plain F.entry_int_ge (F.slot_int_ge.check _ _ _ _ _ _ _ _ (typeIs_int _ i t) (F.args_int_ge_2 _ _) ?_))
  wp_walk using AutoSeq1.wpAny_loadPart' ho
  exact h
theorem dec_eq (ho : s.heap.get? p = some (instObj C dx)) (h : Q .notImplemented s) : wpAny (model prog w) A (call (.builtin "int.__eq__") [.int i t, .ref p]) Q E s := by
  obtain ⟨hp, g, d, tk, os⟩ := s
  refine wpAny_call (codeAny_call_builtin F.slot_int_eq.plain F.entry_int_eq (F.slot_int_eq.check _ _ _ _ _ _ _ _ (typeIs_int _ i t) (F.args_int_eq_2 _ _) ?_))
  wp_walk using AutoSeq1.wpAny_loadPart' ho
  exact h
theorem dec_ne (ho : s.heap.get? p = some (instObj C dx)) (h : Q .notImplemented s) : wpAny (model prog w) A (call (.builtin "int.__ne__") [.int i t, .ref p]) Q E s := by
  obtain ⟨hp, g, d, tk, os⟩ := s
  refine wpAny_call (codeAny_call_builtin F.slot_int_ne.plain F.entry_int_ne (F.slot_int_ne.check _ _ _ _ _ _ _ _ (typeIs_int _ i t) (F.args_int_ne_2 _ _) ?_))
  wp_walk using AutoSeq1.wpAny_loadPart' ho
  exact h

/-- the answer of a def of one's own for an operator: some value -/
abbrev Got (Q : Value → Shared → Prop) (r : Option Value) (s' : Shared) : Prop := ∃ v, r = some v ∧ Q v s'
section
variable {K : Frag} {f g : Addr} {ox : Obj} {od : Option Obj} {nm T : String} {b : Value} {x : Addr} {fo ro rc : Option Value}
/-- x op b, both of the class at C -/
theorem own1_same (X : K.In s.heap) (I : InstAt s.heap x ox C od) (hb : Looks (model prog w) s.heap (typeOf b) (.ref C)) (hc : selfFirst K C = true)
    (hs : findIn K (.ref C) (PySem.dunder nm) = some (some (.ref f))) (hf : isFn K (.ref f) = true)
    (h : wpAny (model prog w) A (call (.ref f) [.ref x, b]) (PySem.W.CmpBack Q) E s) : wpAny (model prog w) A (binaryOp1 nm (.ref x) b) (Got Q) E s := by
  have k1 := ksp_try X I hs hf h
  obtain ⟨cd, rest, hcd, hm⟩ := ksp_first hc
  obtain ⟨hh, gg, d, tt, os⟩ := s
  have e1 : Looks (model prog w) hh (typeOf (.ref x)) (.ref C) := I.type
  have e3 : Looks (model prog w) hh (fillsNumberSlot (.ref C) nm) true := fills_K X hcd hm hs
  unfold binaryOp1
  refine wpAny_bind (e1.at (wpAny_bind (hb.at (wpAny_bind (e3.at ?_)))))
  simp only [beq_self_eq_true, if_true]
  ksp_lk
  refine wpAny_mono k1 (fun r s' q => ?_) fun _ _ e => e
  obtain ⟨v, rfl, q⟩ := q
  ksp_lk
  exact ⟨v, rfl, q⟩
/-- x op b, x of the class at C, b of a built-in type -/
theorem own1_base (X : K.In s.heap) (I : InstAt s.heap x ox C od) (hb : typeOf b = pure (.type T)) (hc : selfFirst K C = true)
    (hs : findIn K (.ref C) (PySem.dunder nm) = some (some (.ref f))) (hf : isFn K (.ref f) = true) (hr : findIn K (.ref C) (dunderR nm) = some rc) (hp : rc = none ∨ ∃ g : Addr, rc = some (.ref g))
    (h1 : findIn K (.type T) (PySem.dunder nm) = some fo) (h2 : findIn K (.type T) (dunderR nm) = some ro) (hsub : subIn K (.type T) (.ref C) = some false)
    (h : wpAny (model prog w) A (call (.ref f) [.ref x, b]) (PySem.W.CmpBack Q) E s) : wpAny (model prog w) A (binaryOp1 nm (.ref x) b) (Got Q) E s := by
  have k1 := ksp_try X I hs hf h
  obtain ⟨cd, rest, hcd, hm⟩ := ksp_first hc
  obtain ⟨hh, gg, d, tt, os⟩ := s
  have e1 : Looks (model prog w) hh (typeOf (.ref x)) (.ref C) := I.type
  have e2 : Looks (model prog w) hh (typeOf b) (.type T) := .of_pure hb
  have e3 : Looks (model prog w) hh (fillsNumberSlot (.ref C) nm) true := fills_K X hcd hm hs
  have e4 : Looks (model prog w) hh (fillsNumberSlot (.type T) nm) _ := ksp_fillsT X h1 h2
  have e5 : Looks (model prog w) hh (isSubtype (.type T) (.ref C)) false := looks_subIn X hsub
  have e6 : Looks (model prog w) hh (numberSlotInPython (.ref C) nm) true := ksp_inPy X hs hr hp
  have e7 : Looks (model prog w) hh (numberSlotInPython (.type T) nm) false := .of_pure rfl
  have e8 : Looks (model prog w) hh (typeLookup (.type T) (dunderR nm)) ro := looks_findIn X h2
  generalize ((fo.isSome && !isSeqSlot fo) || (ro.isSome && !isSeqSlot ro)) = right at e4
  have ne : (Value.ref C == Value.type T) = false := Bool.eq_false_iff.mpr fun q => by cases beq_iff_eq.mp q
  unfold binaryOp1
  refine wpAny_bind (e1.at (wpAny_bind (e2.at (wpAny_bind (e3.at ?_)))))
  simp only [ne, Bool.false_eq_true, if_false]
  cases right <;>
  · ksp_lk
    refine wpAny_mono k1 (fun r s' q => ?_) fun _ _ e => e
    obtain ⟨v, rfl, q⟩ := q
    ksp_lk
    exact ⟨v, rfl, q⟩
/-- i op x, i an int, x of the class at C: the int declines, the reflected def answers -/
theorem own1_refl {idl : String} (X : K.In s.heap) (I : InstAt s.heap x ox C od) (hc : selfFirst K C = true) (hfl : fillsNumberSlot (.type "int") nm = pure true)
    (hs : findIn K (.ref C) (PySem.dunder nm) = some (some (.ref f))) (hr : findIn K (.ref C) (dunderR nm) = some (some (.ref g))) (hg : isFn K (.ref g) = true) (hsub : subIn K (.ref C) (.type "int") = some false)
    (slot : Slot "int" (PySem.dunder nm) idl) (dec : ∀ {Q : Value → Shared → Prop} {E : Value → Shared → Prop}, Q .notImplemented s → wpAny (model prog w) A (call (.builtin idl) [.int i t, .ref x]) Q E s)
    (h : wpAny (model prog w) A (call (.ref g) [.ref x, .int i t]) (PySem.W.CmpBack Q) E s) : wpAny (model prog w) A (binaryOp1 nm (.int i t) (.ref x)) (Got Q) E s := by
  have k1 := ksp_try X I hr hg h
  obtain ⟨cd, rest, hcd, hm⟩ := ksp_first hc
  have k2 : wpAny (model prog w) A (tryMethod (.int i t) (PySem.dunder nm) (.ref x)) (fun r s' => r = none ∧ s' = s) E s := wpAny_tryMethod_declines (typeIs_int s i t) slot (dec ⟨rfl, rfl, rfl⟩)
  obtain ⟨hh, gg, d, tt, os⟩ := s
  have e1 : Looks (model prog w) hh (typeOf (.ref x)) (.ref C) := I.type
  have e2 : Looks (model prog w) hh (typeOf (.int i t)) (.type "int") := .of_pure rfl
  have e3 : Looks (model prog w) hh (fillsNumberSlot (.ref C) nm) true := fills_K X hcd hm hs
  have e4 : Looks (model prog w) hh (fillsNumberSlot (.type "int") nm) true := .of_pure hfl
  have e5 : Looks (model prog w) hh (isSubtype (.ref C) (.type "int")) false := looks_subIn X hsub
  have e7 : Looks (model prog w) hh (numberSlotInPython (.type "int") nm) false := .of_pure rfl
  have ne : (Value.type "int" == Value.ref C) = false := Bool.eq_false_iff.mpr fun q => by cases beq_iff_eq.mp q
  unfold binaryOp1
  refine wpAny_bind (e2.at (wpAny_bind (e1.at (wpAny_bind (e4.at ?_)))))
  simp only [ne, Bool.false_eq_true, if_false]
  ksp_lk
  refine wpAny_mono k2 (fun r s' q => ?_) fun _ _ e => e
  obtain ⟨rfl, rfl⟩ := q
  ksp_lk
  refine wpAny_mono k1 (fun r s' q => ?_) fun _ _ e => e
  obtain ⟨v, rfl, q⟩ := q
  ksp_lk
  exact ⟨v, rfl, q⟩
/-- the operator from its first half -/
theorem bin_of1 {op : Operator} {a b : Value} (h : wpAny (model prog w) A (binaryOp1 op.info.2 a b) (Got Q) E s) : wpAny (model prog w) A (binaryOp op a b) Q E s := by
  rcases hi : op.info with ⟨sym, n⟩
  rw [hi] at h
  simp only [binaryOp, hi]
  refine wpAny_holding (wpAny_bind (wpAny_mono h (fun r s' q => ?_) fun _ _ e => e))
  obtain ⟨v, rfl, q⟩ := q
  exact wpAny_pure q
/-- x op= b where the class has no operator in place -/
theorem inp_of1 {op : Operator} {cd : ClassData} (X : K.In s.heap) (I : InstAt s.heap x ox C od) (hcd : clsIn K C = some cd) (hm : cd.mro = [.ref C, .type "object"])
    (n1 : findIn K (.ref C) (dunderI op.info.2) = some none) (n2 : findIn K (.type "object") (dunderI op.info.2) = some none)
    (h : wpAny (model prog w) A (binaryOp1 op.info.2 (.ref x) b) (Got Q) E s) : wpAny (model prog w) A (inplaceOp op (.ref x) b) Q E s := by
  obtain ⟨hh, gg, d, tt, os⟩ := s
  have e1 : Looks (model prog w) hh (typeOf (.ref x)) (.ref C) := I.type
  have e2 : Looks (model prog w) hh (mroOf (.ref C)) [.ref C, .type "object"] := hm ▸ (looks_clsIn X hcd).andThen (f := fun cd => pure cd.mro) .now
  have e3 : Looks (model prog w) hh (typeLookup (.ref C) (dunderI op.info.2)) none := looks_findIn X n1
  have e4 : Looks (model prog w) hh (typeLookup (.type "object") (dunderI op.info.2)) none := looks_findIn X n2
  unfold inplaceOp fillsInplaceSlot
  refine wpAny_holding ?_
  refine wpAny_bind (e1.at ?_)
  refine wpAny_bind ?_
  refine wpAny_bind (e2.at ?_)
  rw [List.anyM_cons]
  refine wpAny_bind (wpAny_bind (e3.at (wpAny_pure ?_)))
  simp only [Bool.false_eq_true, if_false]
  rw [List.anyM_cons]
  refine wpAny_bind (wpAny_bind (e4.at (wpAny_pure ?_)))
  simp only [Bool.false_eq_true, if_false]
  rw [List.anyM_nil]
  refine wpAny_pure ?_
  simp only [Bool.false_eq_true, if_false]
  refine wpAny_bind (wpAny_mono h (fun r s' q => ?_) fun _ _ e => e)
  obtain ⟨v, rfl, q⟩ := q
  exact wpAny_pure q
/-- i < x and its like, i an int: the int declines, the turned def answers -/
theorem cmp_refl {op : CmpOp} {idl : String} (hu : A.units < cLine) (X : K.In s.heap) (I : InstAt s.heap x ox C od) (hr : findIn K (.ref C) (cmpInfo op).2.2 = some (some (.ref g))) (hg : isFn K (.ref g) = true)
    (hsub : subIn K (.ref C) (.type "int") = some false) (slot : Slot "int" (cmpInfo op).2.1 idl)
    (dec : ∀ {Q : Value → Shared → Prop} {E : Value → Shared → Prop}, Q .notImplemented s → wpAny (model prog w) A (call (.builtin idl) [.int i t, .ref x]) Q E s)
    (h : wpAny (model prog w) A (call (.ref g) [.ref x, .int i t]) (PySem.W.CmpBack Q) E s) : wpAny (model prog w) A (richCompare op (.int i t) (.ref x)) Q E s := by
  have k1 : wpAny (model prog w) A (tryCompare (.ref x) (cmpInfo op).2.2 (.int i t)) (Got Q) E s := by
    unfold tryCompare
    refine wpAny_bind (ifBound_K X I hr hg (wpAny_mono h (fun v s' q => ?_) fun _ _ e => e))
    cases v <;> first | exact q.elim | exact wpAny_pure ⟨_, rfl, q⟩
  have k2 : wpAny (model prog w) A (tryCompare (.int i t) (cmpInfo op).2.1 (.ref x)) (fun r s' => r = none ∧ s' = s) E s := wpAny_tryCompare_declines (typeIs_int s i t) slot (dec ⟨rfl, rfl, rfl⟩)
  have e1 := I.type (M := model prog w)
  have e5 : Looks (model prog w) s.heap (isSubtype (.ref C) (.type "int")) false := looks_subIn X hsub
  have one : oneThing? op (.int i t) (.ref x) = none := by cases op <;> rfl
  have ne : (Value.type "int" != Value.ref C) = true := by
    rw [bne_iff_ne]
    intro q
    cases q
  unfold richCompare
  simp only [one]
  refine wpAny_holding (wpAny_bind (wpAny_cRoomFor hu ?_))
  refine wpAny_bind (wpAny_typeOf (typeIs_int s i t) (wpAny_bind (e1.here ?_)))
  rw [if_pos ne]
  refine wpAny_bind (e5.here ?_)
  simp only [Bool.false_eq_true, if_false]
  refine wpAny_bind (wpAny_mono k2 (fun r s' q => ?_) fun _ _ e => e)
  obtain ⟨rfl, rfl⟩ := q
  simp only [Bool.not_false, if_true]
  refine wpAny_bind (wpAny_mono k1 (fun r s' q => ?_) fun _ _ e => e)
  obtain ⟨v, rfl, q⟩ := q
  exact wpAny_pure q
end
end
end Bp

namespace Bp
open PySem.Spec PySem PyProof.Rows
open L2 hiding St Takes XE CX takes_of PMk MkP ps_raise mk_of ps_try_as ps_try_many pmk_own passAt passes_call takes0 passL
open L2N hiding St

theorem passL {X : Cx} : Passes (L2N.CX X.prog X.w) X E0 := fun _ _ _ _ _ _ _ h => by
  obtain ⟨_, _, _, _, _, _, _, _, _, _, _, _, z⟩ := h
  exact z.elim
theorem takes0 {X : Cx} : Takes X (fun _ _ _ _ => False) := fun _ _ x => by
  obtain ⟨_, _, _, _, _, _, _, _, _, _, _, _, _, _, _, _, z⟩ := x
  exact z.elim
/-! ### operators whose wish of an exception hangs on the slots -/
abbrev R2S := L2.St → R2
def OpS (X : Cx) (f : Value → Value → Sem Value) (r : R2S) : Prop :=
  ∀ (pins : List (Addr × Obj)) (s : Shared) (σ : L2.St) (H : Hp) (x y : V) (v u : Value) (Q : VK), Inv X pins σ H s → RelV x v → RelV y u → r σ x y H Q → wpAny (model X.prog X.w) X.A (f v u) (EP X pins σ Q) X.xe s
def tOpS (r : R2S) (ta tb : TE) : TE := fun σ H Q => ta σ H fun x H1 => tb σ H1 fun y H2 => r σ x y H2 Q
section
variable {X : Cx} {a b : Expr} {ta tb : TE} {pos : Pos} {r r' : R2S}
theorem OpS.or {f : Value → Value → Sem Value} (h : OpS X f r) (h' : OpS X f r') : OpS X f (fun σ x y H Q => r σ x y H Q ∨ r' σ x y H Q) := by
  intro pins s σ H x y v u Q I rx ry q
  exact q.elim (fun q => h pins s σ H x y v u Q I rx ry q) (fun q => h' pins s σ H x y v u Q I rx ry q)
theorem OpS.of {f : Value → Value → Sem Value} {r : R2} (h : OpR X f r) : OpS X f (fun _ => r) := fun pins s σ H x y v u Q I rx ry q => h pins s σ H x y v u Q I rx ry q
theorem OpS.imp {f : Value → Value → Sem Value} (h : OpS X f r) (k : ∀ σ x y H Q, r' σ x y H Q → r σ x y H Q) : OpS X f r' := fun pins s σ H x y v u Q I rx ry q => h pins s σ H x y v u Q I rx ry (k _ _ _ _ _ q)
theorem pe_opS {op : Operator} (ho : OpS X (binaryOp op) r) (ha : PE X a ta) (hb : PE X b tb) : PE X (.BinOp a op b pos) (tOpS r ta tb) := by
  refine ⟨fun pins s σ H Q I h => wpAny_BinOp (binT ha hb I h fun v u s2 x y H2 I2 rx ry q => ?_)⟩
  exact ho pins s2 σ H2 x y v u Q I2 rx ry q
theorem pe_cmpS {op : CmpOp} (ho : OpS X (compareOp op) r) (ha : PE X a ta) (hb : PE X b tb) (hm : behindInMarks op b = false) : PE X (.Compare a [op] [b] pos) (tOpS r ta tb) := by
  refine ⟨fun pins s σ H Q I h => wpAny_Compare1 (binT ha hb I h fun v u s2 x y H2 I2 rx ry q => ?_) hm⟩
  exact ho pins s2 σ H2 x y v u Q I2 rx ry q
theorem pt_cmpS {op : CmpOp} (ho : OpS X (compareOp op) r) (ha : PE X a ta) (hb : PE X b tb) (hm : behindInMarks op b = false) : PT X (.Compare a [op] [b] pos) (tTest (tOpS r ta tb)) := by
  refine ⟨fun pins s σ H Q I h => ?_⟩
  refine wpAny_isTrue_Compare1 (thn (ha.run pins s σ H _ I h) fun v s1 ⟨x, H1, I1, r1, q1⟩ => thn (hb.run pins s1 σ H1 _ I1 q1) fun u s2 ⟨y, H2, I2, r2, q2⟩ => ?_) hm
  refine thn (ho pins s2 σ H2 x y v u _ I2 r1 r2 q2) fun c s3 ⟨z, H3, I3, r3, k, e, q3⟩ => ?_
  subst e
  cases r3
  exact wpAny_truthy_bool ⟨H3, I3, q3⟩
/-- x op= e at a name -/
def tAugS1 (i : Nat) (te : TE) (r : R2S) : TS := fun D σ H => ∃ x, σ[i]? = some (some x) ∧ te σ H fun y H1 => r σ x y H1 fun z H2 => D.nx (σ.set i (some z)) H2
end

/-! ### instances of the class at C as operands -/
def IsI (C : Addr) (H : Hp) (y : V) : Prop := ∃ b dx fs, y = .ref b ∧ H b = some (.ins C dx fs)
theorem inst_of {X : Cx} {pins : List (Addr × Obj)} {σ : L2.St} {H : Hp} {s : Shared} {C b dx : Addr} {fs : List (Str × V)} (I : Inv X pins σ H s) (h : H b = some (.ins C dx fs)) :
    s.heap.get? b = some (PySem.W.instObj C dx) ∧ ∃ od, PySem.W.InstAt s.heap b (PySem.W.instObj C dx) C (some od) := by
  obtain ⟨mA, O, _, _, _, _⟩ := ins_get I.hok h
  obtain ⟨od, J, _⟩ := O.look
  exact ⟨O.obj, od, J⟩
/-- what the text must say of the class at C and of its def f for the operator nm -/
structure BinT (K : PySem.W.Frag) (C f : Addr) (nm : String) : Prop where
  hc : PySem.W.selfFirst K C = true
  hs : PySem.W.findIn K (.ref C) (PySem.dunder nm) = some (some (.ref f))
  hf : PySem.W.isFn K (.ref f) = true
  hr : ∃ rc, PySem.W.findIn K (.ref C) (dunderR nm) = some rc ∧ (rc = none ∨ ∃ g : Addr, rc = some (.ref g))
  h1 : ∃ fo, PySem.W.findIn K (.type "int") (PySem.dunder nm) = some fo
  h2 : ∃ ro, PySem.W.findIn K (.type "int") (dunderR nm) = some ro
  sub : PySem.W.subIn K (.type "int") (.ref C) = some false
  subC : PySem.W.subIn K (.ref C) (.type "int") = some false
section
variable {X : Cx} {CX : CXT} {k : Nat} {C f g : Addr} {fd : FuncData} {ps : List Str} {sp : Sp} {E : L2.St → XK}
def rOwn (C : Addr) (sp : Sp) (E : L2.St → XK) : R2S := fun σ x y H Q => IsI C H x ∧ (IsI C H y ∨ ∃ j, y = .int j) ∧ sp [x, y] H Q (E σ)
def rRef (C : Addr) (sp : Sp) (E : L2.St → XK) : R2S := fun σ x y H Q => (∃ i, x = .int i) ∧ IsI C H y ∧ sp [y, x] H Q (E σ)
theorem ownback {pins : List (Addr × Obj)} {σ : L2.St} {Q : VK} {v : Value} {s' : Shared} (h : EP X pins σ Q v s') : PySem.W.CmpBack (EP X pins σ Q) v s' := by
  have h' := h
  obtain ⟨z, H', I, rz, q⟩ := h
  cases z with
  | non => cases (show v = Value.none from rz); exact h'
  | bl b => cases (show v = Value.bool b from rz); exact h'
  | int i => obtain ⟨t, rfl⟩ := (show ∃ t, v = Value.int i t from rz); exact h'
  | str x => obtain ⟨t, rfl⟩ := (show ∃ t, v = Value.str x t from rz); exact h'
  | byt b => obtain ⟨t, rfl⟩ := (show ∃ t, v = Value.bytes b t from rz); exact h'
  | flt b => obtain ⟨t, rfl⟩ := (show ∃ t, v = Value.float b t from rz); exact h'
  | ref a => cases (show v = Value.ref a from rz); exact h'
  | ty n => cases (show v = Value.type n from rz); exact h'
theorem callBack {pins : List (Addr × Obj)} {σ : L2.St} {H : Hp} {s : Shared} {Q : VK} {us : List Value} {vs : List V} (F : FnOk X.prog X.w X.K X.mg X.base CX k f fd ps sp) (hr : Room k X.A) (hb : Binds X.K fd ps []) (hx : ∀ σ, PassesAt CX X σ (E σ))
    (I : Inv X pins σ H s) (r : Vals vs us) (h : sp vs H Q (E σ)) : wpAny (model X.prog X.w) X.A (call (.ref f) us) (PySem.W.CmpBack (EP X pins σ Q)) X.xe s :=
  thn (run_fnS F hr hb (hx σ) I r h) fun _ _ q => ownback q
theorem own1 {nm : String} {pins : List (Addr × Obj)} {s : Shared} {σ : L2.St} {H : Hp} {x y : V} {v u : Value} {Q : VK} (B : BinT X.K C f nm) (F : FnOk X.prog X.w X.K X.mg X.base CX k f fd ps sp) (hr : Room k X.A) (hb : Binds X.K fd ps [])
    (hx : ∀ σ, PassesAt CX X σ (E σ)) (I : Inv X pins σ H s) (rx : RelV x v) (ry : RelV y u) (h : rOwn C sp E σ x y H Q) : wpAny (model X.prog X.w) X.A (binaryOp1 nm v u) (Got (EP X pins σ Q)) X.xe s := by
  obtain ⟨⟨a, dx, fs, rfl, ha⟩, hy, q⟩ := h
  cases (show v = Value.ref a from rx)
  obtain ⟨_, od, J⟩ := inst_of I ha
  rcases hy with ⟨b, dy, gs, rfl, hb'⟩ | ⟨j, rfl⟩
  · cases (show u = Value.ref b from ry)
    obtain ⟨_, od', J'⟩ := inst_of I hb'
    exact own1_same I.kIn J J'.type B.hc B.hs B.hf (callBack (us := [.ref a, .ref b]) (vs := [.ref a, .ref b]) F hr hb hx I (.cons rfl (.cons rfl .nil)) q)
  · obtain ⟨t, rfl⟩ := (show ∃ t, u = Value.int j t from ry)
    obtain ⟨rc, hrc, hp⟩ := B.hr
    obtain ⟨fo, h1⟩ := B.h1
    obtain ⟨ro, h2⟩ := B.h2
    exact own1_base I.kIn J rfl B.hc B.hs B.hf hrc hp h1 h2 B.sub (callBack (us := [.ref a, .int j t]) (vs := [.ref a, .int j]) F hr hb hx I (.cons rfl (.cons ⟨t, rfl⟩ .nil)) q)
theorem op_own {op : Operator} (B : BinT X.K C f op.info.2) (F : FnOk X.prog X.w X.K X.mg X.base CX k f fd ps sp) (hr : Room k X.A) (hb : Binds X.K fd ps []) (hx : ∀ σ, PassesAt CX X σ (E σ)) : OpS X (binaryOp op) (rOwn C sp E) :=
  fun pins s σ H x y v u Q I rx ry h => bin_of1 (own1 B F hr hb hx I rx ry h)
/-- the built-in half: an int's own def for the operator, which declines -/
structure IntT (nm : String) (idl : String) : Prop where
  fl : fillsNumberSlot (.type "int") nm = pure true
  slot : Slot "int" (PySem.dunder nm) idl
  dec : ∀ {prog : Program} {w : World} {A : Around} {E : Value → Shared → Prop} {s : Shared} {C dx p : Addr} {Q : Value → Shared → Prop} {i : Int} {t : Tok}, s.heap.get? p = some (PySem.W.instObj C dx) → Q .notImplemented s →
    wpAny (model prog w) A (call (.builtin idl) [.int i t, .ref p]) Q E s
theorem op_ref {op : Operator} {idl : String} (L : IntT op.info.2 idl) (B : BinT X.K C f op.info.2) (hg : PySem.W.findIn X.K (.ref C) (dunderR op.info.2) = some (some (.ref g))) (fg : PySem.W.isFn X.K (.ref g) = true)
    (F : FnOk X.prog X.w X.K X.mg X.base CX k g fd ps sp) (hr : Room k X.A) (hb : Binds X.K fd ps []) (hx : ∀ σ, PassesAt CX X σ (E σ)) : OpS X (binaryOp op) (rRef C sp E) := by
  intro pins s σ H x y v u Q I rx ry h
  obtain ⟨⟨i, rfl⟩, ⟨b, dy, gs, rfl, hb'⟩, q⟩ := h
  obtain ⟨t, rfl⟩ := (show ∃ t, v = Value.int i t from rx)
  cases (show u = Value.ref b from ry)
  obtain ⟨ho, od, J⟩ := inst_of I hb'
  exact bin_of1 (own1_refl I.kIn J B.hc L.fl B.hs hg fg B.subC L.slot (fun {_ _} z => L.dec ho z) (callBack (us := [.ref b, .int i t]) (vs := [.ref b, .int i]) F hr hb hx I (.cons rfl (.cons ⟨t, rfl⟩ .nil)) q))
theorem int_add : IntT "add" "int.__add__" := ⟨F.fills_int_add, F.slot_int_add, fun ho q => dec_add ho q⟩
theorem int_sub : IntT "sub" "int.__sub__" := ⟨F.fills_int_sub, F.slot_int_sub, fun ho q => dec_sub ho q⟩
theorem int_mul : IntT "mul" "int.__mul__" := ⟨F.fills_int_mul, F.slot_int_mul, fun ho q => dec_mul ho q⟩
theorem int_floordiv : IntT "floordiv" "int.__floordiv__" := ⟨F.fills_int_floordiv, F.slot_int_floordiv, fun ho q => dec_floordiv ho q⟩
theorem int_mod : IntT "mod" "int.__mod__" := ⟨F.fills_int_mod, F.slot_int_mod, fun ho q => dec_mod ho q⟩
/-- x op= e at a name that holds an instance; the class has no operator in place -/
theorem ps_augOwn {i : Nat} {x : Str} {e : Expr} {te : TE} {op : Operator} {r : R2S} {pos pos' : Pos} (hN : X.N.Nodup) (hi : X.N[i]? = some x) (hx : X.env.scope.names.lookup x = some .local) (he : PE X e te) (ho : OpS X (inplaceOp op) r) :
    PS X (.AugAssign (.Name x pos') op e pos) (tAugS1 i te r) := by
  refine ⟨fun pins s σ H D I h => ?_⟩
  obtain ⟨v, e1, h⟩ := h
  obtain ⟨m, hn, hl⟩ := I.loc
  obtain ⟨u, ru, l⟩ := hl i x v hi e1 (.inl hx)
  have go : wpAny (model X.prog X.w) X.A (eval e X.env) (fun w' s1 => wpAny (model X.prog X.w) X.A (inplaceOp op u w') (fun z s2 => wpAny (model X.prog X.w) X.A (storeName X.env x z) (fun _ => SP X pins D .next) X.xe s2) X.xe s1) X.xe s := by
    refine thn (he.run pins s σ H _ I h) fun w' s1 ⟨y, H1, I1, r1, q1⟩ => thn (ho pins s1 σ H1 v y u w' _ I1 ru r1 q1) fun z s2 ⟨zv, H2, I2, r2, q2⟩ => ?_
    exact store_ok I2 hN hi (.inl hx) r2 (fun s3 I3 => ⟨_, H2, I3, q2⟩) (.inr hx)
  refine wpAny_AugAssign_Name ?_
  rcases l with ⟨hk, hm⟩ | ⟨hk, _⟩
  · exact wpAny_loadName_local I.ok.kind hk hn hm go
  · have z : X.env.scope.names.lookup x = some .cell ∨ X.env.scope.names.lookup x = some .free := hk
    rw [hx] at z
    rcases z with z | z <;> cases z
theorem inp_own {op : Operator} {cd : ClassData} (hcd : PySem.W.clsIn X.K C = some cd) (hm : cd.mro = [.ref C, .type "object"]) (n1 : PySem.W.findIn X.K (.ref C) (dunderI op.info.2) = some none) (n2 : PySem.W.findIn X.K (.type "object") (dunderI op.info.2) = some none)
    (B : BinT X.K C f op.info.2) (F : FnOk X.prog X.w X.K X.mg X.base CX k f fd ps sp) (hr : Room k X.A) (hb : Binds X.K fd ps []) (hx : ∀ σ, PassesAt CX X σ (E σ)) : OpS X (inplaceOp op) (rOwn C sp E) := by
  intro pins s σ H x y v u Q I rx ry h
  have h' := h
  obtain ⟨⟨a, dx, fs, rfl, ha⟩, _, _⟩ := h'
  have e : v = Value.ref a := rx
  have one := own1 B F hr hb hx I rx ry h
  subst e
  obtain ⟨_, od, J⟩ := inst_of I ha
  exact inp_of1 I.kIn J hcd hm n1 n2 one
/-! ### comparisons -/
theorem cmp_own {op : CmpOp} (hop : ∀ a b, compareOp op a b = richCompare op a b) (hs : PySem.W.findIn X.K (.ref C) (cmpInfo op).2.1 = some (some (.ref f))) (hf : PySem.W.isFn X.K (.ref f) = true) (sub : PySem.W.subIn X.K (.type "int") (.ref C) = some false)
    (F : FnOk X.prog X.w X.K X.mg X.base CX k f fd ps sp) (hr : Room k X.A) (hb : Binds X.K fd ps []) (hx : ∀ σ, PassesAt CX X σ (E σ)) : OpS X (compareOp op) (rOwn C sp E) := by
  intro pins s σ H x y v u Q I rx ry h
  obtain ⟨⟨a, dx, fs, rfl, ha⟩, hy, q⟩ := h
  cases (show v = Value.ref a from rx)
  obtain ⟨_, od, J⟩ := inst_of I ha
  obtain ⟨m, hF⟩ := I.fr
  rw [hop]
  rcases hy with ⟨b, dy, gs, rfl, hb'⟩ | ⟨j, rfl⟩
  · cases (show u = Value.ref b from ry)
    obtain ⟨_, od', J'⟩ := inst_of I hb'
    refine PySem.W.cmp_K (tb := .ref C) hr.units0 hF I.ok.mod.kin J J'.type ?_ hs hf (callBack (us := [.ref a, .ref b]) (vs := [.ref a, .ref b]) F hr hb hx I (.cons rfl (.cons rfl .nil)) q)
    unfold PySem.W.notFirst
    rw [beq_self_eq_true, Bool.true_or]
  · obtain ⟨t, rfl⟩ := (show ∃ t, u = Value.int j t from ry)
    refine PySem.W.cmp_K (tb := .type "int") hr.units0 hF I.ok.mod.kin J (.of_pure rfl) ?_ hs hf (callBack (us := [.ref a, .int j t]) (vs := [.ref a, .int j]) F hr hb hx I (.cons rfl (.cons ⟨t, rfl⟩ .nil)) q)
    unfold PySem.W.notFirst
    rw [sub, beq_self_eq_true, Bool.or_true]
structure IntC (op : CmpOp) (idl : String) : Prop where
  slot : Slot "int" (cmpInfo op).2.1 idl
  dec : ∀ {prog : Program} {w : World} {A : Around} {E : Value → Shared → Prop} {s : Shared} {C dx p : Addr} {Q : Value → Shared → Prop} {i : Int} {t : Tok}, s.heap.get? p = some (PySem.W.instObj C dx) → Q .notImplemented s →
    wpAny (model prog w) A (call (.builtin idl) [.int i t, .ref p]) Q E s
theorem cmp_ref {op : CmpOp} {idl : String} (hop : ∀ a b, compareOp op a b = richCompare op a b) (L : IntC op idl) (hs : PySem.W.findIn X.K (.ref C) (cmpInfo op).2.2 = some (some (.ref g))) (hf : PySem.W.isFn X.K (.ref g) = true)
    (subC : PySem.W.subIn X.K (.ref C) (.type "int") = some false) (F : FnOk X.prog X.w X.K X.mg X.base CX k g fd ps sp) (hr : Room k X.A) (hb : Binds X.K fd ps []) (hx : ∀ σ, PassesAt CX X σ (E σ)) : OpS X (compareOp op) (rRef C sp E) := by
  intro pins s σ H x y v u Q I rx ry h
  obtain ⟨⟨i, rfl⟩, ⟨b, dy, gs, rfl, hb'⟩, q⟩ := h
  obtain ⟨t, rfl⟩ := (show ∃ t, v = Value.int i t from rx)
  cases (show u = Value.ref b from ry)
  obtain ⟨ho, od, J⟩ := inst_of I hb'
  rw [hop]
  exact cmp_refl hr.units0 I.kIn J hs hf subC L.slot (fun {_ _} z => L.dec ho z) (callBack (us := [.ref b, .int i t]) (vs := [.ref b, .int i]) F hr hb hx I (.cons rfl (.cons ⟨t, rfl⟩ .nil)) q)
theorem int_lt : IntC .Lt "int.__lt__" := ⟨F.slot_int_lt, fun ho q => dec_lt ho q⟩
theorem int_le : IntC .LtE "int.__le__" := ⟨F.slot_int_le, fun ho q => dec_le ho q⟩
theorem int_gt : IntC .Gt "int.__gt__" := ⟨F.slot_int_gt, fun ho q => dec_gt ho q⟩
theorem int_ge : IntC .GtE "int.__ge__" := ⟨F.slot_int_ge, fun ho q => dec_ge ho q⟩
theorem int_eq : IntC .Eq "int.__eq__" := ⟨F.slot_int_eq, fun ho q => dec_eq ho q⟩
theorem int_ne : IntC .NotEq "int.__ne__" := ⟨F.slot_int_ne, fun ho q => dec_ne ho q⟩
/-! ### -x, abs(x), bool(x) of an instance -/
def rUnO (C : Addr) (sp : Sp) (E : XK) : V → Hp → VK → Prop := fun x H Q => IsI C H x ∧ sp [x] H Q E
theorem un_own (hs : PySem.W.findIn X.K (.ref C) "__neg__" = some (some (.ref f))) (hf : PySem.W.isFn X.K (.ref f) = true) (F : FnOk X.prog X.w X.K X.mg X.base CX k f fd ps sp) (hr : Room k X.A) (hb : Binds X.K fd ps []) {E : XK} (hx : ∀ σ, PassesAt CX X σ E) :
    UnR X (unaryOp .USub) (rUnO C sp E) := by
  intro pins s σ H x v Q I rx h
  obtain ⟨⟨a, dx, fs, rfl, ha⟩, q⟩ := h
  cases (show v = Value.ref a from rx)
  obtain ⟨_, od, J⟩ := inst_of I ha
  obtain ⟨m, hF⟩ := I.fr
  exact PySem.W.ksp_neg hF I.ok.mod.kin J hs hf (run_fnS (us := [.ref a]) (vs := [.ref a]) (E := fun _ => E) F hr hb (hx σ) I (.cons rfl .nil) q)
end
/-! ### raise X(), X an own class over ValueError without __init__ -/
section
variable {X : Cx} {C : Addr} {bmB : List Value} {B newId initId : String}
theorem pmk_own0 {x : Str} {p pos : Pos} (F : ExcBaseFacts B newId initId bmB) (q : PySem.W.excIn X.K C bmB newId = true) (gC : X.mg x = some (.ref C)) (kC : PySem.W.keepIn X.K (.ref C) = true) (r : Raises X (.ref C)) (hg : Gl X x)
    (hdb : (x == ("__debug__" : Str)) = false := by decide) : PMk X (.Call (.Name x p) [] [] pos) (fun _ H Q => Q (.ref C) none H) := by
  intro pins s σ H Q I h
  refine wpAny_Call_Name_kw (ld_glob I hg gC ?_ hdb)
  refine PySem.W.callWith_K0 I.kIn kC ?_
  obtain ⟨bm, N, nm, qn, bs, hdct, sn, sub, ab, col, dd, k0, k1, k2, k3, k5, mN, hC, hN, hni, T⟩ := exc_obj I.kIn q
  exact wpAny_call_exc_subT (rest := []) F T hC hN hni (fun h' e hm => mk_of I hm r h (I.hok.gone hm.new)) (by rw [sizeLine_eq]; exact Nat.zero_le _)
end
end Bp

namespace Bp
open PySem.Spec PySem PyProof.Rows
open L2 hiding St Takes XE CX takes_of PMk MkP ps_raise mk_of ps_try_as ps_try_many pmk_own passAt passes_call takes0 passL
open L2N hiding St

/-! ### a def that hands back NotImplemented -/
/-- behind such a call: all that was tracked stands -/
def NIback (outer : List Env) (P : Program) (w : World) (H : Hp) (s : Shared) (r : Result) (s' : Shared) : Prop :=
  match r with
  | .ok (.ret u) => u = .notImplemented ∧ ∃ H', s'.os = s.os ∧ AllBare s'.gens ∧ Un (frs outer) [] H H' s.heap s'.heap ∧ HOk P w H' s'.heap ∧ Same H H'
  | _ => False
structure FnNI (P : Program) (w : World) (K : PySem.W.Frag) (mg : Str → Option Value) (base : Heap) (k : Nat) (f : Addr) (fd : FuncData) (ps : List Str) (pre : List V → Hp → Prop) : Prop where
  len : ∀ vs H, pre vs H → vs.length = ps.length
  run : ∀ (A : Around) (outer : List Env) (s : Shared) (H : Hp) (args : Args) (us : List Value) (vs : List V), Room k A → Env0 P w K mg base A outer s H → BindsTo s fd args (ps.zip us) → Vals vs us → pre vs H →
    codeAny (model P w) A (.call (.ref f) args) (NIback outer P w H s) s
/-- the body: its first statement is «if test: return NotImplemented», and the test is true -/
theorem ni_of {P : Program} {w : World} {K : PySem.W.Frag} {mg : Str → Option Value} {base : Heap} {k : Nat} {f : Addr} {fd : FuncData} {qual x : Str} {st : Stmt} {N ps : List Str} {pre : List V → Hp → Prop}
    {c : Expr} {p1 p2 p3 : Pos} {rest : List Stmt} (Fn : L2.Fun K x qual st f fd) (S : FnScope N ps (defScope st)) (len : ∀ vs H, pre vs H → vs.length = ps.length)
    (hb : defBody st = .If c [.Return (some (.Name "NotImplemented" p1)) p2] [] p3 :: rest) (hN : mg "NotImplemented" = none) (hg : ∀ X : Cx, X.env.scope = defScope st → Gl X "NotImplemented")
    (ht : ∀ (cdv : Value) (A : Around) (outer : List Env) (s : Shared) (H : Hp) (vs : List V), Room k (A.deeper (envOfC qual (defScope st) s.heap.objs.size f cdv)) → pre vs H →
      ∃ t, PT (cxOf CX0 P w K mg base N qual (defScope st) f cdv A outer s H E0) c t ∧ t (start N vs) H fun b H' => b = true ∧ Same H H') : FnNI P w K mg base (k + 1) f fd ps pre := by
  obtain ⟨oc, od, kV, doc, pm, an, cdv, ct, osl, rfl, lk, hcd⟩ := Fn.ex
  refine ⟨len, fun A outer s H args us vs hr e0 hbt r hp => ?_⟩
  have hl := len _ _ hp
  have KX : K.In s.heap := e0.mod.kin.keeps fun b o e => (e0.bs b o e).1
  have lim : s.heap.NoLimit := e0.mod.nolimit.keeps fun b o e => (e0.bs b o e).1
  have hk : ∀ y ∈ ps.zip us, (defScope st).names.lookup y.1 = some .local ∨ ((defScope st).names.lookup y.1 = some .cell ∧ ((cellsFrom (s.heap.objs.size + 1) (defScope st).names []).lookup y.1).isSome = true) := by
    rintro ⟨n, v⟩ hy
    exact (S.par n (List.of_mem_zip hy).1).elim .inl fun q => .inr ⟨q, PySem.W.cellsFrom_some _ _ _ (.inl q)⟩
  refine codeAny_call_function hr.depth (KX _ _ lk) rfl S.co S.gen rfl (PySem.W.codeRec_of KX hcd) (hbt _ _ _ _ (wpAny_newFunctionEnv_cells S.kind hk fun env he s1 xx => ?_))
  subst he
  refine ⟨lim.keeps xx.toInCall.keep, codeAny_func ?_⟩
  obtain ⟨t, hpt, hq⟩ := ht cdv A outer s H vs (hr.deeper _) hp
  have I : Inv (cxOf CX0 P w K mg base N qual (defScope st) f cdv A outer s H E0) [] (start N vs) H s1 := inv_start S hr.hd e0 hl r xx
  show wpAny _ _ (execs (defBody st) _) _ _ _
  rw [hb]
  refine wpAny_execs_cons (wpAny_If (wpAny_mono (hpt.run [] s1 _ H _ I hq) (fun b s2 q => ?_) (fun e s2 q => ?_)))
  · obtain ⟨H', I2, rfl, same⟩ := q
    rw [if_pos rfl]
    refine wpAny_execs_cons (wpAny_Return_some (ld_blt I2 (hg _ rfl) hN (u := .notImplemented) (by decide +kernel) ?_))
    exact ⟨rfl, H', I2.os, I2.bare, I2.base, I2.hok, same⟩
  · exact wpAny_mono q (fun _ _ z => z.elim) fun _ _ z => z.elim
/-! ### x == y where the own def declines and y is None or a text -/
section
variable {prog : Program} {w : World} {A : Around} {E : Value → Shared → Prop} {s : Shared} {C dx p : Addr} {Q : Value → Shared → Prop}
theorem dec_eq_none (ho : s.heap.get? p = some (PySem.W.instObj C dx)) (h : Q .notImplemented s) : wpAny (model prog w) A (call (.builtin "NoneType.__eq__") [.none, .ref p]) Q E s := by
  obtain ⟨hp, g, d, tk, os⟩ := s
  refine wpAny_call (codeAny_call_builtin F.slot_NoneType_eq.plain F.entry_NoneType_eq (F.slot_NoneType_eq.check _ _ _ _ _ _ _ _ rfl (F.args_NoneType_eq_2 _ _) ?_))
  wp_walk using AutoSeq1.wpAny_loadPart' ho
  exact h
theorem dec_eq_str {x : Str} {t : Tok} (ho : s.heap.get? p = some (PySem.W.instObj C dx)) (h : Q .notImplemented s) : wpAny (model prog w) A (call (.builtin "str.__eq__") [.str x t, .ref p]) Q E s := by
  obtain ⟨hp, g, d, tk, os⟩ := s
  refine wpAny_call (codeAny_call_builtin F.slot_str_eq.plain F.entry_str_eq (F.slot_str_eq.check _ _ _ _ _ _ _ _ (typeIs_str _ x t) (F.args_str_eq_2 _ _) ?_))
  wp_walk using AutoSeq1.wpAny_loadPart' ho
  exact h
end
section
variable {X : Cx} {k : Nat} {C f : Addr} {fd : FuncData} {ps : List Str} {pre : List V → Hp → Prop}
/-- None or a text -/
def NoNum (y : V) : Prop := y = .non ∨ ∃ x, y = .str x
def rDecl (C : Addr) (pre : List V → Hp → Prop) : R2S := fun _ x y H Q => IsI C H x ∧ NoNum y ∧ pre [x, y] H ∧ ∀ H', Same H H' → Q (.bl false) H'
theorem eq_decl (hs : PySem.W.findIn X.K (.ref C) "__eq__" = some (some (.ref f))) (hf : PySem.W.isFn X.K (.ref f) = true) (s1 : PySem.W.subIn X.K (.type "NoneType") (.ref C) = some false) (s2 : PySem.W.subIn X.K (.type "str") (.ref C) = some false)
    (F : FnNI X.prog X.w X.K X.mg X.base k f fd ps pre) (hr : Room k X.A) (hb : L2.Binds X.K fd ps []) : OpS X (compareOp .Eq) (rDecl C pre) := by
  intro pins s σ H x y v u Q I rx ry h
  obtain ⟨⟨a, dx, fs, rfl, ha⟩, hy, hp, q⟩ := h
  cases (show v = Value.ref a from rx)
  obtain ⟨ho, od, J⟩ := inst_of I ha
  have hl : ([Value.ref a, u] ++ []).length = ps.length := F.len _ _ hp
  -- the own def hands back NotImplemented
  have k1 : ∀ {R : Option Value → Shared → Prop}, (∀ s' H', Inv X pins σ H' s' → Same H H' → R none s') → wpAny (model X.prog X.w) X.A (tryCompare (.ref a) "__eq__" u) R X.xe s := by
    intro R z
    unfold tryCompare
    refine wpAny_bind (PySem.W.ifBound_K I.kIn J hs hf (wpAny_call (codeAny_mono (F.run X.A X.stack s H ⟨[.ref a, u], []⟩ [.ref a, u] [.ref a, y] hr I.env0 (hb s [.ref a, u] I.kIn hl) (.cons rfl (.cons ry .nil)) hp) fun r s' hq => ?_)))
    cases r with
    | error e => exact hq.elim
    | ok fl =>
      cases fl with
      | ret u' =>
        obtain ⟨rfl, H', os, ag, un, hok, same⟩ := hq
        exact wpAny_pure (z s' H' (I.call' os un hok ag fun b z => absurd z (by simp)) same)
      | next => exact hq.elim
      | brk => exact hq.elim
      | cont => exact hq.elim
  show wpAny _ _ (richCompare .Eq (.ref a) u) _ _ _
  have e1 := J.type (M := model X.prog X.w)
  rcases hy with rfl | ⟨x, rfl⟩
  · cases (show u = Value.none from ry)
    have e5 : PySem.W.Looks (model X.prog X.w) s.heap (isSubtype (.type "NoneType") (.ref C)) false := PySem.W.looks_subIn I.kIn s1
    have ne : (Value.ref C != Value.type "NoneType") = true := by
      rw [bne_iff_ne]
      intro q
      cases q
    unfold richCompare
    refine wpAny_holding (wpAny_bind (wpAny_cRoomFor hr.units0 ?_))
    refine wpAny_bind (e1.here (wpAny_bind (wpAny_pure ?_)))
    dsimp only
    rw [if_pos ne]
    refine wpAny_bind (e5.here ?_)
    simp only [Bool.false_eq_true, if_false]
    refine wpAny_bind (k1 fun s' H' I' same => ?_)
    obtain ⟨ho', _, _⟩ := inst_of I' (same _ _ ha)
    simp only [Bool.not_false, if_true]
    refine wpAny_bind (wpAny_tryCompare_declines rfl PySem.F.slot_NoneType_eq_refl (dec_eq_none ho' ⟨rfl, ?_⟩))
    refine wpAny_bind (wpAny_rule (wpAny_bind (wpAny_of_eq (isSame_none _) (wpAny_pure ?_))))
    exact ⟨.bl false, H', I', rfl, q H' same⟩
  · obtain ⟨t, rfl⟩ := (show ∃ t, u = Value.str x t from ry)
    have e5 : PySem.W.Looks (model X.prog X.w) s.heap (isSubtype (.type "str") (.ref C)) false := PySem.W.looks_subIn I.kIn s2
    have ne : (Value.ref C != Value.type "str") = true := by
      rw [bne_iff_ne]
      intro q
      cases q
    unfold richCompare
    refine wpAny_holding (wpAny_bind (wpAny_cRoomFor hr.units0 ?_))
    refine wpAny_bind (e1.here (wpAny_bind (wpAny_pure ?_)))
    dsimp only
    rw [if_pos ne]
    refine wpAny_bind (e5.here ?_)
    simp only [Bool.false_eq_true, if_false]
    refine wpAny_bind (k1 fun s' H' I' same => ?_)
    obtain ⟨ho', _, _⟩ := inst_of I' (same _ _ ha)
    simp only [Bool.not_false, if_true]
    refine wpAny_bind (wpAny_tryCompare_declines (typeIs_str s' x t) PySem.F.slot_str_eq_refl (dec_eq_str ho' ⟨rfl, ?_⟩))
    refine wpAny_bind (wpAny_rule (wpAny_bind (wpAny_of_eq (a := false) rfl (wpAny_pure ?_))))
    exact ⟨.bl false, H', I', rfl, q H' same⟩
end
end Bp

namespace Bp
/-! ### fractions: plain Lean over the core's Rat -/
/-- both parts are below 2 ^ b -/
def Sm (b : Nat) (r : Rat) : Prop := r.num.natAbs < 2 ^ b ∧ r.den < 2 ^ b
theorem pow_le {a b : Nat} (h : a ≤ b) : 2 ^ a ≤ 2 ^ b := Nat.pow_le_pow_right (by decide) h
theorem Sm.mono {a b : Nat} {r : Rat} (h : Sm a r) (k : a ≤ b) : Sm b r := ⟨Nat.lt_of_lt_of_le h.1 (pow_le k), Nat.lt_of_lt_of_le h.2 (pow_le k)⟩
theorem Sm.neg {b : Nat} {r : Rat} (h : Sm b r) : Sm b (-r) := ⟨by rw [Rat.neg_num, Int.natAbs_neg]; exact h.1, h.2⟩
theorem natAbs_den (r : Rat) : ((r.den : Int)).natAbs = r.den := rfl
theorem mul_lt {a b x y : Nat} (hx : x < 2 ^ a) (hy : y < 2 ^ b) : x * y < 2 ^ (a + b) := by
  rw [Nat.pow_add]
  exact Nat.mul_lt_mul'' hx hy
theorem imul_lt {a b : Nat} {x y : Int} (hx : x.natAbs < 2 ^ a) (hy : y.natAbs < 2 ^ b) : (x * y).natAbs < 2 ^ (a + b) := by
  rw [Int.natAbs_mul]
  exact mul_lt hx hy
theorem iadd_lt {a b : Nat} {x y : Int} (hx : x.natAbs < 2 ^ a) (hy : y.natAbs < 2 ^ b) : (x + y).natAbs < 2 ^ (a + b + 1) := by
  have h := Int.natAbs_add_le x y
  have e1 : 2 ^ a ≤ 2 ^ (a + b) := pow_le (Nat.le_add_right _ _)
  have e2 : 2 ^ b ≤ 2 ^ (a + b) := pow_le (Nat.le_add_left _ _)
  rw [Nat.pow_succ]
  omega
theorem isub_lt {a b : Nat} {x y : Int} (hx : x.natAbs < 2 ^ a) (hy : y.natAbs < 2 ^ b) : (x - y).natAbs < 2 ^ (a + b + 1) := by
  rw [Int.sub_eq_add_neg]
  exact iadd_lt hx (by rw [Int.natAbs_neg]; exact hy)
theorem sub_lt {a b : Nat} {x y : Int} (hx : x.natAbs < 2 ^ a) (hy : y.natAbs < 2 ^ b) : (x - y).natAbs < 2 ^ (a + b + 1) := isub_lt hx hy
/-- what Frac(n, d) divides by -/
def com (n d : Int) : Int := if d < 0 then -((Nat.gcd n.natAbs d.natAbs : Nat) : Int) else ((Nat.gcd n.natAbs d.natAbs : Nat) : Int)
theorem gcd_pos {n d : Int} (h : d ≠ 0) : 0 < Nat.gcd n.natAbs d.natAbs := Nat.gcd_pos_of_pos_right _ (by omega)
theorem com_ne {n d : Int} (h : d ≠ 0) : com n d ≠ 0 := by
  have := gcd_pos (n := n) h
  unfold com
  split <;> omega
theorem com_abs (n d : Int) : (com n d).natAbs = Nat.gcd n.natAbs d.natAbs := by
  unfold com
  split
  · rw [Int.natAbs_neg]
    rfl
  · rfl
theorem com_le {n d : Int} (h : d ≠ 0) : (com n d).natAbs ≤ d.natAbs := by
  rw [com_abs]
  exact Nat.gcd_le_right _ (by omega)
theorem fdiv_mul {c m : Int} (h : c ≠ 0) : (c * m).fdiv c = m := Int.mul_fdiv_cancel_left _ h
theorem num_com {n d : Int} (h : d ≠ 0) : n.fdiv (com n d) = (Rat.divInt n d).num := by
  have hg := gcd_pos (n := n) h
  obtain ⟨k, hk⟩ : ((Nat.gcd n.natAbs d.natAbs : Nat) : Int) ∣ n := Int.ofNat_dvd_left.mpr (Nat.gcd_dvd_left _ _)
  have e : (d.gcd n : Nat) = Nat.gcd n.natAbs d.natAbs := Nat.gcd_comm _ _
  rw [Rat.num_divInt, e]
  unfold com
  have gz : ((Nat.gcd n.natAbs d.natAbs : Nat) : Int) ≠ 0 := by omega
  generalize hG : ((Nat.gcd n.natAbs d.natAbs : Nat) : Int) = G at *
  split
  · rename_i hd
    rw [Int.sign_eq_neg_one_of_neg hd, hk]
    have a1 : (G * k).fdiv (-G) = -k := by
      have : G * k = (-G) * (-k) := by rw [Int.neg_mul_neg]
      rw [this, fdiv_mul (by omega)]
    have a2 : -1 * (G * k) / G = -k := by
      have : -1 * (G * k) = G * (-k) := by rw [Int.mul_neg, Int.neg_mul, Int.one_mul]
      rw [this, Int.mul_ediv_cancel_left _ gz]
    rw [a1, a2]
  · rename_i hd
    rw [Int.sign_eq_one_of_pos (by omega), hk, fdiv_mul gz, Int.one_mul, Int.mul_ediv_cancel_left _ gz]
theorem den_com {n d : Int} (h : d ≠ 0) : d.fdiv (com n d) = ((Rat.divInt n d).den : Int) := by
  have hg := gcd_pos (n := n) h
  obtain ⟨k, hk⟩ : ((Nat.gcd n.natAbs d.natAbs : Nat) : Int) ∣ d := Int.ofNat_dvd_left.mpr (Nat.gcd_dvd_right _ _)
  have e : (d.gcd n : Nat) = Nat.gcd n.natAbs d.natAbs := Nat.gcd_comm _ _
  rw [Rat.den_divInt, if_neg h, e, Int.natCast_ediv]
  unfold com
  have gz : ((Nat.gcd n.natAbs d.natAbs : Nat) : Int) ≠ 0 := by omega
  have gp : 0 < ((Nat.gcd n.natAbs d.natAbs : Nat) : Int) := by omega
  generalize hG : ((Nat.gcd n.natAbs d.natAbs : Nat) : Int) = G at *
  split
  · rename_i hd
    have z : ((d.natAbs : Nat) : Int) = -d := by omega
    rw [z]
    have a1 : d.fdiv (-G) = -k := by
      have : d = (-G) * (-k) := by rw [Int.neg_mul_neg]; exact hk
      rw [this, fdiv_mul (by omega)]
    have a2 : -d / G = -k := by
      have : -d = G * (-k) := by rw [Int.mul_neg, ← hk]
      rw [this, Int.mul_ediv_cancel_left _ gz]
    rw [a1, a2]
  · rename_i hd
    have z : ((d.natAbs : Nat) : Int) = d := by omega
    rw [z]
    have a1 : d.fdiv G = k := by
      rw [hk, fdiv_mul gz]
    have a2 : d / G = k := by
      rw [hk, Int.mul_ediv_cancel_left _ gz]
    rw [a1, a2]
theorem divInt_num_le (n d : Int) : (Rat.divInt n d).num.natAbs ≤ n.natAbs := by
  rw [Rat.num_divInt]
  refine Nat.le_trans (Int.natAbs_ediv_le_natAbs _ _) ?_
  rw [Int.natAbs_mul]
  have := Int.natAbs_sign d
  by_cases h : d = 0
  · subst h
    simp
  · have : d.sign.natAbs = 1 := Int.natAbs_sign_of_ne_zero h
    rw [this, Nat.one_mul]
    exact Nat.le_refl _
theorem divInt_den_le {n d : Int} (h : d ≠ 0) : (Rat.divInt n d).den ≤ d.natAbs := by
  rw [Rat.den_divInt, if_neg h]
  exact Nat.div_le_self _ _
theorem sm_divInt {n d : Int} {b : Nat} (h : d ≠ 0) (hn : n.natAbs < 2 ^ b) (hd : d.natAbs < 2 ^ b) : Sm b (Rat.divInt n d) := ⟨Nat.lt_of_le_of_lt (divInt_num_le n d) hn, Nat.lt_of_le_of_lt (divInt_den_le h) hd⟩
theorem den_ne (r : Rat) : (r.den : Int) ≠ 0 := by
  have := r.den_pos
  omega
theorem den_pos' (r : Rat) : (0 : Int) < (r.den : Int) := by
  have := r.den_pos
  omega
theorem divInt_self (r : Rat) : Rat.divInt r.num r.den = r := Rat.num_divInt_den r
theorem divInt_one (n : Int) : Rat.divInt n 1 = (n : Rat) := by
  have := Rat.num_divInt_den (n : Rat)
  exact this
theorem add_is (p q : Rat) : Rat.divInt (p.num * q.den + q.num * p.den) (p.den * q.den) = p + q := by
  rw [Rat.add_def', ← Int.natCast_mul, Rat.divInt_ofNat]
theorem sub_is (p q : Rat) : Rat.divInt (p.num * q.den - q.num * p.den) (p.den * q.den) = p - q := by
  rw [Rat.sub_def', ← Int.natCast_mul, Rat.divInt_ofNat]
theorem mul_is (p q : Rat) : Rat.divInt (p.num * q.num) (p.den * q.den) = p * q := by
  rw [Rat.mul_def', ← Int.natCast_mul, Rat.divInt_ofNat]
theorem over_is (p q : Rat) : Rat.divInt (p.num * q.den) (p.den * q.num) = p / q := by
  rw [Rat.div_def, Rat.inv_def, ← Rat.divInt_mul_divInt, divInt_self]
theorem neg_is (p : Rat) : Rat.divInt (-p.num) p.den = -p := by
  rw [← Rat.neg_divInt, divInt_self]
theorem floor_is (p : Rat) : p.num / (p.den : Int) = p.floor := (Rat.floor_def p).symm
theorem num_zero {q : Rat} : q.num = 0 ↔ q = 0 := Rat.num_eq_zero
theorem pow_is (p : Rat) (k : Nat) : Rat.divInt (p.num ^ k) ((p.den : Int) ^ k) = p ^ k := by
  have := Rat.num_divInt_den (p ^ k)
  rw [Rat.num_pow, Rat.den_pow, Int.natCast_pow] at this
  exact this
theorem scale_is {n d f : Int} (h : f ≠ 0) : Rat.divInt (n * f) (d * f) = Rat.divInt n d := Rat.divInt_mul_right h
theorem rsub_is (p q : Rat) : -p + q = q - p := by
  rw [Rat.add_comm, ← Rat.sub_eq_add_neg]
theorem sm_int {n : Int} {b : Nat} (h : n.natAbs < 2 ^ b) (hb : 0 < b) : Sm b (n : Rat) := ⟨h, Nat.lt_of_lt_of_le (by decide : (1 : Nat) < 2 ^ 1) (pow_le hb)⟩
theorem sm_floor {p : Rat} {b : Nat} (h : Sm b p) : p.floor.natAbs < 2 ^ (b + 1) := by
  rw [Rat.floor_def]
  have a := Int.natAbs_ediv_le_natAbs p.num (p.den : Int)
  exact Nat.lt_of_le_of_lt a (Nat.lt_of_lt_of_le h.1 (pow_le (Nat.le_succ b)))
end Bp

namespace Bp
open PySem.Spec PySem PyProof.Rows
open L2 hiding St Takes XE CX takes_of PMk MkP ps_raise mk_of ps_try_as ps_try_many pmk_own passAt passes_call takes0 passL
open L2N hiding St

/-! ### heaps -/
theorem _root_.L2.Same.new {H : Hp} {p : Addr} {o : HO} (h : H p = none) : Same H (upd H p o) := fun b q e => by
  rw [upd_ne (ne_of_none e h)]
  exact e
theorem _root_.L2.Same.at {H H' : Hp} {p : Addr} {o : HO} (s : Same H H') (h : H p = some o) : H' p = some o := s p o h

/-! ### a def of the module, as the text has it; a def with its promise -/
structure GFun (K : PySem.W.Frag) (mg : Str → Option Value) (x : Str) (st : Stmt) (ps : List Str) : Prop where
  ex : ∃ f fd, L2.Fun K x x st f fd ∧ mg x = some (.ref f) ∧ L2.Binds K fd ps []
structure MFun (K : PySem.W.Frag) (C : Addr) (m qual : Str) (st : Stmt) (ps : List Str) : Prop where
  ex : ∃ f fd, L2.Fun K m qual st f fd ∧ Meth K C m f ∧ L2.Binds K fd ps []
section
variable {P : Program} {w : World} {K : PySem.W.Frag} {mg : Str → Option Value} {base : Heap} {CXt : CXT}
/-- a def, whatever it may let out -/
theorem okN {x qual : Str} {st : Stmt} {f : Addr} {fd : FuncData} {N ps : List Str} {k : Nat} {sp : Sp} (D : L2.Fun K x qual st f fd) (sc : FnScope N ps (defScope st)) (ln : ∀ vs H Q E, sp vs H Q E → vs.length = ps.length)
    (hb : ∀ (cdv : Value) (A : Around) (outer : List Env) (s : Shared) (H : Hp) (vs : List V) (Q : VK) (E : XK), Room k (A.deeper (envOfC qual (defScope st) s.heap.objs.size f cdv)) → sp vs H Q E →
      ∃ t, PSs (cxOf CXt P w K mg base N qual (defScope st) f cdv A outer s H E) (defBody st) t ∧ t { nx := fun _ H' => Q .non H', rt := Q } (start N vs) H) : FnOk P w K mg base CXt (k + 1) f fd ps sp := by
  obtain ⟨_, _, _, _, _, _, c, _, _, e, hk, hc⟩ := D.ex
  subst e
  exact fn_of hk hc sc ln fun A outer s H vs Q E hr h => hb c A outer s H vs Q E hr h
end
structure Def (P : Program) (w : World) (K : PySem.W.Frag) (mg : Str → Option Value) (base : Heap) (k : Nat) (x : Str) (ps : List Str) (sp : Sp) : Prop where
  ex : ∃ f fd, mg x = some (.ref f) ∧ PySem.W.keepIn K (.ref f) = true ∧ L2.Binds K fd ps [] ∧ FnOk P w K mg base (L2N.CX P w) k f fd ps sp
structure MDef (P : Program) (w : World) (K : PySem.W.Frag) (mg : Str → Option Value) (base : Heap) (k : Nat) (C : Addr) (m : Str) (ps : List Str) (sp : Sp) : Prop where
  ex : ∃ f fd, Meth K C m f ∧ L2.Binds K fd ps [] ∧ FnOk P w K mg base (L2N.CX P w) k f fd ps sp
section
variable {P : Program} {w : World} {K : PySem.W.Frag} {mg : Str → Option Value} {base : Heap}
/-- how such a def is shown: by its body -/
theorem GFun.ok {x : Str} {st : Stmt} {ps N : List Str} {k : Nat} {sp : Sp} (F : GFun K mg x st ps) (S : FnScope N ps (defScope st)) (len : ∀ vs H Q E, sp vs H Q E → vs.length = ps.length)
    (hbody : ∀ (f : Addr) (cdv : Value) (A : Around) (outer : List Env) (s : Shared) (H : Hp) (vs : List V) (Q : VK) (E : XK), Room k (A.deeper (envOfC x (defScope st) s.heap.objs.size f cdv)) → sp vs H Q E →
      ∃ t, PSs (cxOf (L2N.CX P w) P w K mg base N x (defScope st) f cdv A outer s H E) (defBody st) t ∧ t { nx := fun _ H' => Q .non H', rt := Q } (start N vs) H) : Def P w K mg base (k + 1) x ps sp := by
  obtain ⟨f, fd, Fn, g, b⟩ := F.ex
  exact ⟨f, fd, g, Fn.kp, b, okN Fn S len (hbody f)⟩
theorem MFun.ok {m qual : Str} {C : Addr} {st : Stmt} {ps N : List Str} {k : Nat} {sp : Sp} (F : MFun K C m qual st ps) (S : FnScope N ps (defScope st)) (len : ∀ vs H Q E, sp vs H Q E → vs.length = ps.length)
    (hbody : ∀ (f : Addr) (cdv : Value) (A : Around) (outer : List Env) (s : Shared) (H : Hp) (vs : List V) (Q : VK) (E : XK), Room k (A.deeper (envOfC qual (defScope st) s.heap.objs.size f cdv)) → sp vs H Q E →
      ∃ t, PSs (cxOf (L2N.CX P w) P w K mg base N qual (defScope st) f cdv A outer s H E) (defBody st) t ∧ t { nx := fun _ H' => Q .non H', rt := Q } (start N vs) H) : MDef P w K mg base (k + 1) C m ps sp := by
  obtain ⟨f, fd, Fn, g, b⟩ := F.ex
  exact ⟨f, fd, g, b, okN Fn S len (hbody f)⟩
theorem Def.mono {j k : Nat} {x : Str} {ps : List Str} {sp : Sp} (D : Def P w K mg base j x ps sp) (h : j ≤ k) : Def P w K mg base k x ps sp := by
  obtain ⟨f, fd, g, kp, b, F⟩ := D.ex
  exact ⟨f, fd, g, kp, b, F.mono h⟩
theorem MDef.mono {j k : Nat} {C : Addr} {m : Str} {ps : List Str} {sp : Sp} (D : MDef P w K mg base j C m ps sp) (h : j ≤ k) : MDef P w K mg base k C m ps sp := by
  obtain ⟨f, fd, g, b, F⟩ := D.ex
  exact ⟨f, fd, g, b, F.mono h⟩
end
section
variable {X : Cx} {k : Nat} {C : Addr} {x m : Str} {ps : List Str} {sp : Sp} {W : WX} {p pos apos : Pos} {e o : Expr} {es : List Expr} {ta : TE} {t : TA}
/-- f(e, ..) -/
theorem pe_callD (D : Def X.prog X.w X.K X.mg X.base k x ps sp) (hr : Room k X.A) (tk : Takes X W) (ha : PA X (e :: es) t) (hg : Gl X x := by rfl) (hdb : (x == ("__debug__" : Str)) = false := by decide)
    (he : starEach (e :: es) X.env = (false, eval e X.env) :: starEach es X.env := by rfl) (hpl : (backTo pos (starEach es X.env)).any (·.1) = false := by rfl) :
    PE X (.Call (.Name x p) (e :: es) [] pos) (tCallS sp (WE W) t) := by
  obtain ⟨f, fd, g, kp, b, F⟩ := D.ex
  exact pe_callS F hr hg g kp b (fun σ => passAt tk σ) ha hdb he hpl
/-- o.m(e, ..) -/
def tMethS (C : Addr) (m : Str) (sp : Sp) (E : L2.St → XK) (ta : TE) (t : TA) : TE := fun σ H Q => ta σ H fun x H1 => ∃ a dx fs, x = .ref a ∧ H1 a = some (.ins C dx fs) ∧ fs.lookup m = none ∧ t σ H1 fun vs H2 => sp (x :: vs) H2 Q (E σ)
theorem pe_methD {pl : Sem Bool} (D : MDef X.prog X.w X.K X.mg X.base k C m ps sp) (hr : Room k X.A) (tk : Takes X W) (c : Cls X.K C) (he : PE X o ta) (ha : PA X (e :: es) t)
    (hst : starEach (e :: es) X.env = (false, eval e X.env) :: starEach es X.env := by rfl) (hpl : (backTo pos (starEach es X.env)).any (·.1) = false := by rfl)
    (ht : eval (.Call (.Attribute o m apos) (e :: es) [] pos) X.env = (eval o X.env >>= fun ov => standAt apos.atName >>= fun _ => holding [ov] (getMethod ov m pl) >>= fun q =>
      callWith pos q.1 q.2 (backTo pos (starEach (e :: es) X.env)) (backToKw pos (keywordEach [] X.env))) := by rfl) :
    PE X (.Call (.Attribute o m apos) (e :: es) [] pos) (tMethS C m sp (WE W) ta t) := by
  obtain ⟨f, fd, hm, b, F⟩ := D.ex
  refine ⟨fun pins s σ H Q I h => PySem.W.methodCall_KW (pl := pl) (thn (he.run pins s σ H _ I h) fun u s1 ⟨x, H1, I1, rx, a, dx, fs, ex, ea, l, q⟩ => ?_) ht⟩
  subst ex
  obtain rfl : u = Value.ref a := rx
  refine getmeth_ok I1 ea c hm l (PySem.W.callWith_K (first := [.ref a]) (h₀ := X.base) I.ok.mod.kin hm.kp (thn (ha.run pos pins s1 σ H1 _ I1 q) fun us s2 ⟨vs, H2, I2, r, q2⟩ => ⟨I2.kIn, ?_⟩) hst hpl)
  exact run_fnS (us := .ref a :: us) (vs := .ref a :: vs) (E := WE W) F hr b (passAt tk σ) I2 (.cons rfl r) q2
theorem pe_methD0 {pl : Sem Bool} (D : MDef X.prog X.w X.K X.mg X.base k C m ps sp) (hr : Room k X.A) (tk : Takes X W) (c : Cls X.K C) (he : PE X o ta)
    (ht : eval (.Call (.Attribute o m apos) [] [] pos) X.env = (eval o X.env >>= fun ov => standAt apos.atName >>= fun _ => holding [ov] (getMethod ov m pl) >>= fun q =>
      callWith pos q.1 q.2 (backTo pos (starEach [] X.env)) (backToKw pos (keywordEach [] X.env))) := by rfl) :
    PE X (.Call (.Attribute o m apos) [] [] pos) (tMethS C m sp (WE W) ta tNil) := by
  obtain ⟨f, fd, hm, b, F⟩ := D.ex
  refine ⟨fun pins s σ H Q I h => PySem.W.methodCall_KW (pl := pl) (thn (he.run pins s σ H _ I h) fun u s1 ⟨x, H1, I1, rx, a, dx, fs, ex, ea, l, q⟩ => ?_) ht⟩
  subst ex
  obtain rfl : u = Value.ref a := rx
  refine getmeth_ok I1 ea c hm l (PySem.W.callWith_K0 (first := [.ref a]) I1.kIn hm.kp ?_)
  exact run_fnS (us := [.ref a]) (vs := [.ref a]) (E := WE W) F hr b (passAt tk σ) I1 (.cons rfl .nil) q
/-- C(..): a class whose __init__ has defaults: n values are written, ds are the others -/
structure CDef (P : Program) (w : World) (K : PySem.W.Frag) (mg : Str → Option Value) (base : Heap) (k : Nat) (x : Str) (C : Addr) (sp : Sp) (dvs : List V) : Prop where
  ex : ∃ f fd ps ds, mg x = some (.ref C) ∧ Mk K C f ∧ L2.Binds K fd ps ds ∧ Vals dvs ds ∧ FnOk P w K mg base (L2N.CX P w) k f fd ps sp
def tMakeS (C : Addr) (sp : Sp) (dvs : List V) (E : L2.St → XK) (t : TA) : TE := fun σ H Q => t σ H fun vs H1 => ∀ x dx, H1 x = none → H1 dx = none → dx ≠ x →
  sp (.ref x :: (vs ++ dvs)) (upd (upd H1 dx (.own x)) x (.ins C dx [])) (fun v H2 => v = .non ∧ Q (.ref x) H2) (E σ)
theorem run_makeS {CX : CXT} {f : Addr} {fd : FuncData} {E : XK} {pins : List (Addr × Obj)} {σ : L2.St} {H : Hp} {s : Shared} {Q : VK} {us ds : List Value} {vs dvs : List V} (M : Mk X.K C f) (F : FnOk X.prog X.w X.K X.mg X.base CX k f fd ps sp) (hr : Room (k + 1) X.A)
    (hb : L2.Binds X.K fd ps ds) (hd : Vals dvs ds) (hx : PassesAt CX X σ E) (I : Inv X pins σ H s) (r : Vals vs us)
    (h : ∀ x dx, H x = none → H dx = none → dx ≠ x → sp (.ref x :: (vs ++ dvs)) (upd (upd H dx (.own x)) x (.ins C dx [])) (fun v H2 => v = .non ∧ Q (.ref x) H2) E) :
    wpAny (model X.prog X.w) X.A (call (.ref C) us) (EP X pins σ Q) X.xe s := by
  have n1 := I.hok.fresh (Nat.le_succ s.heap.objs.size)
  have n2 := I.hok.fresh (Nat.le_refl s.heap.objs.size)
  have hq := h _ _ n1 n2 (Nat.ne_of_lt (Nat.lt_succ_self _))
  have J := Inv.made (C := C) I
  have rr : Vals (V.ref (s.heap.objs.size + 1) :: (vs ++ dvs)) (Value.ref (s.heap.objs.size + 1) :: (us ++ ds)) := .cons rfl (r.append hd)
  have hl : (Value.ref (s.heap.objs.size + 1) :: us ++ ds).length = ps.length := rr.length.symm.trans (F.len _ _ _ _ hq)
  have body := F.run _ X.stack _ _ ⟨Value.ref (s.heap.objs.size + 1) :: us, []⟩ _ _ _ E (hr.make C us []) (J.env0.make C us []) (hb _ (Value.ref (s.heap.objs.size + 1) :: us) J.kIn hl) rr hq
  refine wpAny_call (make_map (f := f) I.kIn M.makes M.init (beq_iff_eq.mp M.fn) (codeAny_mono body fun r s' z => ?_))
  cases r with
  | error e => exact hx pins _ _ e s' J z
  | ok fl =>
    cases fl with
    | ret u =>
      obtain ⟨v, H', I3, rv, ev, q3⟩ := J.after z
      subst ev
      exact ⟨rv, V.ref (s.heap.objs.size + 1), H', I3, rfl, q3⟩
    | next => exact z.elim
    | brk => exact z.elim
    | cont => exact z.elim
theorem pe_makeD {dvs : List V} (D : CDef X.prog X.w X.K X.mg X.base k x C sp dvs) (hr : Room (k + 1) X.A) (tk : Takes X W) (ha : PA X (e :: es) t) (hg : Gl X x := by rfl) (hdb : (x == ("__debug__" : Str)) = false := by decide)
    (he : starEach (e :: es) X.env = (false, eval e X.env) :: starEach es X.env := by rfl) (hpl : (backTo pos (starEach es X.env)).any (·.1) = false := by rfl) :
    PE X (.Call (.Name x p) (e :: es) [] pos) (tMakeS C sp dvs (WE W) t) := by
  obtain ⟨f, fd, ps, ds, hm, M, hb, hd, F⟩ := D.ex
  refine ⟨fun pins s σ H Q I h => wpAny_Call_Name_kw (ld_glob I hg hm ?_ hdb)⟩
  refine PySem.W.callWith_K (h₀ := X.base) I.ok.mod.kin M.kp (thn (ha.run pos pins s σ H _ I h) fun us s1 ⟨vs, H1, I1, r, q⟩ => ⟨I1.kIn, ?_⟩) he hpl
  exact run_makeS M F hr hb hd (passAt tk σ) I1 r q
theorem pe_makeD0 {dvs : List V} (D : CDef X.prog X.w X.K X.mg X.base k x C sp dvs) (hr : Room (k + 1) X.A) (tk : Takes X W) (hg : Gl X x := by rfl) (hdb : (x == ("__debug__" : Str)) = false := by decide) :
    PE X (.Call (.Name x p) [] [] pos) (tMakeS C sp dvs (WE W) tNil) := by
  obtain ⟨f, fd, ps, ds, hm, M, hb, hd, F⟩ := D.ex
  refine ⟨fun pins s σ H Q I h => wpAny_Call_Name_kw (ld_glob I hg hm ?_ hdb)⟩
  exact PySem.W.callWith_K0 I.kIn M.kp (run_makeS (us := []) M F hr hb hd (passAt tk σ) I .nil h)
/-- operators of the class's own, by its defs -/
theorem op_ownD {op : Operator} {nm : Str} (hnm : nm = PySem.dunder op.info.2 := by rfl) (hc : PySem.W.selfFirst X.K C = true) (hr1 : ∃ rc, PySem.W.findIn X.K (.ref C) (dunderR op.info.2) = some rc ∧ (rc = none ∨ ∃ g : Addr, rc = some (.ref g)))
    (h1 : ∃ fo, PySem.W.findIn X.K (.type "int") (PySem.dunder op.info.2) = some fo) (h2 : ∃ ro, PySem.W.findIn X.K (.type "int") (dunderR op.info.2) = some ro) (sub : PySem.W.subIn X.K (.type "int") (.ref C) = some false)
    (subC : PySem.W.subIn X.K (.ref C) (.type "int") = some false) (D : MDef X.prog X.w X.K X.mg X.base k C nm ps sp) (hr : Room k X.A) (tk : Takes X W) : OpS X (binaryOp op) (rOwn C sp (WE W)) := by
  obtain ⟨f, fd, hm, b, F⟩ := D.ex
  subst hnm
  exact op_own ⟨hc, hm.at_, hm.fn, hr1, h1, h2, sub, subC⟩ F hr b fun σ => passAt tk σ
end
/-- kitOne from what the text says of subclasses -/
theorem kit_base {K : PySem.W.Frag} {t : Value} {T : String} {b : Bool} (ne : (t == Value.type T) = false) (hm : PySem.W.kitMeta T = true) (hs : PySem.W.subIn K t (.type T) = some b) : PySem.W.kitOne K t (.type T) = some b := by
  show (if (t == Value.type T) = true then some true else if PySem.W.kitMeta T = true then PySem.W.subIn K t (.type T) else none) = some b
  rw [ne, if_neg Bool.false_ne_true, if_pos hm, hs]
theorem kit_same {K : PySem.W.Frag} {t : Value} : PySem.W.kitOne K t t = some true := by
  unfold PySem.W.kitOne
  rw [beq_self_eq_true, if_pos rfl]
theorem kit_cls {K : PySem.W.Frag} {t : Value} {C : Addr} {b : Bool} (ne : (t == Value.ref C) = false) (h1 : PySem.W.isClsIn K C = true) (h2 : PySem.W.typeIn K (.ref C) = some (.type "type")) (hs : PySem.W.subIn K t (.ref C) = some b) : PySem.W.kitOne K t (.ref C) = some b := by
  have h1' : (PySem.W.clsIn K C).isSome = true := h1
  show (if (t == Value.ref C) = true then some true else if ((PySem.W.clsIn K C).isSome && PySem.W.typeIn K (.ref C) == some (.type "type")) = true then PySem.W.subIn K t (.ref C) else none) = some b
  rw [ne, if_neg Bool.false_ne_true, h1', h2, hs]
  rfl
end Bp

namespace Bp
open PySem.Spec PySem PyProof.Rows
open L2 hiding St
def top (i : Nat) : Stmt := PySem.Challenge.pw_bestpapers_k02_fraction_texts.main.body.getD i (.Pass ⟨0, 0, 0, 0⟩)
abbrev s_wall : Stmt := top 1
abbrev s_BadNumber_init : Stmt := inClass (top 5) 0
abbrev s_as_frac : Stmt := top 7
abbrev s_gap : Stmt := top 8
abbrev s_are_figures : Stmt := top 9
abbrev s_Frac_init : Stmt := inClass (top 10) 1
abbrev s_Frac_read : Stmt := inClass (top 10) 2
abbrev s_Frac_over : Stmt := inClass (top 10) 3
abbrev s_Frac_floor : Stmt := inClass (top 10) 4
abbrev s_Frac_ceiling : Stmt := inClass (top 10) 5
abbrev s_Frac_is_whole : Stmt := inClass (top 10) 6
abbrev s_Frac_str : Stmt := inClass (top 10) 7
abbrev s_Frac_repr : Stmt := inClass (top 10) 8
abbrev s_Frac_bool : Stmt := inClass (top 10) 9
abbrev s_Frac_neg : Stmt := inClass (top 10) 10
abbrev s_Frac_abs : Stmt := inClass (top 10) 11
abbrev s_Frac_add : Stmt := inClass (top 10) 12
abbrev s_Frac_radd : Stmt := inClass (top 10) 13
abbrev s_Frac_sub : Stmt := inClass (top 10) 14
abbrev s_Frac_rsub : Stmt := inClass (top 10) 15
abbrev s_Frac_mul : Stmt := inClass (top 10) 16
abbrev s_Frac_rmul : Stmt := inClass (top 10) 17
abbrev s_Frac_floordiv : Stmt := inClass (top 10) 18
abbrev s_Frac_rfloordiv : Stmt := inClass (top 10) 19
abbrev s_Frac_mod : Stmt := inClass (top 10) 20
abbrev s_Frac_rmod : Stmt := inClass (top 10) 21
abbrev s_Frac_pow : Stmt := inClass (top 10) 22
abbrev s_Frac_eq : Stmt := inClass (top 10) 23
abbrev s_Frac_ne : Stmt := inClass (top 10) 24
abbrev s_Frac_lt : Stmt := inClass (top 10) 25
abbrev s_Frac_le : Stmt := inClass (top 10) 26
abbrev s_Frac_gt : Stmt := inClass (top 10) 27
abbrev s_Frac_ge : Stmt := inClass (top 10) 28
abbrev s_law_cell : Stmt := top 12
abbrev s_law_gcd : Stmt := top 13
abbrev s_law_low : Stmt := top 14
abbrev s_law_number : Stmt := top 15
abbrev s_law_drawn : Stmt := top 16
abbrev s_law_text : Stmt := top 17
abbrev s_law_figures : Stmt := top 18
abbrev s_law_reading : Stmt := top 19
abbrev s_law_short : Stmt := top 20
abbrev s_law_spoilt : Stmt := top 21
abbrev s_law_integer : Stmt := top 22
abbrev s_law_is : Stmt := top 23
abbrev s_law_reads : Stmt := top 24
abbrev s_law_writes : Stmt := top 25
abbrev s_law : Stmt := top 26
theorem c_wall : FnScope ["k"] ["k"] (defScope s_wall) := ⟨rfl, rfl, rfl, by decide +kernel, rfl, by decide +kernel, by decide +kernel⟩
theorem c_BadNumber_init : FnScope ["self", "text"] ["self", "text"] (defScope s_BadNumber_init) := ⟨rfl, rfl, rfl, by decide +kernel, rfl, by decide +kernel, by decide +kernel⟩
theorem c_as_frac : FnScope ["number"] ["number"] (defScope s_as_frac) := ⟨rfl, rfl, rfl, by decide +kernel, rfl, by decide +kernel, by decide +kernel⟩
theorem c_gap : FnScope ["left", "right", "other"] ["left", "right"] (defScope s_gap) := ⟨rfl, rfl, rfl, by decide +kernel, rfl, by decide +kernel, by decide +kernel⟩
theorem c_are_figures : FnScope ["text"] ["text"] (defScope s_are_figures) := ⟨rfl, rfl, rfl, by decide +kernel, rfl, by decide +kernel, by decide +kernel⟩
theorem c_Frac_init : FnScope ["self", "num", "den", "common"] ["self", "num", "den"] (defScope s_Frac_init) := ⟨rfl, rfl, rfl, by decide +kernel, rfl, by decide +kernel, by decide +kernel⟩
theorem c_Frac_read : FnScope ["text", "top", "slash", "bottom", "number"] ["text"] (defScope s_Frac_read) := ⟨rfl, rfl, rfl, by decide +kernel, rfl, by decide +kernel, by decide +kernel⟩
theorem c_Frac_over : FnScope ["self", "other", "right"] ["self", "other"] (defScope s_Frac_over) := ⟨rfl, rfl, rfl, by decide +kernel, rfl, by decide +kernel, by decide +kernel⟩
theorem c_Frac_floor : FnScope ["self"] ["self"] (defScope s_Frac_floor) := ⟨rfl, rfl, rfl, by decide +kernel, rfl, by decide +kernel, by decide +kernel⟩
theorem c_Frac_ceiling : FnScope ["self"] ["self"] (defScope s_Frac_ceiling) := ⟨rfl, rfl, rfl, by decide +kernel, rfl, by decide +kernel, by decide +kernel⟩
theorem c_Frac_is_whole : FnScope ["self"] ["self"] (defScope s_Frac_is_whole) := ⟨rfl, rfl, rfl, by decide +kernel, rfl, by decide +kernel, by decide +kernel⟩
theorem c_Frac_str : FnScope ["self"] ["self"] (defScope s_Frac_str) := ⟨rfl, rfl, rfl, by decide +kernel, rfl, by decide +kernel, by decide +kernel⟩
theorem c_Frac_repr : FnScope ["self"] ["self"] (defScope s_Frac_repr) := ⟨rfl, rfl, rfl, by decide +kernel, rfl, by decide +kernel, by decide +kernel⟩
theorem c_Frac_bool : FnScope ["self"] ["self"] (defScope s_Frac_bool) := ⟨rfl, rfl, rfl, by decide +kernel, rfl, by decide +kernel, by decide +kernel⟩
theorem c_Frac_neg : FnScope ["self"] ["self"] (defScope s_Frac_neg) := ⟨rfl, rfl, rfl, by decide +kernel, rfl, by decide +kernel, by decide +kernel⟩
theorem c_Frac_abs : FnScope ["self"] ["self"] (defScope s_Frac_abs) := ⟨rfl, rfl, rfl, by decide +kernel, rfl, by decide +kernel, by decide +kernel⟩
theorem c_Frac_add : FnScope ["self", "other", "right"] ["self", "other"] (defScope s_Frac_add) := ⟨rfl, rfl, rfl, by decide +kernel, rfl, by decide +kernel, by decide +kernel⟩
theorem c_Frac_radd : FnScope ["self", "other"] ["self", "other"] (defScope s_Frac_radd) := ⟨rfl, rfl, rfl, by decide +kernel, rfl, by decide +kernel, by decide +kernel⟩
theorem c_Frac_sub : FnScope ["self", "other", "right"] ["self", "other"] (defScope s_Frac_sub) := ⟨rfl, rfl, rfl, by decide +kernel, rfl, by decide +kernel, by decide +kernel⟩
theorem c_Frac_rsub : FnScope ["self", "other"] ["self", "other"] (defScope s_Frac_rsub) := ⟨rfl, rfl, rfl, by decide +kernel, rfl, by decide +kernel, by decide +kernel⟩
theorem c_Frac_mul : FnScope ["self", "other", "right"] ["self", "other"] (defScope s_Frac_mul) := ⟨rfl, rfl, rfl, by decide +kernel, rfl, by decide +kernel, by decide +kernel⟩
theorem c_Frac_rmul : FnScope ["self", "other"] ["self", "other"] (defScope s_Frac_rmul) := ⟨rfl, rfl, rfl, by decide +kernel, rfl, by decide +kernel, by decide +kernel⟩
theorem c_Frac_floordiv : FnScope ["self", "other"] ["self", "other"] (defScope s_Frac_floordiv) := ⟨rfl, rfl, rfl, by decide +kernel, rfl, by decide +kernel, by decide +kernel⟩
theorem c_Frac_rfloordiv : FnScope ["self", "other"] ["self", "other"] (defScope s_Frac_rfloordiv) := ⟨rfl, rfl, rfl, by decide +kernel, rfl, by decide +kernel, by decide +kernel⟩
theorem c_Frac_mod : FnScope ["self", "other"] ["self", "other"] (defScope s_Frac_mod) := ⟨rfl, rfl, rfl, by decide +kernel, rfl, by decide +kernel, by decide +kernel⟩
theorem c_Frac_rmod : FnScope ["self", "other"] ["self", "other"] (defScope s_Frac_rmod) := ⟨rfl, rfl, rfl, by decide +kernel, rfl, by decide +kernel, by decide +kernel⟩
theorem c_Frac_pow : FnScope ["self", "other", "num", "den", "_"] ["self", "other"] (defScope s_Frac_pow) := ⟨rfl, rfl, rfl, by decide +kernel, rfl, by decide +kernel, by decide +kernel⟩
theorem c_Frac_eq : FnScope ["self", "other", "right"] ["self", "other"] (defScope s_Frac_eq) := ⟨rfl, rfl, rfl, by decide +kernel, rfl, by decide +kernel, by decide +kernel⟩
theorem c_Frac_ne : FnScope ["self", "other"] ["self", "other"] (defScope s_Frac_ne) := ⟨rfl, rfl, rfl, by decide +kernel, rfl, by decide +kernel, by decide +kernel⟩
theorem c_Frac_lt : FnScope ["self", "other"] ["self", "other"] (defScope s_Frac_lt) := ⟨rfl, rfl, rfl, by decide +kernel, rfl, by decide +kernel, by decide +kernel⟩
theorem c_Frac_le : FnScope ["self", "other"] ["self", "other"] (defScope s_Frac_le) := ⟨rfl, rfl, rfl, by decide +kernel, rfl, by decide +kernel, by decide +kernel⟩
theorem c_Frac_gt : FnScope ["self", "other"] ["self", "other"] (defScope s_Frac_gt) := ⟨rfl, rfl, rfl, by decide +kernel, rfl, by decide +kernel, by decide +kernel⟩
theorem c_Frac_ge : FnScope ["self", "other"] ["self", "other"] (defScope s_Frac_ge) := ⟨rfl, rfl, rfl, by decide +kernel, rfl, by decide +kernel, by decide +kernel⟩
theorem c_law_cell : FnScope ["script", "k"] ["script", "k"] (defScope s_law_cell) := ⟨rfl, rfl, rfl, by decide +kernel, rfl, by decide +kernel, by decide +kernel⟩
theorem c_law_gcd : FnScope ["first", "second", "rest"] ["first", "second"] (defScope s_law_gcd) := ⟨rfl, rfl, rfl, by decide +kernel, rfl, by decide +kernel, by decide +kernel⟩
theorem c_law_low : FnScope ["num", "den", "shared"] ["num", "den"] (defScope s_law_low) := ⟨rfl, rfl, rfl, by decide +kernel, rfl, by decide +kernel, by decide +kernel⟩
theorem c_law_number : FnScope ["script", "k", "figures", "great", "j", "least"] ["script", "k", "figures"] (defScope s_law_number) := ⟨rfl, rfl, rfl, by decide +kernel, rfl, by decide +kernel, by decide +kernel⟩
theorem c_law_drawn : FnScope ["script", "figures", "below", "kind", "edge", "num", "den"] ["script"] (defScope s_law_drawn) := ⟨rfl, rfl, rfl, by decide +kernel, rfl, by decide +kernel, by decide +kernel⟩
theorem c_law_text : FnScope ["value", "text"] ["value"] (defScope s_law_text) := ⟨rfl, rfl, rfl, by decide +kernel, rfl, by decide +kernel, by decide +kernel⟩
theorem c_law_figures : FnScope ["word", "sign"] ["word"] (defScope s_law_figures) := ⟨rfl, rfl, rfl, by decide +kernel, rfl, by decide +kernel, by decide +kernel⟩
theorem c_law_reading : FnScope ["text", "sign", "words", "num", "den"] ["text"] (defScope s_law_reading) := ⟨rfl, rfl, rfl, by decide +kernel, rfl, by decide +kernel, by decide +kernel⟩
theorem c_law_short : FnScope ["k", "words"] ["k"] (defScope s_law_short) := ⟨rfl, rfl, rfl, by decide +kernel, rfl, by decide +kernel, by decide +kernel⟩
theorem c_law_spoilt : FnScope ["value", "kind", "place", "char", "text", "head", "tail", "top", "digits", "minus", "den", "rest", "words"] ["value", "kind", "place", "char"] (defScope s_law_spoilt) := ⟨rfl, rfl, rfl, by decide +kernel, rfl, by decide +kernel, by decide +kernel⟩
theorem c_law_integer : FnScope ["told", "due"] ["told", "due"] (defScope s_law_integer) := ⟨rfl, rfl, rfl, by decide +kernel, rfl, by decide +kernel, by decide +kernel⟩
theorem c_law_is : FnScope ["told", "due"] ["told", "due"] (defScope s_law_is) := ⟨rfl, rfl, rfl, by decide +kernel, rfl, by decide +kernel, by decide +kernel⟩
theorem c_law_reads : FnScope ["text", "due", "told", "e"] ["text"] (defScope s_law_reads) := ⟨rfl, rfl, rfl, by decide +kernel, rfl, by decide +kernel, by decide +kernel⟩
theorem c_law_writes : FnScope ["value", "other", "text", "first", "product", "made", "square"] ["value", "other"] (defScope s_law_writes) := ⟨rfl, rfl, rfl, by decide +kernel, rfl, by decide +kernel, by decide +kernel⟩
theorem c_law : FnScope ["script", "value", "k", "kind", "char", "text", "below", "other", "great"] ["script"] (defScope s_law) := ⟨rfl, rfl, rfl, by decide +kernel, rfl, by decide +kernel, by decide +kernel⟩
end Bp

namespace Bp
open PySem.Spec PySem PyProof.Rows
open L2 hiding St Takes XE CX takes_of PMk MkP ps_raise mk_of ps_try_as ps_try_many pmk_own passAt passes_call takes0 passL
open L2N hiding St

/-! ### what an expression comes to: from every heap that keeps H's objects, a value with P, all kept -/
abbrev VP := V → Hp → Prop
def Ge (te : TE) (σ : L2.St) (H : Hp) (P : VP) : Prop := ∀ H1, Same H H1 → ∀ Q : VK, (∀ v H2, Same H1 H2 → P v H2 → Q v H2) → te σ H1 Q
def GeA (ta : TA) (σ : L2.St) (H : Hp) (P : List V → Hp → Prop) : Prop := ∀ H1, Same H H1 → ∀ Q : List V → Hp → Prop, (∀ vs H2, Same H1 H2 → P vs H2 → Q vs H2) → ta σ H1 Q
def GeT (tt : TT) (σ : L2.St) (H : Hp) (b : Bool) : Prop := ∀ H1, Same H H1 → ∀ Q : Bool → Hp → Prop, (∀ H2, Same H1 H2 → Q b H2) → tt σ H1 Q
/-- the value is v -/
abbrev Is (v : V) : VP := fun x _ => x = v
/-- P stands in every later heap -/
def Up (P : VP) : Prop := ∀ v H H', P v H → Same H H' → P v H'
theorem Up.is (v : V) : Up (Is v) := fun _ _ _ h _ => h
section
variable {σ : L2.St} {H : Hp} {i : Nat} {v x y : V} {ta tb te : TE} {tA : TA} {t u : TT} {P PA PB : VP} {K : PySem.W.Frag} {b c : Bool}
theorem Ge.mono {H' : Hp} (h : Ge te σ H P) (s : Same H H') : Ge te σ H' P := fun H1 s1 => h H1 (s.trans s1)
theorem Ge.imp {P' : VP} (h : Ge te σ H P) (k : ∀ v H1, Same H H1 → P v H1 → P' v H1) : Ge te σ H P' := fun H1 s1 Q q => h H1 s1 Q fun v H2 s2 p => q v H2 s2 (k v H2 (s1.trans s2) p)
theorem ge_var (h : σ[i]? = some (some v)) : Ge (tVar i) σ H (Is v) := fun H1 _ Q q => ⟨v, h, q v H1 (Same.refl _) rfl⟩
theorem ge_varP (h : σ[i]? = some (some v)) (hp : P v H) (up : Up P) : Ge (tVar i) σ H P := fun H1 s Q q => ⟨v, h, q v H1 (Same.refl _) (up _ _ _ hp s)⟩
theorem ge_c : Ge (tC v) σ H (Is v) := fun H1 _ Q q => q v H1 (Same.refl _) rfl
/-- two operands -/
theorem ge_two {r : R2} (ha : Ge ta σ H PA) (hb : Ge tb σ H PB) (ua : Up PA) (hr : ∀ x y H1, Same H H1 → PA x H1 → PB y H1 → ∀ Q : VK, (∀ v H2, Same H1 H2 → P v H2 → Q v H2) → r x y H1 Q) : Ge (tOp r ta tb) σ H P := fun H1 s Q q =>
  ha H1 s _ fun x H2 s2 px => hb H2 (s.trans s2) _ fun y H3 s3 py => hr x y H3 ((s.trans s2).trans s3) (ua _ _ _ px s3) py Q fun v H4 s4 pv => q v H4 ((s2.trans s3).trans s4) pv
theorem ge_twoS {r : R2S} (ha : Ge ta σ H PA) (hb : Ge tb σ H PB) (ua : Up PA) (hr : ∀ x y H1, Same H H1 → PA x H1 → PB y H1 → ∀ Q : VK, (∀ v H2, Same H1 H2 → P v H2 → Q v H2) → r σ x y H1 Q) : Ge (tOpS r ta tb) σ H P := fun H1 s Q q =>
  ha H1 s _ fun x H2 s2 px => hb H2 (s.trans s2) _ fun y H3 s3 py => hr x y H3 ((s.trans s2).trans s3) (ua _ _ _ px s3) py Q fun v H4 s4 pv => q v H4 ((s2.trans s3).trans s4) pv
theorem ge_I0 {g : Int → Int → V} {m n : Int} (ha : Ge ta σ H (Is (.int m))) (hb : Ge tb σ H (Is (.int n))) : Ge (tOp (rI0 g) ta tb) σ H (Is (g m n)) :=
  ge_two ha hb (Up.is _) fun x y H1 _ ex ey Q q => ⟨m, n, ex, ey, q _ H1 (Same.refl _) rfl⟩
theorem ge_I {C : Int → Int → Prop} {g : Int → Int → V} {m n : Int} (ha : Ge ta σ H (Is (.int m))) (hb : Ge tb σ H (Is (.int n))) (hc : C m n) : Ge (tOp (rI C g) ta tb) σ H (Is (g m n)) :=
  ge_two ha hb (Up.is _) fun x y H1 _ ex ey Q q => ⟨m, n, ex, ey, hc, q _ H1 (Same.refl _) rfl⟩
theorem ge_add {m n : Int} (ha : Ge ta σ H (Is (.int m))) (hb : Ge tb σ H (Is (.int n))) : Ge (tOp (rI0 fun i j => .int (i + j)) ta tb) σ H (Is (.int (m + n))) := ge_I0 ha hb
theorem ge_sub {m n : Int} (ha : Ge ta σ H (Is (.int m))) (hb : Ge tb σ H (Is (.int n))) : Ge (tOp (rI0 fun i j => .int (i - j)) ta tb) σ H (Is (.int (m - n))) := ge_I0 ha hb
theorem ge_eq (ha : Ge ta σ H (Is x)) (hb : Ge tb σ H (Is y)) (hs : scal x y = true) : Ge (tOp rEq ta tb) σ H (Is (.bl (decide (x = y)))) :=
  ge_two ha hb (Up.is _) fun x' y' H1 _ ex ey Q q => by subst ex; subst ey; exact ⟨hs, q _ H1 (Same.refl _) rfl⟩
theorem ge_ne (ha : Ge ta σ H (Is x)) (hb : Ge tb σ H (Is y)) (hs : scal x y = true) : Ge (tOp rNe ta tb) σ H (Is (.bl (!decide (x = y)))) :=
  ge_two ha hb (Up.is _) fun x' y' H1 _ ex ey Q q => by subst ex; subst ey; exact ⟨hs, q _ H1 (Same.refl _) rfl⟩
theorem ge_un {g : Int → V} {m : Int} (ha : Ge ta σ H (Is (.int m))) : Ge (tUn (rU g) ta) σ H (Is (g m)) := fun H1 s Q q => ha H1 s _ fun v H2 s2 e => ⟨m, e, q _ H2 s2 rfl⟩
theorem ge_unP {r : V → Hp → VK → Prop} (ha : Ge ta σ H PA) (hr : ∀ x H1, Same H H1 → PA x H1 → ∀ Q : VK, (∀ v H2, Same H1 H2 → P v H2 → Q v H2) → r x H1 Q) : Ge (tUn r ta) σ H P := fun H1 s Q q =>
  ha H1 s _ fun x H2 s2 px => hr x H2 (s.trans s2) px Q fun v H3 s3 pv => q v H3 (s2.trans s3) pv
/-! arguments -/
theorem ga_nil : GeA tNil σ H (fun vs _ => vs = []) := fun H1 _ Q q => q [] H1 (Same.refl _) rfl
theorem ga_cons {PL : List V → Hp → Prop} (ha : Ge te σ H PA) (hr : GeA tA σ H PL) (ua : Up PA) : GeA (tCons te tA) σ H (fun vs H1 => ∃ v r, vs = v :: r ∧ PA v H1 ∧ PL r H1) := fun H1 s Q q =>
  ha H1 s _ fun v H2 s2 pv => hr H2 (s.trans s2) _ fun vs H3 s3 pl => q _ H3 (s2.trans s3) ⟨v, vs, rfl, ua _ _ _ pv s3, pl⟩
theorem ga1 (ha : Ge te σ H PA) (ua : Up PA) : GeA (tCons te tNil) σ H (fun vs H1 => ∃ v, vs = [v] ∧ PA v H1) := fun H1 s Q q =>
  ha H1 s _ fun v H2 s2 pv => q [v] H2 s2 ⟨v, rfl, pv⟩
theorem ga2 (ha : Ge ta σ H PA) (hb : Ge tb σ H PB) (ua : Up PA) : GeA (tCons ta (tCons tb tNil)) σ H (fun vs H1 => ∃ v w, vs = [v, w] ∧ PA v H1 ∧ PB w H1) := fun H1 s Q q =>
  ha H1 s _ fun v H2 s2 pv => hb H2 (s.trans s2) _ fun w' H3 s3 pw => q [v, w'] H3 (s2.trans s3) ⟨v, w', rfl, ua _ _ _ pv s3, pw⟩
theorem ga3 {tc : TE} {PC : VP} (ha : Ge ta σ H PA) (hb : Ge tb σ H PB) (hc : Ge tc σ H PC) (ua : Up PA) (ub : Up PB) : GeA (tCons ta (tCons tb (tCons tc tNil))) σ H (fun vs H1 => ∃ v w z, vs = [v, w, z] ∧ PA v H1 ∧ PB w H1 ∧ PC z H1) := fun H1 s Q q =>
  ha H1 s _ fun v H2 s2 pv => hb H2 (s.trans s2) _ fun w' H3 s3 pw => hc H3 ((s.trans s2).trans s3) _ fun z H4 s4 pz => q [v, w', z] H4 ((s2.trans s3).trans s4) ⟨v, w', z, rfl, ua _ _ _ pv (s3.trans s4), ub _ _ _ pw s4, pz⟩
theorem ga4 {tc td : TE} {PC PD : VP} (ha : Ge ta σ H PA) (hb : Ge tb σ H PB) (hc : Ge tc σ H PC) (hd : Ge td σ H PD) (ua : Up PA) (ub : Up PB) (uc : Up PC) :
    GeA (tCons ta (tCons tb (tCons tc (tCons td tNil)))) σ H (fun vs H1 => ∃ v w z y, vs = [v, w, z, y] ∧ PA v H1 ∧ PB w H1 ∧ PC z H1 ∧ PD y H1) := fun H1 s Q q =>
  ha H1 s _ fun v H2 s2 pv => hb H2 (s.trans s2) _ fun w' H3 s3 pw => hc H3 ((s.trans s2).trans s3) _ fun z H4 s4 pz => hd H4 (((s.trans s2).trans s3).trans s4) _ fun y H5 s5 py =>
    q [v, w', z, y] H5 (((s2.trans s3).trans s4).trans s5) ⟨v, w', z, y, rfl, ua _ _ _ pv ((s3.trans s4).trans s5), ub _ _ _ pw (s4.trans s5), uc _ _ _ pz s5, py⟩
/-! calls -/
theorem ge_call {sp : Sp} {E : L2.St → XK} {PL : List V → Hp → Prop} (ha : GeA tA σ H PL) (h : ∀ vs H1, Same H H1 → PL vs H1 → ∀ Q : VK, (∀ v H2, Same H1 H2 → P v H2 → Q v H2) → sp vs H1 Q (E σ)) : Ge (tCallS sp E tA) σ H P := fun H1 s Q q =>
  ha H1 s _ fun vs H2 s2 pl => h vs H2 (s.trans s2) pl Q fun v H3 s3 pv => q v H3 (s2.trans s3) pv
theorem ge_callB {r : List V → Hp → VK → Prop} {PL : List V → Hp → Prop} (ha : GeA tA σ H PL) (h : ∀ vs H1, Same H H1 → PL vs H1 → ∀ Q : VK, (∀ v H2, Same H1 H2 → P v H2 → Q v H2) → r vs H1 Q) : Ge (tCB r tA) σ H P := fun H1 s Q q =>
  ha H1 s _ fun vs H2 s2 pl => h vs H2 (s.trans s2) pl Q fun v H3 s3 pv => q v H3 (s2.trans s3) pv
/-! displays -/
theorem ge_tup {PL : List V → Hp → Prop} {n : Nat} (ha : GeA tA σ H PL) (hl : ∀ vs H1, PL vs H1 → vs.length ≤ sizeLine) : Ge (tTup tA) σ H (fun v H1 => ∃ p vs H0, v = .ref p ∧ PL vs H0 ∧ Same H0 H1 ∧ H1 p = some (.tup vs)) := fun H1 s Q q =>
  ha H1 s _ fun vs H2 s2 pl => ⟨hl vs H2 pl, fun p hp => q _ _ (s2.trans (Same.new hp)) ⟨p, vs, H2, rfl, pl, Same.new hp, upd_same⟩⟩
/-- a tuple, a list that stands -/
abbrev Tup (xs : List V) : VP := fun v H => ∃ p, v = .ref p ∧ H p = some (.tup xs)
abbrev Lst (xs : List V) : VP := fun v H => ∃ p, v = .ref p ∧ H p = some (.lst xs)
theorem up_tup (xs : List V) : Up (Tup xs) := fun v H H' ⟨p, e, h⟩ s => ⟨p, e, s _ _ h⟩
theorem up_lst (xs : List V) : Up (Lst xs) := fun v H H' ⟨p, e, h⟩ s => ⟨p, e, s _ _ h⟩
theorem ge_pair (ha : Ge ta σ H (Is x)) (hb : Ge tb σ H (Is y)) : Ge (tTup (tCons ta (tCons tb tNil))) σ H (Tup [x, y]) := fun H1 s Q q =>
  ha H1 s _ fun v H2 s2 e2 => hb H2 (s.trans s2) _ fun w' H3 s3 e3 => by
    subst e2
    subst e3
    exact ⟨by show 2 ≤ sizeLine; decide, fun p hp => q _ _ ((s2.trans s3).trans (Same.new hp)) ⟨p, rfl, upd_same⟩⟩
/-- t[i] of a tuple that stands -/
theorem ge_ix {xs : List V} {j : Int} (ha : Ge ta σ H (Tup xs)) (hb : Ge tb σ H (Is (.int j))) (h : atI xs j = some v) : Ge (tOp (rIxT K) ta tb) σ H (Is v) :=
  ge_two ha hb (up_tup xs) fun x y H1 _ px ey Q q => by
    obtain ⟨p, e, hp⟩ := px
    exact ⟨p, xs, j, v, e, ey, SqT.of hp, h, q _ H1 (Same.refl _) rfl⟩
theorem ge_ixL {xs : List V} {j : Int} (ha : Ge ta σ H (Lst xs)) (hb : Ge tb σ H (Is (.int j))) (h : atI xs j = some v) : Ge (tOp (rIxL K) ta tb) σ H (Is v) :=
  ge_two ha hb (up_lst xs) fun x y H1 _ px ey Q q => by
    obtain ⟨p, e, hp⟩ := px
    exact ⟨p, xs, j, v, e, ey, SqL.of hp, h, q _ H1 (Same.refl _) rfl⟩
/-! tests -/
theorem gt_test (h : Ge te σ H (Is (.bl b))) : GeT (tTest te) σ H b := fun H1 s Q q => h H1 s _ fun v H2 s2 e => ⟨b, e, q H2 s2⟩
theorem gt_b (h : Ge te σ H (Is (.bl b))) : GeT (tB te) σ H b := fun H1 s Q q => h H1 s _ fun v H2 s2 e => ⟨b, e, q H2 s2⟩
theorem gt_not (h : GeT t σ H b) : GeT (tNot t) σ H (!b) := fun H1 s Q q => h H1 s _ q
theorem GeT.mono {H' : Hp} (h : GeT t σ H b) (s : Same H H') : GeT t σ H' b := fun H1 s1 => h H1 (s.trans s1)
theorem GeT.to {b' : Bool} (h : GeT t σ H b) (e : b = b') : GeT t σ H b' := e ▸ h
theorem gt_and (h : GeT t σ H b) (k : b = true → GeT u σ H c) : GeT (tAnd t u) σ H (b && c) := fun H1 s Q q => h H1 s _ fun H2 s2 => by
  cases b with
  | true => exact iteT (k rfl H2 (s.trans s2) Q fun H3 s3 => q H3 (s2.trans s3))
  | false => exact iteF (q H2 s2)
theorem gt_or (h : GeT t σ H b) (k : b = false → GeT u σ H c) : GeT (tOr t u) σ H (b || c) := fun H1 s Q q => h H1 s _ fun H2 s2 => by
  cases b with
  | true => exact iteT (q H2 s2)
  | false => exact iteF (k rfl H2 (s.trans s2) Q fun H3 s3 => q H3 (s2.trans s3))
/-! and, or, not as values -/
theorem ge_andV (h : Ge ta σ H (Is (.bl b))) (k : b = true → Ge tb σ H (Is (.bl c))) : Ge (tAndV ta tb) σ H (Is (.bl (b && c))) := fun H1 s Q q => h H1 s _ fun v H2 s2 e => ⟨b, e, by
  cases b with
  | true => exact iteT (k rfl H2 (s.trans s2) Q fun v H3 s3 => q v H3 (s2.trans s3))
  | false => exact iteF (q _ H2 s2 rfl)⟩
theorem ge_orV (h : Ge ta σ H (Is (.bl b))) (k : b = false → Ge tb σ H (Is (.bl c))) : Ge (tOrV ta tb) σ H (Is (.bl (b || c))) := fun H1 s Q q => h H1 s _ fun v H2 s2 e => ⟨b, e, by
  cases b with
  | true => exact iteT (q _ H2 s2 rfl)
  | false => exact iteF (k rfl H2 (s.trans s2) Q fun v H3 s3 => q v H3 (s2.trans s3))⟩
theorem ge_notV (h : Ge ta σ H (Is (.bl b))) : Ge (tNotV ta) σ H (Is (.bl (!b))) := fun H1 s Q q => h H1 s _ fun v H2 s2 e => ⟨b, e, q _ H2 s2 rfl⟩
theorem ge_if (ht : GeT t σ H b) (ha : b = true → Ge ta σ H P) (hb : b = false → Ge tb σ H P) : Ge (tIf t ta tb) σ H P := fun H1 s Q q => ht H1 s _ fun H2 s2 => by
  cases b with
  | true => exact iteT (ha rfl H2 (s.trans s2) Q fun v H3 s3 => q v H3 (s2.trans s3))
  | false => exact iteF (hb rfl H2 (s.trans s2) Q fun v H3 s3 => q v H3 (s2.trans s3))
/-! statements -/
variable {D : Ends} {t1 t2 : TS}
theorem sq (h : t1 { D with nx := t2 D } σ H) : tSeq t1 t2 D σ H := h
theorem s_set (h : Ge te σ H P) (k : ∀ v H1, Same H H1 → P v H1 → D.nx (σ.set i (some v)) H1) : tAsg te (gName i) D σ H := h H (Same.refl _) _ k
theorem s_ret (h : Ge te σ H P) (k : ∀ v H1, Same H H1 → P v H1 → D.rt v H1) : tRet te D σ H := h H (Same.refl _) _ k
theorem s_if (h : GeT t σ H b) (k1 : b = true → ∀ H1, Same H H1 → t1 D σ H1) (k2 : b = false → ∀ H1, Same H H1 → t2 D σ H1) : tIfS t t1 t2 D σ H := h H (Same.refl _) _ fun H1 s => by
  cases b with
  | true => exact iteT (k1 rfl H1 s)
  | false => exact iteF (k2 rfl H1 s)
theorem s_next (h : D.nx σ H) : tNext D σ H := h
theorem s_yes (h : GeT t σ H true) (k : ∀ H1, Same H H1 → t1 D σ H1) : tIfS t t1 t2 D σ H := s_if h (fun _ => k) fun z => nomatch z
theorem s_no (h : GeT t σ H false) (k : ∀ H1, Same H H1 → t2 D σ H1) : tIfS t t1 t2 D σ H := s_if h (fun z => nomatch z) fun _ => k
end
end Bp

namespace Bp
open PySem.Spec PySem PyProof.Rows
open L2 hiding St Takes XE CX takes_of PMk MkP ps_raise mk_of ps_try_as ps_try_many pmk_own passAt passes_call takes0 passL
open L2N hiding St
section
variable {prog : Program} {w : World} {A : Around} {E : Value → Shared → Prop} {s : Shared} {K : PySem.W.Frag} {x C f : Addr} {ox : Obj} {od : Option Obj} {Q : Value → Shared → Prop}
/-- abs(x) by the own def -/
theorem abs_own (X : K.In s.heap) (I : PySem.W.InstAt s.heap x ox C od) (hs : PySem.W.findIn K (.ref C) "__abs__" = some (some (.ref f))) (hf : PySem.W.isFn K (.ref f) = true) (h : wpAny (model prog w) A.in1 (call (.ref f) [.ref x]) Q E s) :
    wpAny (model prog w) A (call (.builtin "abs") [.ref x]) Q E s := by
  refine Calls.call_function_entry kind_abs plain_abs entry_abs (args_abs _) ?_
  unfold Builtin.«abs»
  refine wpAny_bind (m := oneArg "abs" _) (wpAny_pure (wpAny_bind (m := callSpecial? (.ref x) (Str.ofString "__abs__")) (PySem.W.special_fn X I hs (beq_iff_eq.mp hf) (wpAny_mono h (fun r s' hr => ?_) fun _ _ y => y))))
  exact wpAny_pure ⟨r, rfl, hr⟩
/-- bool(x) by the own def -/
theorem bool_own (X : K.In s.heap) (I : PySem.W.InstAt s.heap x ox C od) (hs : PySem.W.findIn K (.ref C) "__bool__" = some (some (.ref f))) (hf : PySem.W.isFn K (.ref f) = true)
    (h : wpAny (model prog w) A.in1.in1 (call (.ref f) [.ref x]) (fun r s₁ => ∃ b, r = Value.bool b ∧ Q r s₁) E s) : wpAny (model prog w) A (call (.type "bool") [.ref x]) Q E s := by
  refine callType_codes (T := "bool") (Bi := Builtin.«object.__init__») (Q₁ := fun r s₁ => ∃ b, r = Value.bool b ∧ Q r s₁) PySem.F.called_bool (PySem.F.typeCall_bool_1 _) PySem.F.entry_object_init ?_ ?_
  · refine codeAny_of_tree ?_
    show wpAny _ A.in1.in1 (checkBuiltinCall "bool.__new__" ⟨[.type "bool", .ref x], []⟩ >>= fun _ => again (.builtin "bool.__new__" ⟨[.type "bool", .ref x], []⟩)) _ _ s
    refine wpAny_bind (wpAny_of_eq (PySem.F.newCall_bool_1 _) (wpAny_pure ⟨plainId_quiet (by decide +kernel) _, codeAny_builtin PySem.F.entry_bool_new ?_⟩))
    rw [Around.under_plainId (by decide +kernel) _]
    have tr : wpAny (model prog w) A.in1.in1 (truthy (.ref x)) (fun b s₁ => Q (.bool b) s₁) E s := by
      unfold truthy
      refine wpAny_bind (m := callSpecial? (.ref x) (Str.ofString "__bool__")) (PySem.W.special_fn X I hs (beq_iff_eq.mp hf) (wpAny_mono h (fun r s' hr => ?_) fun _ _ y => y))
      obtain ⟨b, rfl, q⟩ := hr
      exact wpAny_pure q
    have f1 := PySem.F.conv_sub_bool
    obtain ⟨hp, g, d, tk, os⟩ := s
    repeat (any_goals (first | assumption | (with_reducible refine wpAny_mono tr (fun b s₁ q => ?_) fun _ _ y => y) | wp_step))
    all_goals exact ⟨b, rfl, q⟩
  · rintro obj s₁ ⟨b, rfl, hq⟩
    refine ⟨rfl, PySem.F.args_object_init_2 _ _, ?_⟩
    exact object_init_meets PySem.F.called_bool.init.lookup PySem.F.called_bool.made (by decide) prog w A.in1 _ s₁ ⟨rfl, rfl, hq⟩
end
section
variable {X : Cx} {k : Nat} {C : Addr} {ps : List Str} {sp : Sp}
/-- a def that lets nothing out, run below a built-in -/
theorem run_below {f : Addr} {fd : FuncData} {A : Around} {pins : List (Addr × Obj)} {σ : L2.St} {H : Hp} {s : Shared} {Q : VK} {us : List Value} {vs : List V} (F : FnOk X.prog X.w X.K X.mg X.base (L2N.CX X.prog X.w) k f fd ps sp) (hr : Room k A) (e0 : Env0 X.prog X.w X.K X.mg X.base A X.stack s H)
    (hb : L2.Binds X.K fd ps []) (I : Inv X pins σ H s) (r : Vals vs us) (h : sp vs H Q E0) : wpAny (model X.prog X.w) A (call (.ref f) us) (EP X pins σ Q) X.xe s := by
  have hl : us.length = ps.length := by rw [← r.length]; exact F.len _ _ _ _ h
  have b := hb s us I.kIn (by rw [List.append_nil]; exact hl)
  rw [List.append_nil] at b
  refine wpAny_call (codeAny_mono (F.run A X.stack s H ⟨us, []⟩ us vs Q E0 hr e0 b r h) fun r s' hq => ?_)
  cases r with
  | error e => exact passL pins σ H s e s' I hq
  | ok fl =>
    cases fl with
    | ret u => exact I.after hq
    | next => exact False.elim hq
    | brk => exact False.elim hq
    | cont => exact False.elim hq
def rAbsO (C : Addr) (sp : Sp) : List V → Hp → VK → Prop := fun xs H Q => ∃ x, xs = [x] ∧ IsI C H x ∧ sp [x] H Q E0
theorem call_absO (D : MDef X.prog X.w X.K X.mg X.base k C "__abs__" ps sp) (hr : Room (k + 1) X.A) : CallR X (.builtin "abs") (rAbsO C sp) := by
  intro pins s σ H xs us Q I r h
  obtain ⟨x, rfl, ⟨a, dx, fs, rfl, ha⟩, q⟩ := h
  obtain ⟨u, rfl, ru⟩ := vals1 r
  cases (show u = Value.ref a from ru)
  obtain ⟨f, fd, hm, b, F⟩ := D.ex
  obtain ⟨_, od, J⟩ := inst_of I ha
  exact abs_own I.kIn J hm.at_ hm.fn (run_below (us := [.ref a]) (vs := [.ref a]) F hr.in1 I.env0.in1 b I (.cons rfl .nil) q)
def rBoolO (C : Addr) (sp : Sp) : List V → Hp → VK → Prop := fun xs H Q => ∃ x, xs = [x] ∧ IsI C H x ∧ sp [x] H (fun z H' => ∃ b, z = .bl b ∧ Q z H') E0
theorem call_boolO (D : MDef X.prog X.w X.K X.mg X.base k C "__bool__" ps sp) (hr : Room (k + 2) X.A) : CallR X (.type "bool") (rBoolO C sp) := by
  intro pins s σ H xs us Q I r h
  obtain ⟨x, rfl, ⟨a, dx, fs, rfl, ha⟩, q⟩ := h
  obtain ⟨u, rfl, ru⟩ := vals1 r
  cases (show u = Value.ref a from ru)
  obtain ⟨f, fd, hm, b, F⟩ := D.ex
  obtain ⟨_, od, J⟩ := inst_of I ha
  have r2 : Room (k + 1) X.A.in1 := hr.in1
  refine bool_own I.kIn J hm.at_ hm.fn (thn (run_below (us := [.ref a]) (vs := [.ref a]) F r2.in1 I.env0.in1.in1 b I (.cons rfl .nil) q) fun w s' z => ?_)
  obtain ⟨z', H', I', rz, i, ei, qz⟩ := z
  subst ei
  cases (show w = Value.bool i from rz)
  exact ⟨i, rfl, .bl i, H', I', rfl, qz⟩
end
end Bp

namespace Bp
section
open PySem.Spec PySem PyProof.Rows L2 PySem.W
variable {prog : Program} {w : World} {A : Around} {E : Value → Shared → Prop} {s : Shared} {Q : Value → Shared → Prop}
variable {K : Frag} {f f2 C C2 : Addr} {ox oy : Obj} {od od2 : Option Obj} {nm : String} {x y : Addr} {rc rc2 : Option Value}
/-- x op y, x of the class at C, y of another own class: x's def answers -/
theorem own1_other (X : K.In s.heap) (I : InstAt s.heap x ox C od) (J : InstAt s.heap y oy C2 od2) (hc : selfFirst K C = true) (hc2 : selfFirst K C2 = true)
    (hs : findIn K (.ref C) (PySem.dunder nm) = some (some (.ref f))) (hf : isFn K (.ref f) = true) (hr : findIn K (.ref C) (dunderR nm) = some rc) (hp : rc = none ∨ ∃ g : Addr, rc = some (.ref g))
    (hs2 : findIn K (.ref C2) (PySem.dunder nm) = some (some (.ref f2))) (hr2 : findIn K (.ref C2) (dunderR nm) = some rc2) (hp2 : rc2 = none ∨ ∃ g : Addr, rc2 = some (.ref g)) (hne : C ≠ C2) (hsub : subIn K (.ref C2) (.ref C) = some false)
    (h : wpAny (model prog w) A (call (.ref f) [.ref x, .ref y]) (PySem.W.CmpBack Q) E s) : wpAny (model prog w) A (binaryOp1 nm (.ref x) (.ref y)) (Got Q) E s := by
  have k1 := ksp_try X I hs hf h
  obtain ⟨ca, ra, hca, hma⟩ := ksp_first hc
  obtain ⟨cb, rb, hcb, hmb⟩ := ksp_first hc2
  obtain ⟨hh, gg, ds, tt, os⟩ := s
  have e1 : Looks (model prog w) hh (typeOf (.ref x)) (.ref C) := I.type
  have e2 : Looks (model prog w) hh (typeOf (.ref y)) (.ref C2) := J.type
  have e3 : Looks (model prog w) hh (fillsNumberSlot (.ref C) nm) true := fills_K X hca hma hs
  have e4 : Looks (model prog w) hh (fillsNumberSlot (.ref C2) nm) true := fills_K X hcb hmb hs2
  have e5 : Looks (model prog w) hh (isSubtype (.ref C2) (.ref C)) false := looks_subIn X hsub
  have e6 : Looks (model prog w) hh (numberSlotInPython (.ref C) nm) true := ksp_inPy X hs hr hp
  have e7 : Looks (model prog w) hh (numberSlotInPython (.ref C2) nm) true := ksp_inPy X hs2 hr2 hp2
  have ne : (Value.ref C == Value.ref C2) = false := Bool.eq_false_iff.mpr fun q => hne (by have z := beq_iff_eq.mp q; injection z)
  unfold binaryOp1
  refine wpAny_bind (e1.at (wpAny_bind (e2.at (wpAny_bind (e3.at ?_)))))
  simp only [ne, Bool.false_eq_true, if_false]
  ksp_lk
  refine wpAny_mono k1 (fun r s' q => ?_) fun _ _ e => e
  obtain ⟨v, rfl, q⟩ := q
  ksp_lk
  exact ⟨v, rfl, q⟩
/-- x op y, x's own def declines, the reflected def of y's class answers -/
theorem own1_decl {g2 : Addr} {G : Shared → Prop} (X : K.In s.heap) (I : InstAt s.heap x ox C od) (J : InstAt s.heap y oy C2 od2) (hc : selfFirst K C = true) (hc2 : selfFirst K C2 = true)
    (hs : findIn K (.ref C) (PySem.dunder nm) = some (some (.ref f))) (hr : findIn K (.ref C) (dunderR nm) = some rc) (hp : rc = none ∨ ∃ g : Addr, rc = some (.ref g))
    (hs2 : findIn K (.ref C2) (PySem.dunder nm) = some (some (.ref f2))) (hr2 : findIn K (.ref C2) (dunderR nm) = some (some (.ref g2))) (hg2 : isFn K (.ref g2) = true) (hne : C ≠ C2) (hsub : subIn K (.ref C2) (.ref C) = some false)
    (k1 : wpAny (model prog w) A (tryMethod (.ref x) (PySem.dunder nm) (.ref y)) (fun r s2 => r = none ∧ G s2) E s)
    (hG : ∀ s2, G s2 → K.In s2.heap ∧ (∃ ox2 od3, InstAt s2.heap x ox2 C od3) ∧ ∃ oy2 od4, InstAt s2.heap y oy2 C2 od4)
    (h : ∀ s2, G s2 → wpAny (model prog w) A (call (.ref g2) [.ref y, .ref x]) (PySem.W.CmpBack Q) E s2) : wpAny (model prog w) A (binaryOp1 nm (.ref x) (.ref y)) (Got Q) E s := by
  obtain ⟨ca, ra, hca, hma⟩ := ksp_first hc
  obtain ⟨cb, rb, hcb, hmb⟩ := ksp_first hc2
  obtain ⟨hh, gg, ds, tt, os⟩ := s
  have e1 : Looks (model prog w) hh (typeOf (.ref x)) (.ref C) := I.type
  have e2 : Looks (model prog w) hh (typeOf (.ref y)) (.ref C2) := J.type
  have e3 : Looks (model prog w) hh (fillsNumberSlot (.ref C) nm) true := fills_K X hca hma hs
  have e4 : Looks (model prog w) hh (fillsNumberSlot (.ref C2) nm) true := fills_K X hcb hmb hs2
  have e5 : Looks (model prog w) hh (isSubtype (.ref C2) (.ref C)) false := looks_subIn X hsub
  have e6 : Looks (model prog w) hh (numberSlotInPython (.ref C) nm) true := ksp_inPy X hs hr hp
  have e7 : Looks (model prog w) hh (numberSlotInPython (.ref C2) nm) true := ksp_inPy X hs2 hr2 (.inr ⟨g2, rfl⟩)
  have ne : (Value.ref C == Value.ref C2) = false := Bool.eq_false_iff.mpr fun q => hne (by have z := beq_iff_eq.mp q; injection z)
  unfold binaryOp1
  refine wpAny_bind (e1.at (wpAny_bind (e2.at (wpAny_bind (e3.at ?_)))))
  simp only [ne, Bool.false_eq_true, if_false]
  ksp_lk
  refine wpAny_mono k1 (fun r s2 q => ?_) fun _ _ e => e
  obtain ⟨rfl, q⟩ := q
  obtain ⟨X2, ⟨ox2, od3, I2⟩, oy2, od4, J2⟩ := hG _ q
  have k2 := ksp_try X2 J2 hr2 hg2 (h _ q)
  obtain ⟨hh2, gg2, ds2, tt2, os2⟩ := s2
  have d1 : Looks (model prog w) hh2 (typeOf (.ref x)) (.ref C) := I2.type
  have d2 : Looks (model prog w) hh2 (typeOf (.ref y)) (.ref C2) := J2.type
  ksp_lk
  simp only [ne, Bool.false_eq_true, if_false]
  ksp_lk
  refine wpAny_mono k2 (fun r s' q => ?_) fun _ _ e => e
  obtain ⟨v, rfl, q⟩ := q
  ksp_lk
  exact ⟨v, rfl, q⟩
end
section
open PySem.Spec PySem PyProof.Rows
open L2 hiding St Takes XE CX takes_of PMk MkP ps_raise mk_of ps_try_as ps_try_many pmk_own passAt passes_call takes0 passL
open L2N hiding St
variable {X : Cx} {CX : CXT} {k : Nat} {C C2 f f2 : Addr} {fd : FuncData} {ps : List Str} {sp : Sp} {E : L2.St → XK}
/-- what the text says of the two classes -/
structure BinO (K : PySem.W.Frag) (C C2 f : Addr) (nm : String) : Prop where
  hc : PySem.W.selfFirst K C = true
  hc2 : PySem.W.selfFirst K C2 = true
  hs : PySem.W.findIn K (.ref C) (PySem.dunder nm) = some (some (.ref f))
  hf : PySem.W.isFn K (.ref f) = true
  hr : ∃ rc, PySem.W.findIn K (.ref C) (dunderR nm) = some rc ∧ (rc = none ∨ ∃ g : Addr, rc = some (.ref g))
  hs2 : ∃ f2 : Addr, PySem.W.findIn K (.ref C2) (PySem.dunder nm) = some (some (.ref f2))
  hr2 : ∃ rc, PySem.W.findIn K (.ref C2) (dunderR nm) = some rc ∧ (rc = none ∨ ∃ g : Addr, rc = some (.ref g))
  ne : C ≠ C2
  sub : PySem.W.subIn K (.ref C2) (.ref C) = some false
def rOth (C C2 : Addr) (sp : Sp) (E : L2.St → XK) : R2S := fun σ x y H Q => IsI C H x ∧ IsI C2 H y ∧ sp [x, y] H Q (E σ)
theorem op_oth {op : Operator} (B : BinO X.K C C2 f op.info.2) (F : FnOk X.prog X.w X.K X.mg X.base CX k f fd ps sp) (hr : Room k X.A) (hb : L2.Binds X.K fd ps []) (hx : ∀ σ, PassesAt CX X σ (E σ)) : OpS X (binaryOp op) (rOth C C2 sp E) := by
  intro pins s σ H x y v u Q I rx ry h
  obtain ⟨⟨a, dx, fs, rfl, ha⟩, ⟨b, dy, gs, rfl, hb'⟩, q⟩ := h
  cases (show v = Value.ref a from rx)
  cases (show u = Value.ref b from ry)
  obtain ⟨_, od, J⟩ := inst_of I ha
  obtain ⟨_, od', J'⟩ := inst_of I hb'
  obtain ⟨rc, r1, r2⟩ := B.hr
  obtain ⟨g, s1⟩ := B.hs2
  obtain ⟨rc', r3, r4⟩ := B.hr2
  exact bin_of1 (own1_other I.kIn J J' B.hc B.hc2 B.hs B.hf r1 r2 s1 r3 r4 B.ne B.sub (callBack (us := [.ref a, .ref b]) (vs := [.ref a, .ref b]) F hr hb hx I (.cons rfl (.cons rfl .nil)) q))
/-- x op y: x's def hands back NotImplemented, the reflected def of y's class answers -/
def rORf (C C2 : Addr) (pre : List V → Hp → Prop) (sp : Sp) (E : L2.St → XK) : R2S := fun σ x y H Q => IsI C H x ∧ IsI C2 H y ∧ pre [x, y] H ∧ ∀ H', Same H H' → sp [y, x] H' Q (E σ)
theorem op_oref {op : Operator} {g2 : Addr} {gd : FuncData} {k2 : Nat} {ps2 : List Str} {pre : List V → Hp → Prop} (B : BinO X.K C C2 f op.info.2) (N : FnNI X.prog X.w X.K X.mg X.base k f fd ps pre) (hr : Room k X.A) (hb : L2.Binds X.K fd ps [])
    (hg : PySem.W.findIn X.K (.ref C2) (dunderR op.info.2) = some (some (.ref g2))) (fg : PySem.W.isFn X.K (.ref g2) = true) (F : FnOk X.prog X.w X.K X.mg X.base CX k2 g2 gd ps2 sp) (hr2 : Room k2 X.A) (hb2 : L2.Binds X.K gd ps2 []) (hx : ∀ σ, PassesAt CX X σ (E σ)) :
    OpS X (binaryOp op) (rORf C C2 pre sp E) := by
  intro pins s σ H x y v u Q I rx ry h
  obtain ⟨⟨a, dx, fs, rfl, ha⟩, ⟨b, dy, gs, rfl, hb'⟩, hp, q⟩ := h
  cases (show v = Value.ref a from rx)
  cases (show u = Value.ref b from ry)
  obtain ⟨_, od, J⟩ := inst_of I ha
  obtain ⟨_, od', J'⟩ := inst_of I hb'
  obtain ⟨rc, r1, r2⟩ := B.hr
  obtain ⟨g, s1⟩ := B.hs2
  have hl : ([Value.ref a, .ref b] ++ []).length = ps.length := N.len _ _ hp
  have k1 : wpAny (model X.prog X.w) X.A (tryMethod (.ref a) (PySem.dunder op.info.2) (.ref b)) (fun r s2 => r = none ∧ ∃ H', Inv X pins σ H' s2 ∧ Same H H') X.xe s := by
    unfold tryMethod
    refine wpAny_bind (PySem.W.special_fn I.kIn J B.hs (beq_iff_eq.mp B.hf) (wpAny_call (codeAny_mono (N.run X.A X.stack s H ⟨[.ref a, .ref b], []⟩ [.ref a, .ref b] [.ref a, .ref b] hr I.env0 (hb s [.ref a, .ref b] I.kIn hl) (.cons rfl (.cons rfl .nil)) hp) fun r s2 hq => ?_)))
    cases r with
    | error e => exact hq.elim
    | ok fl =>
      cases fl with
      | ret u2 =>
        obtain ⟨rfl, H', os, ag, un, hok, same⟩ := hq
        exact wpAny_pure ⟨rfl, H', I.call' os un hok ag fun c z => absurd z (by simp), same⟩
      | next => exact hq.elim
      | brk => exact hq.elim
      | cont => exact hq.elim
  refine bin_of1 (own1_decl (G := fun s2 => ∃ H', Inv X pins σ H' s2 ∧ Same H H') I.kIn J J' B.hc B.hc2 B.hs r1 r2 s1 hg fg B.ne B.sub k1 (fun s2 ⟨H', I2, s2'⟩ => ?_) fun s2 ⟨H', I2, s2'⟩ => ?_)
  · obtain ⟨o1, od1, J1⟩ := inst_of I2 (s2' _ _ ha)
    obtain ⟨o2, od2, J2⟩ := inst_of I2 (s2' _ _ hb')
    exact ⟨I2.kIn, ⟨_, _, J1⟩, _, _, J2⟩
  · exact callBack (us := [.ref b, .ref a]) (vs := [.ref b, .ref a]) F hr2 hb2 hx I2 (.cons rfl (.cons rfl .nil)) (q H' s2')
/-- if e: e an own instance, by its __bool__ -/
def tOwnB (C : Addr) (sp : Sp) (te : TE) : TT := fun σ H Q => te σ H fun x H1 => IsI C H1 x ∧ sp [x] H1 (fun z H2 => ∃ b, z = .bl b ∧ Q b H2) E0
theorem pt_own {e : Expr} {te : TE} (h : PE X e te) (D : MDef X.prog X.w X.K X.mg X.base k C "__bool__" ps sp) (hr : Room k X.A)
    (he : ∀ whole, isTrue e X.env whole = (do let v ← whole; standAt e.pos; holding [v] (truthy v)) := by intro _; rfl) : PT X e (tOwnB C sp te) := by
  refine ⟨fun pins s σ H Q I hw => ?_⟩
  refine isTrue_plain (thn (h.run pins s σ H _ I hw) fun v s1 ⟨x, H1, I1, r1, q1⟩ => ?_) (he _)
  obtain ⟨⟨a, dx, fs, rfl, ha⟩, q⟩ := q1
  cases (show v = Value.ref a from r1)
  obtain ⟨f, fd, hm, b, F⟩ := D.ex
  obtain ⟨_, od, J⟩ := inst_of I1 ha
  unfold truthy
  refine wpAny_bind (m := callSpecial? (.ref a) (Str.ofString "__bool__")) (PySem.W.special_fn I1.kIn J hm.at_ (beq_iff_eq.mp hm.fn) (wpAny_mono (run_below (us := [.ref a]) (vs := [.ref a]) F hr I1.env0 b I1 (.cons rfl .nil) q) (fun r s' z => ?_) fun _ _ y => y))
  obtain ⟨z', H', I', rz, i, ei, qz⟩ := z
  subst ei
  cases (show r = Value.bool i from rz)
  exact wpAny_pure ⟨H', I', qz⟩
end
end Bp

namespace Bp
open PySem PySem.SeqAt
open PySem.MeetsSeq3 PySem.MeetsSeq2 PySem.MeetsSeq
open AutoSeq1 (wpAny_loadPart')
/-! ### order and == of tuples whose items answer by their own defs (G: what every such answer keeps) -/
section
variable {prog : Program} {w : World} {A : Around} {R : Result → Shared → Prop}

theorem tup_ltB (l b : Addr) (items items2 : Array Value) (n n2 : Nat) (dd dd2 : Option Addr) (sl sl2 : Array (Option Value)) (e r : Nat → Bool) (G : Shared → Prop)
    (eqs : ∀ (i : Nat) (h1 : i < items.size) (h2 : i < items2.size) (s' : Shared), G s' → wpAny (model prog w) A.in1 (eqBool items[i] items2[i]) (fun v s2 => v = e i ∧ G s2) (fun x s2 => R (.error x) s2) s')
    (rel : ∀ (i : Nat) (h1 : i < items.size) (h2 : i < items2.size) (s' : Shared), e i = false → G s' → wpAny (model prog w) A.in1 (richCompare .Lt items[i] items2[i]) (fun v s2 => v = .bool (r i) ∧ G s2) (fun x s2 => R (.error x) s2) s')
    (fin : ∀ s', G s' → R (.ok (.ret (.bool (Ob.lexAt e (r) (decide (items.size < items2.size)) 0 (min items.size items2.size))))) s') {s : Shared}
    (at1 : s.heap.get? l = some { cls := .type "tuple", dict := dd, data := .seq items n, slots := sl }) (at2 : s.heap.get? b = some { cls := .type "tuple", dict := dd2, data := .seq items2 n2, slots := sl2 }) (h : G s) :
    wpAny (model prog w) A.in1 (Builtin.«tuple.__lt__» ⟨[.ref l, .ref b], []⟩) (GQ.FinOf prog w A R) (fun x s2 => R (.error x) s2) s := by
  have subT := AutoSeq1.sub_tuple_tuple
  have zl : min items.size items2.size = (items.toList.zip items2.toList).length := by simp
  have h0 := h
  obtain ⟨hs, gs, ds, ts, os⟩ := s
  wp_walk using wpAny_loadPart' at1, wpAny_loadPart' at2, wpAny_forIn_list _ (fun rest c s' => c.1 = none ∧ G s' ∧ ∃ i, rest = (items.toList.zip items2.toList).drop i ∧
    ∀ s2, G s2 → R (.ok (.ret (.bool (Ob.lexAt e (r) (decide (items.size < items2.size)) i (min items.size items2.size - i))))) s2) _
  case turn =>
    rintro ⟨y, x⟩ rest c s' ⟨hc, hG, i, hz, hR⟩
    have il : i < (items.toList.zip items2.toList).length := by
      rcases Nat.lt_or_ge i (items.toList.zip items2.toList).length with q | q
      · exact q
      · rw [List.drop_of_length_le q] at hz
        cases hz
    have im : i < min items.size items2.size := zl.symm ▸ il
    have h1 : i < items.size := Nat.lt_of_lt_of_le im (Nat.min_le_left _ _)
    have h2 : i < items2.size := Nat.lt_of_lt_of_le im (Nat.min_le_right _ _)
    rw [List.drop_eq_getElem_cons il] at hz
    injection hz with hyx hrest
    have hy : y = items[i] := by simpa using congrArg Prod.fst hyx
    have hx : x = items2[i] := by simpa using congrArg Prod.snd hyx
    subst hy hx
    rw [show min items.size items2.size - i = (min items.size items2.size - (i + 1)) + 1 by omega] at hR
    simp only [Ob.lexAt_succ] at hR
    refine wpAny_bind (wpAny_mono (eqs i h1 h2 s' hG) (fun v s2 q => ?_) fun _ _ x => x)
    obtain ⟨hv, q2⟩ := q
    subst hv
    cases hei : e i with
    | true =>
      simp only [hei, if_true] at hR
      wp_walk
      exact ⟨rfl, q2, i + 1, hrest, hR⟩
    | false =>
      simp only [hei, Bool.false_eq_true, if_false] at hR
      have hri : ∀ Q' : Value → Shared → Prop, (∀ v s3, v = .bool (r i) ∧ G s3 → Q' v s3) → wpAny (model prog w) A.in1 (richCompare .Lt items[i] items2[i]) Q' (fun x s2 => R (.error x) s2) s2 := fun Q' k => wpAny_mono (rel i h1 h2 s2 hei q2) k fun _ _ x => x
      wp_walk using hri
      rintro v s3 ⟨rfl, q3⟩
      wp_walk
      simpa using hR s3 q3
  case fin =>
    rintro ⟨b1, b2⟩ s' ⟨hc, hG, i, hz, hR⟩
    simp only at hc
    subst hc
    have ig : min items.size items2.size ≤ i := by
      rcases Nat.lt_or_ge i (items.toList.zip items2.toList).length with q | q
      · rw [List.drop_eq_getElem_cons q] at hz
        cases hz
      · exact zl.symm ▸ q
    rw [Nat.sub_eq_zero_of_le ig] at hR
    simp only [Ob.lexAt_zero] at hR
    have hR' := hR s' hG
    wp_walk
    simpa [Builtin.Tuple.tupleCompareSizes] using hR'
  case h =>
    exact ⟨rfl, h0, 0, rfl, by simpa using fin⟩

theorem tup_leB (l b : Addr) (items items2 : Array Value) (n n2 : Nat) (dd dd2 : Option Addr) (sl sl2 : Array (Option Value)) (e r : Nat → Bool) (G : Shared → Prop)
    (eqs : ∀ (i : Nat) (h1 : i < items.size) (h2 : i < items2.size) (s' : Shared), G s' → wpAny (model prog w) A.in1 (eqBool items[i] items2[i]) (fun v s2 => v = e i ∧ G s2) (fun x s2 => R (.error x) s2) s')
    (rel : ∀ (i : Nat) (h1 : i < items.size) (h2 : i < items2.size) (s' : Shared), e i = false → G s' → wpAny (model prog w) A.in1 (richCompare .LtE items[i] items2[i]) (fun v s2 => v = .bool (r i) ∧ G s2) (fun x s2 => R (.error x) s2) s')
    (fin : ∀ s', G s' → R (.ok (.ret (.bool (Ob.lexAt e (r) (decide (items.size ≤ items2.size)) 0 (min items.size items2.size))))) s') {s : Shared}
    (at1 : s.heap.get? l = some { cls := .type "tuple", dict := dd, data := .seq items n, slots := sl }) (at2 : s.heap.get? b = some { cls := .type "tuple", dict := dd2, data := .seq items2 n2, slots := sl2 }) (h : G s) :
    wpAny (model prog w) A.in1 (Builtin.«tuple.__le__» ⟨[.ref l, .ref b], []⟩) (GQ.FinOf prog w A R) (fun x s2 => R (.error x) s2) s := by
  have subT := AutoSeq1.sub_tuple_tuple
  have zl : min items.size items2.size = (items.toList.zip items2.toList).length := by simp
  have h0 := h
  obtain ⟨hs, gs, ds, ts, os⟩ := s
  wp_walk using wpAny_loadPart' at1, wpAny_loadPart' at2, wpAny_forIn_list _ (fun rest c s' => c.1 = none ∧ G s' ∧ ∃ i, rest = (items.toList.zip items2.toList).drop i ∧
    ∀ s2, G s2 → R (.ok (.ret (.bool (Ob.lexAt e (r) (decide (items.size ≤ items2.size)) i (min items.size items2.size - i))))) s2) _
  case turn =>
    rintro ⟨y, x⟩ rest c s' ⟨hc, hG, i, hz, hR⟩
    have il : i < (items.toList.zip items2.toList).length := by
      rcases Nat.lt_or_ge i (items.toList.zip items2.toList).length with q | q
      · exact q
      · rw [List.drop_of_length_le q] at hz
        cases hz
    have im : i < min items.size items2.size := zl.symm ▸ il
    have h1 : i < items.size := Nat.lt_of_lt_of_le im (Nat.min_le_left _ _)
    have h2 : i < items2.size := Nat.lt_of_lt_of_le im (Nat.min_le_right _ _)
    rw [List.drop_eq_getElem_cons il] at hz
    injection hz with hyx hrest
    have hy : y = items[i] := by simpa using congrArg Prod.fst hyx
    have hx : x = items2[i] := by simpa using congrArg Prod.snd hyx
    subst hy hx
    rw [show min items.size items2.size - i = (min items.size items2.size - (i + 1)) + 1 by omega] at hR
    simp only [Ob.lexAt_succ] at hR
    refine wpAny_bind (wpAny_mono (eqs i h1 h2 s' hG) (fun v s2 q => ?_) fun _ _ x => x)
    obtain ⟨hv, q2⟩ := q
    subst hv
    cases hei : e i with
    | true =>
      simp only [hei, if_true] at hR
      wp_walk
      exact ⟨rfl, q2, i + 1, hrest, hR⟩
    | false =>
      simp only [hei, Bool.false_eq_true, if_false] at hR
      have hri : ∀ Q' : Value → Shared → Prop, (∀ v s3, v = .bool (r i) ∧ G s3 → Q' v s3) → wpAny (model prog w) A.in1 (richCompare .LtE items[i] items2[i]) Q' (fun x s2 => R (.error x) s2) s2 := fun Q' k => wpAny_mono (rel i h1 h2 s2 hei q2) k fun _ _ x => x
      wp_walk using hri
      rintro v s3 ⟨rfl, q3⟩
      wp_walk
      simpa using hR s3 q3
  case fin =>
    rintro ⟨b1, b2⟩ s' ⟨hc, hG, i, hz, hR⟩
    simp only at hc
    subst hc
    have ig : min items.size items2.size ≤ i := by
      rcases Nat.lt_or_ge i (items.toList.zip items2.toList).length with q | q
      · rw [List.drop_eq_getElem_cons q] at hz
        cases hz
      · exact zl.symm ▸ q
    rw [Nat.sub_eq_zero_of_le ig] at hR
    simp only [Ob.lexAt_zero] at hR
    have hR' := hR s' hG
    wp_walk
    simpa [Builtin.Tuple.tupleCompareSizes] using hR'
  case h =>
    exact ⟨rfl, h0, 0, rfl, by simpa using fin⟩

theorem tup_gtB (l b : Addr) (items items2 : Array Value) (n n2 : Nat) (dd dd2 : Option Addr) (sl sl2 : Array (Option Value)) (e r : Nat → Bool) (G : Shared → Prop)
    (eqs : ∀ (i : Nat) (h1 : i < items.size) (h2 : i < items2.size) (s' : Shared), G s' → wpAny (model prog w) A.in1 (eqBool items[i] items2[i]) (fun v s2 => v = e i ∧ G s2) (fun x s2 => R (.error x) s2) s')
    (rel : ∀ (i : Nat) (h1 : i < items.size) (h2 : i < items2.size) (s' : Shared), e i = false → G s' → wpAny (model prog w) A.in1 (richCompare .Gt items[i] items2[i]) (fun v s2 => v = .bool (r i) ∧ G s2) (fun x s2 => R (.error x) s2) s')
    (fin : ∀ s', G s' → R (.ok (.ret (.bool (Ob.lexAt e (r) (decide (items.size > items2.size)) 0 (min items.size items2.size))))) s') {s : Shared}
    (at1 : s.heap.get? l = some { cls := .type "tuple", dict := dd, data := .seq items n, slots := sl }) (at2 : s.heap.get? b = some { cls := .type "tuple", dict := dd2, data := .seq items2 n2, slots := sl2 }) (h : G s) :
    wpAny (model prog w) A.in1 (Builtin.«tuple.__gt__» ⟨[.ref l, .ref b], []⟩) (GQ.FinOf prog w A R) (fun x s2 => R (.error x) s2) s := by
  have subT := AutoSeq1.sub_tuple_tuple
  have zl : min items.size items2.size = (items.toList.zip items2.toList).length := by simp
  have h0 := h
  obtain ⟨hs, gs, ds, ts, os⟩ := s
  wp_walk using wpAny_loadPart' at1, wpAny_loadPart' at2, wpAny_forIn_list _ (fun rest c s' => c.1 = none ∧ G s' ∧ ∃ i, rest = (items.toList.zip items2.toList).drop i ∧
    ∀ s2, G s2 → R (.ok (.ret (.bool (Ob.lexAt e (r) (decide (items.size > items2.size)) i (min items.size items2.size - i))))) s2) _
  case turn =>
    rintro ⟨y, x⟩ rest c s' ⟨hc, hG, i, hz, hR⟩
    have il : i < (items.toList.zip items2.toList).length := by
      rcases Nat.lt_or_ge i (items.toList.zip items2.toList).length with q | q
      · exact q
      · rw [List.drop_of_length_le q] at hz
        cases hz
    have im : i < min items.size items2.size := zl.symm ▸ il
    have h1 : i < items.size := Nat.lt_of_lt_of_le im (Nat.min_le_left _ _)
    have h2 : i < items2.size := Nat.lt_of_lt_of_le im (Nat.min_le_right _ _)
    rw [List.drop_eq_getElem_cons il] at hz
    injection hz with hyx hrest
    have hy : y = items[i] := by simpa using congrArg Prod.fst hyx
    have hx : x = items2[i] := by simpa using congrArg Prod.snd hyx
    subst hy hx
    rw [show min items.size items2.size - i = (min items.size items2.size - (i + 1)) + 1 by omega] at hR
    simp only [Ob.lexAt_succ] at hR
    refine wpAny_bind (wpAny_mono (eqs i h1 h2 s' hG) (fun v s2 q => ?_) fun _ _ x => x)
    obtain ⟨hv, q2⟩ := q
    subst hv
    cases hei : e i with
    | true =>
      simp only [hei, if_true] at hR
      wp_walk
      exact ⟨rfl, q2, i + 1, hrest, hR⟩
    | false =>
      simp only [hei, Bool.false_eq_true, if_false] at hR
      have hri : ∀ Q' : Value → Shared → Prop, (∀ v s3, v = .bool (r i) ∧ G s3 → Q' v s3) → wpAny (model prog w) A.in1 (richCompare .Gt items[i] items2[i]) Q' (fun x s2 => R (.error x) s2) s2 := fun Q' k => wpAny_mono (rel i h1 h2 s2 hei q2) k fun _ _ x => x
      wp_walk using hri
      rintro v s3 ⟨rfl, q3⟩
      wp_walk
      simpa using hR s3 q3
  case fin =>
    rintro ⟨b1, b2⟩ s' ⟨hc, hG, i, hz, hR⟩
    simp only at hc
    subst hc
    have ig : min items.size items2.size ≤ i := by
      rcases Nat.lt_or_ge i (items.toList.zip items2.toList).length with q | q
      · rw [List.drop_eq_getElem_cons q] at hz
        cases hz
      · exact zl.symm ▸ q
    rw [Nat.sub_eq_zero_of_le ig] at hR
    simp only [Ob.lexAt_zero] at hR
    have hR' := hR s' hG
    wp_walk
    simpa [Builtin.Tuple.tupleCompareSizes] using hR'
  case h =>
    exact ⟨rfl, h0, 0, rfl, by simpa using fin⟩

theorem tup_geB (l b : Addr) (items items2 : Array Value) (n n2 : Nat) (dd dd2 : Option Addr) (sl sl2 : Array (Option Value)) (e r : Nat → Bool) (G : Shared → Prop)
    (eqs : ∀ (i : Nat) (h1 : i < items.size) (h2 : i < items2.size) (s' : Shared), G s' → wpAny (model prog w) A.in1 (eqBool items[i] items2[i]) (fun v s2 => v = e i ∧ G s2) (fun x s2 => R (.error x) s2) s')
    (rel : ∀ (i : Nat) (h1 : i < items.size) (h2 : i < items2.size) (s' : Shared), e i = false → G s' → wpAny (model prog w) A.in1 (richCompare .GtE items[i] items2[i]) (fun v s2 => v = .bool (r i) ∧ G s2) (fun x s2 => R (.error x) s2) s')
    (fin : ∀ s', G s' → R (.ok (.ret (.bool (Ob.lexAt e (r) (decide (items.size ≥ items2.size)) 0 (min items.size items2.size))))) s') {s : Shared}
    (at1 : s.heap.get? l = some { cls := .type "tuple", dict := dd, data := .seq items n, slots := sl }) (at2 : s.heap.get? b = some { cls := .type "tuple", dict := dd2, data := .seq items2 n2, slots := sl2 }) (h : G s) :
    wpAny (model prog w) A.in1 (Builtin.«tuple.__ge__» ⟨[.ref l, .ref b], []⟩) (GQ.FinOf prog w A R) (fun x s2 => R (.error x) s2) s := by
  have subT := AutoSeq1.sub_tuple_tuple
  have zl : min items.size items2.size = (items.toList.zip items2.toList).length := by simp
  have h0 := h
  obtain ⟨hs, gs, ds, ts, os⟩ := s
  wp_walk using wpAny_loadPart' at1, wpAny_loadPart' at2, wpAny_forIn_list _ (fun rest c s' => c.1 = none ∧ G s' ∧ ∃ i, rest = (items.toList.zip items2.toList).drop i ∧
    ∀ s2, G s2 → R (.ok (.ret (.bool (Ob.lexAt e (r) (decide (items.size ≥ items2.size)) i (min items.size items2.size - i))))) s2) _
  case turn =>
    rintro ⟨y, x⟩ rest c s' ⟨hc, hG, i, hz, hR⟩
    have il : i < (items.toList.zip items2.toList).length := by
      rcases Nat.lt_or_ge i (items.toList.zip items2.toList).length with q | q
      · exact q
      · rw [List.drop_of_length_le q] at hz
        cases hz
    have im : i < min items.size items2.size := zl.symm ▸ il
    have h1 : i < items.size := Nat.lt_of_lt_of_le im (Nat.min_le_left _ _)
    have h2 : i < items2.size := Nat.lt_of_lt_of_le im (Nat.min_le_right _ _)
    rw [List.drop_eq_getElem_cons il] at hz
    injection hz with hyx hrest
    have hy : y = items[i] := by simpa using congrArg Prod.fst hyx
    have hx : x = items2[i] := by simpa using congrArg Prod.snd hyx
    subst hy hx
    rw [show min items.size items2.size - i = (min items.size items2.size - (i + 1)) + 1 by omega] at hR
    simp only [Ob.lexAt_succ] at hR
    refine wpAny_bind (wpAny_mono (eqs i h1 h2 s' hG) (fun v s2 q => ?_) fun _ _ x => x)
    obtain ⟨hv, q2⟩ := q
    subst hv
    cases hei : e i with
    | true =>
      simp only [hei, if_true] at hR
      wp_walk
      exact ⟨rfl, q2, i + 1, hrest, hR⟩
    | false =>
      simp only [hei, Bool.false_eq_true, if_false] at hR
      have hri : ∀ Q' : Value → Shared → Prop, (∀ v s3, v = .bool (r i) ∧ G s3 → Q' v s3) → wpAny (model prog w) A.in1 (richCompare .GtE items[i] items2[i]) Q' (fun x s2 => R (.error x) s2) s2 := fun Q' k => wpAny_mono (rel i h1 h2 s2 hei q2) k fun _ _ x => x
      wp_walk using hri
      rintro v s3 ⟨rfl, q3⟩
      wp_walk
      simpa using hR s3 q3
  case fin =>
    rintro ⟨b1, b2⟩ s' ⟨hc, hG, i, hz, hR⟩
    simp only at hc
    subst hc
    have ig : min items.size items2.size ≤ i := by
      rcases Nat.lt_or_ge i (items.toList.zip items2.toList).length with q | q
      · rw [List.drop_eq_getElem_cons q] at hz
        cases hz
      · exact zl.symm ▸ q
    rw [Nat.sub_eq_zero_of_le ig] at hR
    simp only [Ob.lexAt_zero] at hR
    have hR' := hR s' hG
    wp_walk
    simpa [Builtin.Tuple.tupleCompareSizes] using hR'
  case h =>
    exact ⟨rfl, h0, 0, rfl, by simpa using fin⟩

theorem tup_eqB (l b : Addr) (items items2 : Array Value) (n n2 : Nat) (dd dd2 : Option Addr) (sl sl2 : Array (Option Value)) (e : Nat → Bool) (G : Shared → Prop)
    (eqs : ∀ (i : Nat) (h1 : i < items.size) (h2 : i < items2.size) (s' : Shared), G s' → wpAny (model prog w) A.in1 (eqBool items[i] items2[i]) (fun v s2 => v = e i ∧ G s2) (fun x s2 => R (.error x) s2) s')
    (fin : ∀ s', G s' → R (.ok (.ret (.bool (Ob.lexAt e (fun _ => false) (items.size == items2.size) 0 (min items.size items2.size))))) s') {s : Shared}
    (at1 : s.heap.get? l = some { cls := .type "tuple", dict := dd, data := .seq items n, slots := sl }) (at2 : s.heap.get? b = some { cls := .type "tuple", dict := dd2, data := .seq items2 n2, slots := sl2 }) (h : G s) :
    wpAny (model prog w) A.in1 (Builtin.«tuple.__eq__» ⟨[.ref l, .ref b], []⟩) (GQ.FinOf prog w A R) (fun x s2 => R (.error x) s2) s := by
  have subT := AutoSeq1.sub_tuple_tuple
  have zl : min items.size items2.size = (items.toList.zip items2.toList).length := by simp
  have h0 := h
  obtain ⟨hs, gs, ds, ts, os⟩ := s
  wp_walk using wpAny_loadPart' at1, wpAny_loadPart' at2, wpAny_forIn_list _ (fun rest c s' => c.1 = none ∧ G s' ∧ ∃ i, rest = (items.toList.zip items2.toList).drop i ∧
    ∀ s2, G s2 → R (.ok (.ret (.bool (Ob.lexAt e (fun _ => false) (items.size == items2.size) i (min items.size items2.size - i))))) s2) _
  case turn =>
    rintro ⟨y, x⟩ rest c s' ⟨hc, hG, i, hz, hR⟩
    have il : i < (items.toList.zip items2.toList).length := by
      rcases Nat.lt_or_ge i (items.toList.zip items2.toList).length with q | q
      · exact q
      · rw [List.drop_of_length_le q] at hz
        cases hz
    have im : i < min items.size items2.size := zl.symm ▸ il
    have h1 : i < items.size := Nat.lt_of_lt_of_le im (Nat.min_le_left _ _)
    have h2 : i < items2.size := Nat.lt_of_lt_of_le im (Nat.min_le_right _ _)
    rw [List.drop_eq_getElem_cons il] at hz
    injection hz with hyx hrest
    have hy : y = items[i] := by simpa using congrArg Prod.fst hyx
    have hx : x = items2[i] := by simpa using congrArg Prod.snd hyx
    subst hy hx
    rw [show min items.size items2.size - i = (min items.size items2.size - (i + 1)) + 1 by omega] at hR
    simp only [Ob.lexAt_succ] at hR
    refine wpAny_bind (wpAny_mono (eqs i h1 h2 s' hG) (fun v s2 q => ?_) fun _ _ x => x)
    obtain ⟨hv, q2⟩ := q
    subst hv
    cases hei : e i with
    | true =>
      simp only [hei, if_true] at hR
      wp_walk
      exact ⟨rfl, q2, i + 1, hrest, hR⟩
    | false =>
      simp only [hei, Bool.false_eq_true, if_false] at hR
      wp_walk
      simpa using hR s2 q2
  case fin =>
    rintro ⟨b1, b2⟩ s' ⟨hc, hG, i, hz, hR⟩
    simp only at hc
    subst hc
    have ig : min items.size items2.size ≤ i := by
      rcases Nat.lt_or_ge i (items.toList.zip items2.toList).length with q | q
      · rw [List.drop_eq_getElem_cons q] at hz
        cases hz
      · exact zl.symm ▸ q
    rw [Nat.sub_eq_zero_of_le ig] at hR
    simp only [Ob.lexAt_zero] at hR
    have hR' := hR s' hG
    wp_walk
    exact hR'
  case h =>
    exact ⟨rfl, h0, 0, rfl, by simpa using fin⟩

end
section
variable {prog : Program} {w : World} {A : Around} {E : Value → Shared → Prop} {s : Shared}
theorem rc_tup_lt {l b : Addr} {items items2 : Array Value} {Q : Value → Shared → Prop} {e r : Nat → Bool} (hu : A.units < cLine) (G : Shared → Prop) (hl : s.heap.IsTuple l items) (hb : s.heap.IsTuple b items2)
    (eqs : ∀ (i : Nat) (h1 : i < items.size) (h2 : i < items2.size) (s' : Shared), G s' → wpAny (model prog w) A.in1 (eqBool items[i] items2[i]) (fun v s2 => v = e i ∧ G s2) E s')
    (rel : ∀ (i : Nat) (h1 : i < items.size) (h2 : i < items2.size) (s' : Shared), e i = false → G s' → wpAny (model prog w) A.in1 (richCompare .Lt items[i] items2[i]) (fun v s2 => v = .bool (r i) ∧ G s2) E s')
    (fin : ∀ s', G s' → Q (.bool (Ob.lexAt e (r) (decide (items.size < items2.size)) 0 (min items.size items2.size))) s') (h : G s) : wpAny (model prog w) A (richCompare .Lt (.ref l) (.ref b)) Q E s := by
  obtain ⟨⟨cls, dd, dat, sl⟩, ho, hc, n, hd⟩ := id hl
  obtain ⟨⟨cls2, dd2, dat2, sl2⟩, ho2, hc2, n2, hd2⟩ := id hb
  simp only at hc hd hc2 hd2
  subst hc hd hc2 hd2
  refine wpAny_richCompare_same_room (op := .Lt) ⟨_, ho, rfl⟩ ⟨_, ho2, rfl⟩ F.slot_tuple_lt (GQ.call_here F.slot_tuple_lt ⟨_, ho, rfl⟩ F.entry_tuple_lt (F.args_tuple_lt_2 _ _) ?_) hu
  exact tup_ltB (R := wants (fun v s2 => v ≠ .notImplemented ∧ Q v s2) E) l b items items2 n n2 dd dd2 sl sl2 e r G eqs rel (fun s' q => ⟨(fun x => nomatch x), fin s' q⟩) ho ho2 h
theorem rc_tup_le {l b : Addr} {items items2 : Array Value} {Q : Value → Shared → Prop} {e r : Nat → Bool} (hu : A.units < cLine) (G : Shared → Prop) (hl : s.heap.IsTuple l items) (hb : s.heap.IsTuple b items2)
    (eqs : ∀ (i : Nat) (h1 : i < items.size) (h2 : i < items2.size) (s' : Shared), G s' → wpAny (model prog w) A.in1 (eqBool items[i] items2[i]) (fun v s2 => v = e i ∧ G s2) E s')
    (rel : ∀ (i : Nat) (h1 : i < items.size) (h2 : i < items2.size) (s' : Shared), e i = false → G s' → wpAny (model prog w) A.in1 (richCompare .LtE items[i] items2[i]) (fun v s2 => v = .bool (r i) ∧ G s2) E s')
    (fin : ∀ s', G s' → Q (.bool (Ob.lexAt e (r) (decide (items.size ≤ items2.size)) 0 (min items.size items2.size))) s') (h : G s) : wpAny (model prog w) A (richCompare .LtE (.ref l) (.ref b)) Q E s := by
  obtain ⟨⟨cls, dd, dat, sl⟩, ho, hc, n, hd⟩ := id hl
  obtain ⟨⟨cls2, dd2, dat2, sl2⟩, ho2, hc2, n2, hd2⟩ := id hb
  simp only at hc hd hc2 hd2
  subst hc hd hc2 hd2
  refine wpAny_richCompare_same_room (op := .LtE) ⟨_, ho, rfl⟩ ⟨_, ho2, rfl⟩ F.slot_tuple_le (GQ.call_here F.slot_tuple_le ⟨_, ho, rfl⟩ F.entry_tuple_le (F.args_tuple_le_2 _ _) ?_) hu
  exact tup_leB (R := wants (fun v s2 => v ≠ .notImplemented ∧ Q v s2) E) l b items items2 n n2 dd dd2 sl sl2 e r G eqs rel (fun s' q => ⟨(fun x => nomatch x), fin s' q⟩) ho ho2 h
theorem rc_tup_gt {l b : Addr} {items items2 : Array Value} {Q : Value → Shared → Prop} {e r : Nat → Bool} (hu : A.units < cLine) (G : Shared → Prop) (hl : s.heap.IsTuple l items) (hb : s.heap.IsTuple b items2)
    (eqs : ∀ (i : Nat) (h1 : i < items.size) (h2 : i < items2.size) (s' : Shared), G s' → wpAny (model prog w) A.in1 (eqBool items[i] items2[i]) (fun v s2 => v = e i ∧ G s2) E s')
    (rel : ∀ (i : Nat) (h1 : i < items.size) (h2 : i < items2.size) (s' : Shared), e i = false → G s' → wpAny (model prog w) A.in1 (richCompare .Gt items[i] items2[i]) (fun v s2 => v = .bool (r i) ∧ G s2) E s')
    (fin : ∀ s', G s' → Q (.bool (Ob.lexAt e (r) (decide (items.size > items2.size)) 0 (min items.size items2.size))) s') (h : G s) : wpAny (model prog w) A (richCompare .Gt (.ref l) (.ref b)) Q E s := by
  obtain ⟨⟨cls, dd, dat, sl⟩, ho, hc, n, hd⟩ := id hl
  obtain ⟨⟨cls2, dd2, dat2, sl2⟩, ho2, hc2, n2, hd2⟩ := id hb
  simp only at hc hd hc2 hd2
  subst hc hd hc2 hd2
  refine wpAny_richCompare_same_room (op := .Gt) ⟨_, ho, rfl⟩ ⟨_, ho2, rfl⟩ F.slot_tuple_gt (GQ.call_here F.slot_tuple_gt ⟨_, ho, rfl⟩ F.entry_tuple_gt (F.args_tuple_gt_2 _ _) ?_) hu
  exact tup_gtB (R := wants (fun v s2 => v ≠ .notImplemented ∧ Q v s2) E) l b items items2 n n2 dd dd2 sl sl2 e r G eqs rel (fun s' q => ⟨(fun x => nomatch x), fin s' q⟩) ho ho2 h
theorem rc_tup_ge {l b : Addr} {items items2 : Array Value} {Q : Value → Shared → Prop} {e r : Nat → Bool} (hu : A.units < cLine) (G : Shared → Prop) (hl : s.heap.IsTuple l items) (hb : s.heap.IsTuple b items2)
    (eqs : ∀ (i : Nat) (h1 : i < items.size) (h2 : i < items2.size) (s' : Shared), G s' → wpAny (model prog w) A.in1 (eqBool items[i] items2[i]) (fun v s2 => v = e i ∧ G s2) E s')
    (rel : ∀ (i : Nat) (h1 : i < items.size) (h2 : i < items2.size) (s' : Shared), e i = false → G s' → wpAny (model prog w) A.in1 (richCompare .GtE items[i] items2[i]) (fun v s2 => v = .bool (r i) ∧ G s2) E s')
    (fin : ∀ s', G s' → Q (.bool (Ob.lexAt e (r) (decide (items.size ≥ items2.size)) 0 (min items.size items2.size))) s') (h : G s) : wpAny (model prog w) A (richCompare .GtE (.ref l) (.ref b)) Q E s := by
  obtain ⟨⟨cls, dd, dat, sl⟩, ho, hc, n, hd⟩ := id hl
  obtain ⟨⟨cls2, dd2, dat2, sl2⟩, ho2, hc2, n2, hd2⟩ := id hb
  simp only at hc hd hc2 hd2
  subst hc hd hc2 hd2
  refine wpAny_richCompare_same_room (op := .GtE) ⟨_, ho, rfl⟩ ⟨_, ho2, rfl⟩ F.slot_tuple_ge (GQ.call_here F.slot_tuple_ge ⟨_, ho, rfl⟩ F.entry_tuple_ge (F.args_tuple_ge_2 _ _) ?_) hu
  exact tup_geB (R := wants (fun v s2 => v ≠ .notImplemented ∧ Q v s2) E) l b items items2 n n2 dd dd2 sl sl2 e r G eqs rel (fun s' q => ⟨(fun x => nomatch x), fin s' q⟩) ho ho2 h
theorem rc_tup_eq {l b : Addr} {items items2 : Array Value} {Q : Value → Shared → Prop} {e : Nat → Bool} (hu : A.units < cLine) (G : Shared → Prop) (hl : s.heap.IsTuple l items) (hb : s.heap.IsTuple b items2)
    (eqs : ∀ (i : Nat) (h1 : i < items.size) (h2 : i < items2.size) (s' : Shared), G s' → wpAny (model prog w) A.in1 (eqBool items[i] items2[i]) (fun v s2 => v = e i ∧ G s2) E s')
    (fin : ∀ s', G s' → Q (.bool (Ob.lexAt e (fun _ => false) (items.size == items2.size) 0 (min items.size items2.size))) s') (h : G s) : wpAny (model prog w) A (richCompare .Eq (.ref l) (.ref b)) Q E s := by
  obtain ⟨⟨cls, dd, dat, sl⟩, ho, hc, n, hd⟩ := id hl
  obtain ⟨⟨cls2, dd2, dat2, sl2⟩, ho2, hc2, n2, hd2⟩ := id hb
  simp only at hc hd hc2 hd2
  subst hc hd hc2 hd2
  refine wpAny_richCompare_same_room (op := .Eq) ⟨_, ho, rfl⟩ ⟨_, ho2, rfl⟩ F.slot_tuple_eq (GQ.call_here F.slot_tuple_eq ⟨_, ho, rfl⟩ F.entry_tuple_eq (F.args_tuple_eq_2 _ _) ?_) hu
  exact tup_eqB (R := wants (fun v s2 => v ≠ .notImplemented ∧ Q v s2) E) l b items items2 n n2 dd dd2 sl sl2 e G eqs (fun s' q => ⟨(fun x => nomatch x), fin s' q⟩) ho ho2 h
end
end Bp

namespace Bp
open PySem.Spec PySem PyProof.Rows
open L2 hiding St Takes XE CX takes_of PMk MkP ps_raise mk_of ps_try_as ps_try_many pmk_own passAt passes_call takes0 passL
open L2N hiding St
/-! ### comparisons below a built-in -/
abbrev DB := V → V → Bool → Hp → Prop
def MonB (D : DB) : Prop := ∀ x y r H H', Same H H' → D x y r H → D x y r H'
/-- u op v, run at A below the body X: the answer is r, and only objects are made -/
def RcB (X : Cx) (op : CmpOp) (n : Nat) (D : DB) : Prop := ∀ (A : Around) (pins : List (Addr × Obj)) (s : Shared) (σ : L2.St) (H : Hp) (x y : V) (u v : Value) (r : Bool), Sub X n A → Inv X pins σ H s → RelV x u → RelV y v → D x y r H →
  wpAny (model X.prog X.w) A (richCompare op u v) (fun z s2 => z = .bool r ∧ ∃ H2, Inv X pins σ H2 s2 ∧ Same H H2) X.xe s
def EqB (X : Cx) (n : Nat) (D : DB) : Prop := ∀ (A : Around) (pins : List (Addr × Obj)) (s : Shared) (σ : L2.St) (H : Hp) (x y : V) (u v : Value) (r : Bool), Sub X n A → Inv X pins σ H s → RelV x u → RelV y v → D x y r H →
  wpAny (model X.prog X.w) A (eqBool u v) (fun z s2 => z = r ∧ ∃ H2, Inv X pins σ H2 s2 ∧ Same H H2) X.xe s
section
variable {X : Cx} {n k : Nat} {D DE DO : DB} {C f : Addr} {fd : FuncData} {ps : List Str} {sp : Sp} {op : CmpOp}
theorem RcB.mono {m : Nat} (h : RcB X op n D) (hm : n ≤ m) : RcB X op m D := fun A pins s σ H x y u v r sb => h A pins s σ H x y u v r (sb.mono hm)
theorem EqB.mono {m : Nat} (h : EqB X n D) (hm : n ≤ m) : EqB X m D := fun A pins s σ H x y u v r sb => h A pins s σ H x y u v r (sb.mono hm)
theorem RcB.imp {D' : DB} (h : RcB X op n D) (k : ∀ x y r H, D' x y r H → D x y r H) : RcB X op n D' := fun A pins s σ H x y u v r sb I rx ry d => h A pins s σ H x y u v r sb I rx ry (k _ _ _ _ d)
/-- two instances of C, by the own def -/
def DOwn (C : Addr) (sp : Sp) : DB := fun x y r H => IsI C H x ∧ IsI C H y ∧ ∀ Q : VK, (∀ H2, Same H H2 → Q (.bl r) H2) → sp [x, y] H Q E0
theorem rcB_own (hs : PySem.W.findIn X.K (.ref C) (cmpInfo op).2.1 = some (some (.ref f))) (hf : PySem.W.isFn X.K (.ref f) = true) (F : FnOk X.prog X.w X.K X.mg X.base (L2N.CX X.prog X.w) n f fd ps sp) (hb : L2.Binds X.K fd ps []) : RcB X op n (DOwn C sp) := by
  intro A pins s σ H x y u v r sb I rx ry d
  obtain ⟨⟨a, dx, fs, rfl, ha⟩, ⟨b, dy, gs, rfl, hb'⟩, q⟩ := d
  cases (show u = Value.ref a from rx)
  cases (show v = Value.ref b from ry)
  obtain ⟨_, od, J⟩ := inst_of I ha
  obtain ⟨_, od', J'⟩ := inst_of I hb'
  obtain ⟨m, hF⟩ := I.fr
  have e0 : Env0 X.prog X.w X.K X.mg X.base A X.stack s H := by
    have e := I.env0
    exact ⟨by rw [sb.fr]; exact e.frames, e.mod, e.bs, e.bsz, e.funs, e.frf, e.hok, e.bare⟩
  have run := run_below (us := [.ref a, .ref b]) (vs := [.ref a, .ref b]) (Q := fun z H2 => z = .bl r ∧ Same H H2) F sb.room e0 hb I (.cons rfl (.cons rfl .nil)) (q _ fun H2 s2 => ⟨rfl, s2⟩)
  refine wpAny_mono (PySem.W.cmp_K (op := op) (tb := .ref C) sb.room.units0 hF I.ok.mod.kin J J'.type (by unfold PySem.W.notFirst; rw [beq_self_eq_true, Bool.true_or]) hs hf (thn run fun _ _ z => ownback z)) (fun z s2 q2 => ?_) fun _ _ x => x
  obtain ⟨zv, H2, I2, rz, ez, s2'⟩ := q2
  subst ez
  exact ⟨rz, H2, I2, s2'⟩
/-- == inside a built-in: the same object is equal to itself -/
theorem RcB.eqB (h : RcB X .Eq n D) (hr : ∀ x y r H, D x y r H → ∃ a b, x = .ref a ∧ y = .ref b ∧ (a = b → r = true)) : EqB X n D := by
  intro A pins s σ H x y u v r sb I rx ry d
  obtain ⟨a, b, rfl, rfl, e⟩ := hr _ _ _ _ d
  cases rx
  cases ry
  by_cases hab : a = b
  · subst hab
    rw [e rfl]
    exact SeqAt.EqAt.same (A := A) (s := s) (.ref a) X.prog X.w X.xe _ ⟨rfl, H, I, fun _ _ z => z⟩
  · refine GQ.eqBool_refG hab (wpAny_mono (h A pins s σ H (.ref a) (.ref b) _ _ r sb I rfl rfl d) (fun z s2 q => ?_) fun _ _ x => x)
    exact ⟨r, q.1, rfl, q.2⟩
theorem vals_at {xs : List V} {its : List Value} (r : Vals xs its) {i : Nat} (h : i < its.toArray.size) : ∃ x, xs[i]? = some x ∧ RelV x its.toArray[i] := by
  have hi : i < its.length := by simpa using h
  have hx : i < xs.length := by rw [r.length]; exact hi
  obtain ⟨u, hu, ru⟩ := r.get (List.getElem?_eq_getElem hx)
  rw [List.getElem?_eq_getElem hi] at hu
  refine ⟨xs[i], List.getElem?_eq_getElem hx, ?_⟩
  have e : its.toArray[i] = its[i] := by simp
  rw [e, Option.some.inj hu]
  exact ru
/-- what a built-in's loop over the items keeps -/
def Kept (X : Cx) (pins : List (Addr × Obj)) (σ : L2.St) (H : Hp) : Shared → Prop := fun s2 => ∃ H2, Inv X pins σ H2 s2 ∧ Same H H2
/-- the items of two tuples compare so: e which are equal, o what the first unequal one gives -/
structure Items2 (K : PySem.W.Frag) (DE DO : DB) (e o : Nat → Bool) (x y : V) (na nb : Nat) (H : Hp) : Prop where
  ex : ∃ a b xs ys, x = .ref a ∧ y = .ref b ∧ SqT K H a xs ∧ SqT K H b ys ∧ xs.length = na ∧ ys.length = nb ∧ (∀ (i : Nat) p q, xs[i]? = some p → ys[i]? = some q → DE p q (e i) H) ∧ ∀ (i : Nat) p q, xs[i]? = some p → ys[i]? = some q → e i = false → DO p q (o i) H
def DTupO (K : PySem.W.Frag) (DE DO : DB) (z : Nat → Nat → Bool) : DB := fun x y r H => ∃ e o na nb, Items2 K DE DO e o x y na nb H ∧ r = Ob.lexAt e o (z na nb) 0 (min na nb)

def DTupE (K : PySem.W.Frag) (DE : DB) : DB := fun x y r H => ∃ e na nb, Items2 K DE (fun _ _ _ _ => True) e (fun _ => false) x y na nb H ∧ r = Ob.lexAt e (fun _ => false) (na == nb) 0 (min na nb)
theorem rcB_tup_lt (he : EqB X n DE) (me : MonB DE) (ho : RcB X .Lt n DO) (mo : MonB DO) : RcB X .Lt (n + 1) (DTupO X.K DE DO (fun a b => decide (a < b))) := by
  intro A pins s σ H x y u v r sb I rx ry d
  obtain ⟨e, o, na, nb, ⟨a, b, xs, ys, rfl, rfl, ha, hb, rfl, rfl, dE, dO⟩, rfl⟩ := d
  cases rx
  cases ry
  obtain ⟨its, r1, e1, z1⟩ := I.tuple ha
  obtain ⟨its2, r2, e2, z2⟩ := I.tuple hb
  have l1 : its.toArray.size = xs.length := by rw [List.size_toArray, ← r1.length]
  have l2 : its2.toArray.size = ys.length := by rw [List.size_toArray, ← r2.length]
  refine rc_tup_lt (e := e) (r := o) sb.room.units0 (Kept X pins σ H) e1 e2
    (fun i h1 h2 s2 ⟨H2, I2, s2'⟩ => by
      obtain ⟨p, hp, rp⟩ := vals_at r1 h1
      obtain ⟨q, hq, rq⟩ := vals_at r2 h2
      refine wpAny_mono (he A.in1 pins s2 σ H2 p q _ _ _ sb.in1 I2 rp rq (me _ _ _ _ _ s2' (dE i p q hp hq))) (fun v s3 ⟨e1, H3, I3, s3'⟩ => ⟨e1, H3, I3, s2'.trans s3'⟩) fun _ _ x => x)
    (fun i h1 h2 s2 ei ⟨H2, I2, s2'⟩ => by
      obtain ⟨p, hp, rp⟩ := vals_at r1 h1
      obtain ⟨q, hq, rq⟩ := vals_at r2 h2
      refine wpAny_mono (ho A.in1 pins s2 σ H2 p q _ _ _ sb.in1 I2 rp rq (mo _ _ _ _ _ s2' (dO i p q hp hq ei))) (fun v s3 ⟨e1, H3, I3, s3'⟩ => ⟨e1, H3, I3, s2'.trans s3'⟩) fun _ _ x => x)
    (fun s2 kp => ⟨?_, kp⟩) ⟨H, I, fun _ _ z => z⟩
  rw [l1, l2]
theorem rcB_tup_le (he : EqB X n DE) (me : MonB DE) (ho : RcB X .LtE n DO) (mo : MonB DO) : RcB X .LtE (n + 1) (DTupO X.K DE DO (fun a b => decide (a ≤ b))) := by
  intro A pins s σ H x y u v r sb I rx ry d
  obtain ⟨e, o, na, nb, ⟨a, b, xs, ys, rfl, rfl, ha, hb, rfl, rfl, dE, dO⟩, rfl⟩ := d
  cases rx
  cases ry
  obtain ⟨its, r1, e1, z1⟩ := I.tuple ha
  obtain ⟨its2, r2, e2, z2⟩ := I.tuple hb
  have l1 : its.toArray.size = xs.length := by rw [List.size_toArray, ← r1.length]
  have l2 : its2.toArray.size = ys.length := by rw [List.size_toArray, ← r2.length]
  refine rc_tup_le (e := e) (r := o) sb.room.units0 (Kept X pins σ H) e1 e2
    (fun i h1 h2 s2 ⟨H2, I2, s2'⟩ => by
      obtain ⟨p, hp, rp⟩ := vals_at r1 h1
      obtain ⟨q, hq, rq⟩ := vals_at r2 h2
      refine wpAny_mono (he A.in1 pins s2 σ H2 p q _ _ _ sb.in1 I2 rp rq (me _ _ _ _ _ s2' (dE i p q hp hq))) (fun v s3 ⟨e1, H3, I3, s3'⟩ => ⟨e1, H3, I3, s2'.trans s3'⟩) fun _ _ x => x)
    (fun i h1 h2 s2 ei ⟨H2, I2, s2'⟩ => by
      obtain ⟨p, hp, rp⟩ := vals_at r1 h1
      obtain ⟨q, hq, rq⟩ := vals_at r2 h2
      refine wpAny_mono (ho A.in1 pins s2 σ H2 p q _ _ _ sb.in1 I2 rp rq (mo _ _ _ _ _ s2' (dO i p q hp hq ei))) (fun v s3 ⟨e1, H3, I3, s3'⟩ => ⟨e1, H3, I3, s2'.trans s3'⟩) fun _ _ x => x)
    (fun s2 kp => ⟨?_, kp⟩) ⟨H, I, fun _ _ z => z⟩
  rw [l1, l2]
theorem rcB_tup_gt (he : EqB X n DE) (me : MonB DE) (ho : RcB X .Gt n DO) (mo : MonB DO) : RcB X .Gt (n + 1) (DTupO X.K DE DO (fun a b => decide (a > b))) := by
  intro A pins s σ H x y u v r sb I rx ry d
  obtain ⟨e, o, na, nb, ⟨a, b, xs, ys, rfl, rfl, ha, hb, rfl, rfl, dE, dO⟩, rfl⟩ := d
  cases rx
  cases ry
  obtain ⟨its, r1, e1, z1⟩ := I.tuple ha
  obtain ⟨its2, r2, e2, z2⟩ := I.tuple hb
  have l1 : its.toArray.size = xs.length := by rw [List.size_toArray, ← r1.length]
  have l2 : its2.toArray.size = ys.length := by rw [List.size_toArray, ← r2.length]
  refine rc_tup_gt (e := e) (r := o) sb.room.units0 (Kept X pins σ H) e1 e2
    (fun i h1 h2 s2 ⟨H2, I2, s2'⟩ => by
      obtain ⟨p, hp, rp⟩ := vals_at r1 h1
      obtain ⟨q, hq, rq⟩ := vals_at r2 h2
      refine wpAny_mono (he A.in1 pins s2 σ H2 p q _ _ _ sb.in1 I2 rp rq (me _ _ _ _ _ s2' (dE i p q hp hq))) (fun v s3 ⟨e1, H3, I3, s3'⟩ => ⟨e1, H3, I3, s2'.trans s3'⟩) fun _ _ x => x)
    (fun i h1 h2 s2 ei ⟨H2, I2, s2'⟩ => by
      obtain ⟨p, hp, rp⟩ := vals_at r1 h1
      obtain ⟨q, hq, rq⟩ := vals_at r2 h2
      refine wpAny_mono (ho A.in1 pins s2 σ H2 p q _ _ _ sb.in1 I2 rp rq (mo _ _ _ _ _ s2' (dO i p q hp hq ei))) (fun v s3 ⟨e1, H3, I3, s3'⟩ => ⟨e1, H3, I3, s2'.trans s3'⟩) fun _ _ x => x)
    (fun s2 kp => ⟨?_, kp⟩) ⟨H, I, fun _ _ z => z⟩
  rw [l1, l2]
theorem rcB_tup_ge (he : EqB X n DE) (me : MonB DE) (ho : RcB X .GtE n DO) (mo : MonB DO) : RcB X .GtE (n + 1) (DTupO X.K DE DO (fun a b => decide (a ≥ b))) := by
  intro A pins s σ H x y u v r sb I rx ry d
  obtain ⟨e, o, na, nb, ⟨a, b, xs, ys, rfl, rfl, ha, hb, rfl, rfl, dE, dO⟩, rfl⟩ := d
  cases rx
  cases ry
  obtain ⟨its, r1, e1, z1⟩ := I.tuple ha
  obtain ⟨its2, r2, e2, z2⟩ := I.tuple hb
  have l1 : its.toArray.size = xs.length := by rw [List.size_toArray, ← r1.length]
  have l2 : its2.toArray.size = ys.length := by rw [List.size_toArray, ← r2.length]
  refine rc_tup_ge (e := e) (r := o) sb.room.units0 (Kept X pins σ H) e1 e2
    (fun i h1 h2 s2 ⟨H2, I2, s2'⟩ => by
      obtain ⟨p, hp, rp⟩ := vals_at r1 h1
      obtain ⟨q, hq, rq⟩ := vals_at r2 h2
      refine wpAny_mono (he A.in1 pins s2 σ H2 p q _ _ _ sb.in1 I2 rp rq (me _ _ _ _ _ s2' (dE i p q hp hq))) (fun v s3 ⟨e1, H3, I3, s3'⟩ => ⟨e1, H3, I3, s2'.trans s3'⟩) fun _ _ x => x)
    (fun i h1 h2 s2 ei ⟨H2, I2, s2'⟩ => by
      obtain ⟨p, hp, rp⟩ := vals_at r1 h1
      obtain ⟨q, hq, rq⟩ := vals_at r2 h2
      refine wpAny_mono (ho A.in1 pins s2 σ H2 p q _ _ _ sb.in1 I2 rp rq (mo _ _ _ _ _ s2' (dO i p q hp hq ei))) (fun v s3 ⟨e1, H3, I3, s3'⟩ => ⟨e1, H3, I3, s2'.trans s3'⟩) fun _ _ x => x)
    (fun s2 kp => ⟨?_, kp⟩) ⟨H, I, fun _ _ z => z⟩
  rw [l1, l2]
theorem rcB_tup_eq (he : EqB X n DE) (me : MonB DE) : RcB X .Eq (n + 1) (DTupE X.K DE) := by
  intro A pins s σ H x y u v r sb I rx ry d
  obtain ⟨e, na, nb, ⟨a, b, xs, ys, rfl, rfl, ha, hb, rfl, rfl, dE, _⟩, rfl⟩ := d
  cases rx
  cases ry
  obtain ⟨its, r1, e1, z1⟩ := I.tuple ha
  obtain ⟨its2, r2, e2, z2⟩ := I.tuple hb
  have l1 : its.toArray.size = xs.length := by rw [List.size_toArray, ← r1.length]
  have l2 : its2.toArray.size = ys.length := by rw [List.size_toArray, ← r2.length]
  refine rc_tup_eq (e := e) sb.room.units0 (Kept X pins σ H) e1 e2
    (fun i h1 h2 s2 ⟨H2, I2, s2'⟩ => by
      obtain ⟨p, hp, rp⟩ := vals_at r1 h1
      obtain ⟨q, hq, rq⟩ := vals_at r2 h2
      refine wpAny_mono (he A.in1 pins s2 σ H2 p q _ _ _ sb.in1 I2 rp rq (me _ _ _ _ _ s2' (dE i p q hp hq))) (fun v s3 ⟨e1, H3, I3, s3'⟩ => ⟨e1, H3, I3, s2'.trans s3'⟩) fun _ _ x => x)
    (fun s2 kp => ⟨?_, kp⟩) ⟨H, I, fun _ _ z => z⟩
  rw [l1, l2]
/-- as an operator -/
def rB (D : DB) : R2S := fun _ x y H Q => ∃ r, D x y r H ∧ ∀ H2, Same H H2 → Q (.bl r) H2
theorem op_B (hop : ∀ a b, compareOp op a b = richCompare op a b) (h : RcB X op n D) (hr : Room n X.A) : OpS X (compareOp op) (rB D) := by
  intro pins s σ H x y v u Q I rx ry hq
  obtain ⟨r, d, q⟩ := hq
  rw [hop]
  refine wpAny_mono (h X.A pins s σ H x y v u r ⟨hr, rfl⟩ I rx ry d) (fun z s2 ⟨e, H2, I2, s2'⟩ => ?_) fun _ _ x => x
  subst e
  exact ⟨.bl r, H2, I2, rfl, q H2 s2'⟩
end
end Bp

namespace Bp
open PySem.Spec PySem PyProof.Rows
open L2 hiding St Takes XE CX takes_of PMk MkP ps_raise mk_of ps_try_as ps_try_many pmk_own passAt passes_call takes0 passL
open L2N hiding St
open RZ
/-! ### walks and comprehensions in readings -/
theorem seqT {K : PySem.W.Frag} {H H' : Hp} {a : Addr} {xs : List V} (e : Same H H') (h : SqT K H a xs) : SqT K H' a xs := SqT.ext h e
/-- P stands when a list is changed -/
def UpL (P : VP) : Prop := ∀ (v : V) (H : Hp) (l : Addr) (xs ys : List V), H l = some (.lst xs) → P v H → P v (upd H l (.lst ys))
theorem UpL.is (v : V) : UpL (Is v) := fun _ _ _ _ _ _ h => h
theorem keep_upd {H : Hp} {l x : Addr} {xs ys : List V} {o : HO} (hl : H l = some (.lst xs)) (hx : H x = some o) (no : ∀ zs, o ≠ .lst zs) : upd H l (.lst ys) x = some o := by
  by_cases e : x = l
  · subst e
    rw [hl] at hx
    exact absurd (Option.some.inj hx).symm (no xs)
  · rw [upd_ne e]
    exact hx
/-- an iterator's items: n of them, the i-th one is what S says, and only objects are made -/
def GeI (wi : TI) (σ : L2.St) (H : Hp) (n : Nat) (S : Nat → V → Hp → Prop) : Prop := ∀ H1, Same H H1 → ∀ R : It → Hp → Prop,
  (∀ (J : It) (G : Hp → Prop) (Y : Nat → Hp → V → Hp → Prop) (H2 : Hp), Same H1 H2 → Walk J n G Y → (∀ H3, Same H2 H3 → G H3) → (∀ i H3 x H4, i < n → Same H2 H3 → Y i H3 x H4 → Same H3 H4 ∧ S i x H4) → R J H2) → wi σ H1 R
section
variable {K : PySem.W.Frag} {σ : L2.St} {H : Hp} {te tl : TE} {a b : Addr} {xs ys : List V}
theorem gi_list (h : Ge tl σ H (Is (.ref a))) (hs : SqL K H a xs) : GeI (iList K tl) σ H xs.length (fun i x _ => xs[i]? = some x) := fun H1 s R k =>
  h H1 s _ fun v H2 s2 e => ⟨a, e, ⟨xs, (s.trans s2).seq hs⟩, k _ _ _ H2 s2 walk_list (fun H3 s3 => ((s.trans s2).trans s3).seq hs) fun i H3 x H4 _ _ ⟨e4, ex⟩ => by rw [e4]; exact ⟨fun _ _ z => z, ex⟩⟩
theorem gi_tup (h : Ge tl σ H (Is (.ref a))) (hs : SqT K H a xs) : GeI (iTup K tl) σ H xs.length (fun i x _ => xs[i]? = some x) := fun H1 s R k =>
  h H1 s _ fun v H2 s2 e => ⟨a, e, ⟨xs, seqT (s.trans s2) hs⟩, k _ _ _ H2 s2 walk_tup (fun H3 s3 => seqT ((s.trans s2).trans s3) hs) fun i H3 x H4 _ _ ⟨e4, ex⟩ => by rw [e4]; exact ⟨fun _ _ z => z, ex⟩⟩
theorem walk_zipT {n : Nat} (ha : xs.length = n) (hb : ys.length = n) : Walk (ItzT K a b) n (fun H => SqT K H a xs ∧ SqT K H b ys) (YPair (fun i => xs[i]?) (fun i => ys[i]?)) := by
  subst ha
  exact ⟨fun i _ hi q => ⟨xs, ys, xs[i], ys[i]'(by omega), q.1, q.2, by simp [hi], by simp [hb, hi]⟩, fun _ q => ⟨xs, ys, q.1, q.2, .inl (Nat.le_refl _)⟩, fun i _ _ _ hi q ⟨T, x, y, e, hT, e2, h1, h2⟩ => ⟨T, x, y, e, hT, e2, h1 _ q.1, h2 _ q.2⟩⟩
theorem gi_zipT {ta tb : TE} {n : Nat} (h1 : Ge ta σ H (Is (.ref a))) (h2 : Ge tb σ H (Is (.ref b))) (sa : SqT K H a xs) (sb : SqT K H b ys) (ha : xs.length = n) (hb : ys.length = n) :
    GeI (iZipA K (tCons ta (tCons tb tNil))) σ H n (fun i v H4 => ∃ T x y, v = .ref T ∧ H4 T = some (.tup [x, y]) ∧ xs[i]? = some x ∧ ys[i]? = some y) := fun H1 s R k =>
  h1 H1 s _ fun v H2 s2 e => h2 H2 (s.trans s2) _ fun u H3 s3 e' => ⟨a, b, xs, ys, by rw [show v = V.ref a from e, show u = V.ref b from e'], .inr ⟨seqT ((s.trans s2).trans s3) sa, seqT ((s.trans s2).trans s3) sb,
    k _ _ _ H3 (s2.trans s3) (walk_zipT ha hb) (fun H4 s4 => ⟨seqT (((s.trans s2).trans s3).trans s4) sa, seqT (((s.trans s2).trans s3).trans s4) sb⟩) fun i H4 x H5 hi s4 ⟨T, p, q, ex, hT, e5, hp, hq⟩ => by
      rw [e5]
      exact ⟨Same.new hT, T, p, q, ex, upd_same, hp, hq⟩⟩⟩
/-- a list whose items are what P says -/
def LstP (P : Nat → VP) (n : Nat) : VP := fun v H => ∃ b ys, v = .ref b ∧ H b = some (.lst ys) ∧ ys.length = n ∧ ∀ i y, ys[i]? = some y → P i y H
def TupP (P : Nat → VP) (n : Nat) : VP := fun v H => ∃ b ys, v = .ref b ∧ H b = some (.tup ys) ∧ ys.length = n ∧ ∀ i y, ys[i]? = some y → P i y H
theorem up_lstP {P : Nat → VP} {n : Nat} (u : ∀ i, Up (P i)) : Up (LstP P n) := fun v H H' ⟨b, ys, e, h, l, p⟩ s => ⟨b, ys, e, s _ _ h, l, fun i y hy => u i _ _ _ (p i y hy) s⟩
theorem up_tupP {P : Nat → VP} {n : Nat} (u : ∀ i, Up (P i)) : Up (TupP P n) := fun v H H' ⟨b, ys, e, h, l, p⟩ s => ⟨b, ys, e, s _ _ h, l, fun i y hy => u i _ _ _ (p i y hy) s⟩
theorem gi_tupP {P : Nat → VP} {n : Nat} (h : Ge tl σ H (TupP P n)) (up : ∀ i, Up (P i)) : GeI (iTup K tl) σ H n P := fun H1 s R k =>
  h H1 s _ fun v H2 s2 ⟨b, ys, e, hb, hl, hp⟩ => ⟨b, e, ⟨ys, SqT.of hb⟩, k (Itt K b) (fun H => SqT K H b ys) (YAt ys) H2 s2 (by rw [← hl]; exact walk_tup) (fun H3 s3 => seqT s3 (SqT.of hb)) fun i H3 x H4 _ s3 ⟨e4, ex⟩ => by rw [e4]; exact ⟨fun _ _ z => z, up i _ _ _ (hp i x ex) s3⟩⟩
theorem gi_zipP {ta tb : TE} {P P' : Nat → VP} {n : Nat} (h1 : Ge ta σ H (TupP P n)) (h2 : Ge tb σ H (TupP P' n)) (up : ∀ i, Up (P i)) (up' : ∀ i, Up (P' i)) :
    GeI (iZipA K (tCons ta (tCons tb tNil))) σ H n (fun i v H4 => ∃ T x y, v = .ref T ∧ H4 T = some (.tup [x, y]) ∧ P i x H4 ∧ P' i y H4) := fun H1 s R k =>
  h1 H1 s _ fun v H2 s2 ⟨a, xs, e, ha, la, pa⟩ => h2 H2 (s.trans s2) _ fun u H3 s3 ⟨b, ys, e', hb, lb, pb⟩ => ⟨a, b, xs, ys, by rw [e, e'], .inr ⟨SqT.of (s3 _ _ ha), SqT.of hb,
    k _ _ _ H3 (s2.trans s3) (walk_zipT la lb) (fun H4 s4 => ⟨SqT.of (s4 _ _ (s3 _ _ ha)), SqT.of (s4 _ _ hb)⟩) fun i H4 x H5 hi s4 ⟨T, p, q, ex, hT, e5, hp, hq⟩ => by
      rw [e5]
      exact ⟨Same.new hT, T, p, q, ex, upd_same, up i _ _ _ (pa i p hp) ((s3.trans s4).trans (Same.new hT)), up' i _ _ _ (pb i q hq) (s4.trans (Same.new hT))⟩⟩⟩
/-- [e for x in xs] -/
theorem ge_lc {wi : TI} {g : TG} {vs : List Nat} {n : Nat} {S : Nat → V → Hp → Prop} {P : Nat → VP} (hi : GeI wi σ H n S) (hn : n ≤ 1000) (up : ∀ i, Up (P i)) (ul : ∀ i, UpL (P i))
    (hb : ∀ i x H1, i < n → Same H H1 → S i x H1 → ∃ σ2, (∀ N : L2.St → Hp → Prop, N σ2 H1 → g x (wipe σ vs) H1 N) ∧ wipe σ2 vs = wipe σ vs ∧ Ge te σ2 H1 (P i)) : Ge (tLc wi g tYes te vs) σ H (LstP P n) := fun H1 s Q q => by
  refine hi H1 s _ fun J G Y H2 s2 w hG hY D hD => ?_
  refine lc_it (n := n) (D := D) (H1 := H2) (Qd := fun H3 => Q (.ref D) H3) w (fun i H3 => ∃ acc, H3 D = some (.lst acc) ∧ acc.length = i ∧ (∀ j y, acc[j]? = some y → P j y H3) ∧ Same H2 H3) ⟨[], upd_same, rfl, fun j y hy => by simp at hy, Same.new hD⟩ (fun i H3 _ ⟨acc, _, _, _, s3⟩ => hG H3 s3) ?_ ?_
  · rintro i x H3 H4 hi ⟨acc, hacc, hl, hp, s3⟩ y
    obtain ⟨s4, hS⟩ := hY i H3 x H4 hi s3 y
    obtain ⟨σ2, hg, hw, hge⟩ := hb i x H4 hi ((s.trans s2).trans (s3.trans s4)) hS
    refine hg _ ⟨hw, ?_⟩
    unfold tYes
    dsimp only
    rw [if_pos rfl]
    refine hge H4 (fun _ _ z => z) _ fun v H5 s5 pv => ?_
    have h5 := s5 _ _ (s4 _ _ hacc)
    refine ⟨acc, h5, Nat.lt_of_le_of_lt (by omega : acc.length ≤ 1000) (by decide), acc ++ [v], upd_same, by rw [List.length_append]; show acc.length + 1 = i + 1; omega, fun j z hz => ?_, fun c o hc => ?_⟩
    · by_cases hj : j < acc.length
      · rw [List.getElem?_append_left hj] at hz
        exact ul j _ _ _ _ _ h5 (up j _ _ _ (hp j z hz) (s4.trans s5))
      · rw [List.getElem?_append_right (by omega)] at hz
        have e0 : j - acc.length = 0 := by
          rcases Nat.eq_zero_or_pos (j - acc.length) with q | q
          · exact q
          · rw [List.getElem?_eq_none (by show 1 ≤ _; omega)] at hz
            cases hz
        rw [e0] at hz
        have e1 : v = z := by simpa using hz
        have e2 : j = i := by omega
        subst e1
        subst e2
        exact ul j _ _ _ _ _ h5 pv
    · rw [upd_ne (ne_of_none hc hD)]
      exact s5 _ _ (s4 _ _ (s3 _ _ hc))
  · rintro H3 ⟨acc, hacc, hl, hp, s3⟩
    exact q _ H3 (s2.trans s3) ⟨D, acc, rfl, hacc, hl, hp⟩
/-- tuple(list) -/
theorem ge_tuple {P : Nat → VP} {n : Nat} (h : Ge te σ H (LstP P n)) (up : ∀ i, Up (P i)) : Ge (tCB (fun xs H Q => ∃ p ys, xs = [.ref p] ∧ ((SqL K H p ys ∧ ∀ l, H l = none → Q (.ref l) (upd H l (.tup ys))) ∨ (SqT K H p ys ∧ Q (.ref p) H))) (tCons te tNil)) σ H (TupP P n) :=
  fun H1 s Q q => h H1 s _ fun v H2 s2 ⟨b, ys, e, hb, hl, hp⟩ => ⟨b, ys, by rw [e], .inl ⟨SqL.of hb, fun l hl' => q _ _ (s2.trans (Same.new hl')) ⟨l, ys, rfl, upd_same, hl, fun i y hy => up i _ _ _ (hp i y hy) (Same.new hl')⟩⟩⟩
end
end Bp

namespace J
open PySem.Spec PySem PyProof.Rows
open L2 hiding St Takes XE CX takes_of PMk MkP ps_raise mk_of ps_try_as ps_try_many pmk_own passAt passes_call takes0 passL
open L2N hiding St

/-! ### values without a heap -/
inductive PV where
  | non | bl (b : Bool) | int (i : Int) | str (x : Str) | fr (r : Rat)
  | tup (l : List PV) | lst (l : List PV) | obj (c : Nat) (fs : List (Str × PV)) | cls (c : Nat) | typ (n : String)
/-- what comes out: a value, an error of the own class c with its fields, or nothing that is told -/
inductive R (α : Type) where
  | ok (a : α) | er (c : Nat) (fs : List (Str × PV)) | bad
def R.bind {α β : Type} (r : R α) (k : α → R β) : R β := match r with | .ok a => k a | .er c fs => .er c fs | .bad => .bad
@[simp] theorem R.bind_ok {α β : Type} (a : α) (k : α → R β) : (R.ok a).bind k = k a := rfl
@[simp] theorem R.bind_er {α β : Type} (c : Nat) (fs : List (Str × PV)) (k : α → R β) : (R.er c fs).bind k = .er c fs := rfl
@[simp] theorem R.bind_bad {α β : Type} (k : α → R β) : (R.bad).bind k = .bad := rfl
/-- slots -/
inductive Sl where
  | no | val (p : PV) | own (l : List PV) | oob (c : Nat) (fs : List (Str × PV)) | slf (c : Nat) (fs : List (Str × PV)) | exc (c : Nat) (fs : List (Str × PV))
def Sl.isOwn : Sl → Bool | .own _ => true | .oob _ _ => true | _ => false
abbrev Env := List Sl
/-- what a block comes to -/
inductive F where
  | nx (e : Env) | rt (p : PV) | er (e : Env) (c : Nat) (fs : List (Str × PV)) | bk (e : Env) | ct (e : Env) | bad

structure Gb where
  K : PySem.W.Frag
  cm : Nat → Addr
/-- the class Frac -/
abbrev Gb.C (G : Gb) : Addr := G.cm 0
/-- besides: the error that a suite handles; the self of an __init__ -/
structure Ga extends Gb where
  xi : Option (Addr × Value × Option Addr) := none
  sa : Option Addr := none
instance : CoeOut Ga Gb := ⟨Ga.toGb⟩
def frF (r : Rat) : List (Str × V) := [("num", .int r.num), ("den", .int (r.den : Int))]
mutual
inductive Rep (G : Gb) (H : Hp) : PV → V → Prop
  | non : Rep G H .non .non
  | bl (b : Bool) : Rep G H (.bl b) (.bl b)
  | int (i : Int) : Rep G H (.int i) (.int i)
  | str (x : Str) : Rep G H (.str x) (.str x)
  | fr {r : Rat} {a dx : Addr} : H a = some (.ins G.C dx (frF r)) → Rep G H (.fr r) (.ref a)
  | tup {l : List PV} {a : Addr} {vs : List V} : SqT G.K H a vs → Reps G H l vs → Rep G H (.tup l) (.ref a)
  | lst {l : List PV} {a : Addr} {vs : List V} : SqL G.K H a vs → Reps G H l vs → Rep G H (.lst l) (.ref a)
  | obj {c : Nat} {fs : List (Str × PV)} {a dx : Addr} {vfs : List (Str × V)} : H a = some (.ins (G.cm c) dx vfs) → RepF G H fs vfs → Rep G H (.obj c fs) (.ref a)
  | cls (c : Nat) : Rep G H (.cls c) (.ref (G.cm c))
  | typ (n : String) : Rep G H (.typ n) (.ty n)
inductive Reps (G : Gb) (H : Hp) : List PV → List V → Prop
  | nil : Reps G H [] []
  | cons {p : PV} {v : V} {l : List PV} {vs : List V} : Rep G H p v → Reps G H l vs → Reps G H (p :: l) (v :: vs)
inductive RepF (G : Gb) (H : Hp) : List (Str × PV) → List (Str × V) → Prop
  | nil : RepF G H [] []
  | cons {f : Str} {p : PV} {v : V} {l : List (Str × PV)} {vs : List (Str × V)} : Rep G H p v → RepF G H l vs → RepF G H ((f, p) :: l) ((f, v) :: vs)
end
section
variable {G : Gb} {H H' : Hp}
mutual
theorem Rep.mono (s : Same H H') : ∀ {p : PV} {v : V}, Rep G H p v → Rep G H' p v
  | _, _, .non => .non
  | _, _, .bl b => .bl b
  | _, _, .int i => .int i
  | _, _, .str x => .str x
  | _, _, .fr h => .fr (s _ _ h)
  | _, _, .tup h r => .tup (Bp.seqT s h) (Reps.mono s r)
  | _, _, .lst h r => .lst (s.seq h) (Reps.mono s r)
  | _, _, .obj h r => .obj (s _ _ h) (RepF.mono s r)
  | _, _, .cls c => .cls c
  | _, _, .typ n => .typ n
theorem Reps.mono (s : Same H H') : ∀ {l : List PV} {vs : List V}, Reps G H l vs → Reps G H' l vs
  | _, _, .nil => .nil
  | _, _, .cons h r => .cons (Rep.mono s h) (Reps.mono s r)
theorem RepF.mono (s : Same H H') : ∀ {l : List (Str × PV)} {vs : List (Str × V)}, RepF G H l vs → RepF G H' l vs
  | _, _, .nil => .nil
  | _, _, .cons h r => .cons (Rep.mono s h) (RepF.mono s r)
end
theorem Reps.length : ∀ {l : List PV} {vs : List V}, Reps G H l vs → l.length = vs.length
  | _, _, .nil => rfl
  | _, _, .cons _ r => by simp [Reps.length r]
theorem Reps.get : ∀ {l : List PV} {vs : List V} {i : Nat} {p : PV}, Reps G H l vs → l[i]? = some p → ∃ v, vs[i]? = some v ∧ Rep G H p v
  | _, _, i, p, .nil, e => by simp at e
  | _, _, 0, p, .cons (v := v) h _, e => ⟨v, rfl, by cases (Option.some.inj (show some _ = some p from e)); exact h⟩
  | _, _, i + 1, p, .cons _ r, e => Reps.get (i := i) r e
theorem Reps.get' : ∀ {l : List PV} {vs : List V} {i : Nat} {v : V}, Reps G H l vs → vs[i]? = some v → ∃ p, l[i]? = some p ∧ Rep G H p v
  | _, _, i, p, .nil, e => by simp at e
  | _, _, 0, v, .cons (p := p) h _, e => ⟨p, rfl, by cases (Option.some.inj (show some _ = some v from e)); exact h⟩
  | _, _, i + 1, p, .cons _ r, e => Reps.get' (i := i) r e
theorem Reps.append : ∀ {l m : List PV} {vs ws : List V}, Reps G H l vs → Reps G H m ws → Reps G H (l ++ m) (vs ++ ws)
  | _, _, _, _, .nil, s => s
  | _, _, _, _, .cons h r, s => .cons h (Reps.append r s)
theorem Reps.take : ∀ {l : List PV} {vs : List V} (n : Nat), Reps G H l vs → Reps G H (l.take n) (vs.take n)
  | _, _, 0, _ => .nil
  | _, _, _ + 1, .nil => .nil
  | _, _, n + 1, .cons h r => .cons h (Reps.take n r)
theorem Reps.drop : ∀ {l : List PV} {vs : List V} (n : Nat), Reps G H l vs → Reps G H (l.drop n) (vs.drop n)
  | _, _, 0, r => r
  | _, _, _ + 1, .nil => .nil
  | _, _, n + 1, .cons _ r => Reps.drop n r
theorem Reps.set {p : PV} {v : V} (h : Rep G H p v) : ∀ {l : List PV} {vs : List V} (i : Nat), Reps G H l vs → Reps G H (l.set i p) (vs.set i v)
  | _, _, _, .nil => .nil
  | _, _, 0, .cons _ t => .cons h t
  | _, _, i + 1, .cons q t => .cons q (Reps.set h i t)
theorem RepF.length : ∀ {l : List (Str × PV)} {vs : List (Str × V)}, RepF G H l vs → l.length = vs.length
  | _, _, .nil => rfl
  | _, _, .cons _ r => by simp [RepF.length r]
theorem RepF.lookup {f : Str} {p : PV} : ∀ {l : List (Str × PV)} {vs : List (Str × V)}, RepF G H l vs → l.lookup f = some p → ∃ v, vs.lookup f = some v ∧ Rep G H p v
  | _, _, .nil, e => by simp at e
  | _, _, .cons (f := g) (v := v) (p := q) h r, e => by
    by_cases hg : f == g
    · refine ⟨v, by simp [List.lookup, hg], ?_⟩
      simp only [List.lookup, hg, Option.some.injEq] at e
      exact e ▸ h
    · have hg' : (f == g) = false := by simpa using hg
      simp only [List.lookup, hg'] at e
      obtain ⟨w, e1, e2⟩ := RepF.lookup r e
      exact ⟨w, by simp only [List.lookup, hg', e1], e2⟩
theorem RepF.lookup_none {f : Str} : ∀ {l : List (Str × PV)} {vs : List (Str × V)}, RepF G H l vs → l.lookup f = none → vs.lookup f = none
  | _, _, .nil, e => rfl
  | _, _, .cons (f := g) h r, e => by
    by_cases hg : f == g
    · simp only [List.lookup, hg] at e
      cases e
    · have hg' : (f == g) = false := by simpa using hg
      simp only [List.lookup, hg'] at e ⊢
      exact RepF.lookup_none r e
def putP (f : Str) (p : PV) : List (Str × PV) → List (Str × PV)
  | [] => [(f, p)]
  | (g, x) :: r => if g = f then (g, p) :: r else (g, x) :: putP f p r
theorem RepF.put {f : Str} {p : PV} {v : V} (h : Rep G H p v) : ∀ {l : List (Str × PV)} {vs : List (Str × V)}, RepF G H l vs → RepF G H (putP f p l) (putF f v vs)
  | _, _, .nil => .cons h .nil
  | _, _, .cons (f := g) q r => by
    unfold putP putF
    by_cases e : g = f
    · rw [if_pos e, if_pos e]
      exact .cons h r
    · rw [if_neg e, if_neg e]
      exact .cons q (RepF.put h r)
/-! inversions -/
theorem Rep.of_int {i : Int} {v : V} (h : Rep G H (.int i) v) : v = .int i := by cases h; rfl
theorem Rep.of_bl {b : Bool} {v : V} (h : Rep G H (.bl b) v) : v = .bl b := by cases h; rfl
theorem Rep.of_str {x : Str} {v : V} (h : Rep G H (.str x) v) : v = .str x := by cases h; rfl
theorem Rep.of_non {v : V} (h : Rep G H .non v) : v = .non := by cases h; rfl
theorem Rep.of_cls {c : Nat} {v : V} (h : Rep G H (.cls c) v) : v = .ref (G.cm c) := by cases h; rfl
theorem Rep.of_fr {r : Rat} {v : V} (h : Rep G H (.fr r) v) : ∃ a dx, v = .ref a ∧ H a = some (.ins G.C dx (frF r)) := by cases h with | fr h => exact ⟨_, _, rfl, h⟩
theorem Rep.of_tup {l : List PV} {v : V} (h : Rep G H (.tup l) v) : ∃ a vs, v = .ref a ∧ SqT G.K H a vs ∧ Reps G H l vs := by cases h with | tup h r => exact ⟨_, _, rfl, h, r⟩
theorem Rep.of_lst {l : List PV} {v : V} (h : Rep G H (.lst l) v) : ∃ a vs, v = .ref a ∧ SqL G.K H a vs ∧ Reps G H l vs := by cases h with | lst h r => exact ⟨_, _, rfl, h, r⟩
theorem Rep.of_obj {c : Nat} {fs : List (Str × PV)} {v : V} (h : Rep G H (.obj c fs) v) : ∃ a dx vfs, v = .ref a ∧ H a = some (.ins (G.cm c) dx vfs) ∧ RepF G H fs vfs := by cases h with | obj h r => exact ⟨_, _, _, rfl, h, r⟩
end

/-! ### how the heap grows: frozen part and whole -/
structure Gr (Hf H Hf' H' : Hp) : Prop where
  fz : Same Hf Hf'
  hp : Same H H'
  sub : Same Hf' H'
  new : ∀ a o, Hf' a = some o → Hf a = some o ∨ H a = none
theorem Same.rfl' (H : Hp) : Same H H := fun _ _ h => h
theorem none_back {H H' : Hp} (s : Same H H') {a : Addr} (h : H' a = none) : H a = none := by
  cases e : H a with
  | none => rfl
  | some o => rw [s a o e] at h; cases h
theorem Gr.refl {Hf H : Hp} (s : Same Hf H) : Gr Hf H Hf H := ⟨fun _ _ h => h, fun _ _ h => h, s, fun _ _ h => .inl h⟩
theorem Gr.trans {A B C D E F : Hp} (x : Gr A B C D) (y : Gr C D E F) : Gr A B E F := ⟨x.fz.trans y.fz, x.hp.trans y.hp, y.sub, fun a o h => (y.new a o h).elim (fun h => x.new a o h) fun h => .inr (none_back x.hp h)⟩
/-- the heap alone grew -/
theorem Gr.up {Hf H H' : Hp} (s : Same Hf H) (h : Same H H') : Gr Hf H Hf H' := ⟨fun _ _ h => h, h, s.trans h, fun _ _ h => .inl h⟩
/-- a new object, frozen at once -/
theorem Gr.one {Hf H : Hp} {a : Addr} {o : HO} (s : Same Hf H) (n : H a = none) : Gr Hf H (upd Hf a o) (upd H a o) := by
  have nf : Hf a = none := none_back s n
  refine ⟨Same.new nf, Same.new n, fun b u h => ?_, fun b u h => ?_⟩
  · by_cases e : b = a
    · subst e
      rw [upd_same] at h ⊢
      exact h
    · rw [upd_ne e] at h ⊢
      exact s _ _ h
  · by_cases e : b = a
    · subst e
      exact .inr n
    · rw [upd_ne e] at h
      exact .inl h
/-- an object of the heap that is not frozen, frozen -/
theorem Gr.frz {Hf0 H0 Hf H : Hp} {a : Addr} {o : HO} (g : Gr Hf0 H0 Hf H) (n0 : H0 a = none) (nf : Hf a = none) (h : H a = some o) : Gr Hf0 H0 (upd Hf a o) H := by
  refine ⟨g.fz.trans (Same.new nf), g.hp, fun b u hb => ?_, fun b u hb => ?_⟩
  · by_cases e : b = a
    · subst e
      rw [upd_same] at hb
      rw [← hb]
      exact h
    · rw [upd_ne e] at hb
      exact g.sub _ _ hb
  · by_cases e : b = a
    · subst e
      exact .inr n0
    · rw [upd_ne e] at hb
      exact g.new _ _ hb

/-! ### slots on the heap -/
def ErD (G : Gb) (Hf H : Hp) (fs : List (Str × PV)) (d : Option Addr) : Prop := match fs with
  | [] => d = none
  | _ :: _ => ∃ a vfs, d = some a ∧ H a = some (.xd vfs) ∧ RepF G Hf fs vfs
def SlOk (G : Ga) (H0 Hf H : Hp) (s : Sl) (o : Option (Option V)) : Prop := match s with
  | .no => True
  | .val p => ∃ v, o = some (some v) ∧ Rep G Hf p v
  | .own l => ∃ a vs, o = some (some (.ref a)) ∧ H0 a = none ∧ Hf a = none ∧ H a = some (.lst vs) ∧ Reps G Hf l vs
  | .slf c fs => ∃ a, o = some (some (.ref a)) ∧ (∀ b, G.sa = some b → a = b) ∧ Rep G Hf (.obj c fs) (.ref a)
  | .oob c fs => ∃ a dx vfs, o = some (some (.ref a)) ∧ (∀ b, G.sa = some b → a = b) ∧ H0 a = none ∧ Hf a = none ∧ H a = some (.ins (G.cm c) dx vfs) ∧ RepF G Hf fs vfs
  | .exc c fs => ∃ a d, o = some (some (.ref a)) ∧ G.xi = some (a, .ref (G.cm c), d) ∧ ErD G Hf H fs d
def Env.at (e : Env) (i : Nat) : Sl := e.getD i .no
structure EnvOk (G : Ga) (H0 Hf H : Hp) (env : Env) (σ : L2.St) : Prop where
  len : env.length = σ.length
  get : ∀ i, SlOk G H0 Hf H (env.at i) σ[i]?
  dis : ∀ i j a, (env.at i).isOwn = true → (env.at j).isOwn = true → σ[i]? = some (some (.ref a)) → σ[j]? = some (some (.ref a)) → i = j
section
variable {G : Ga} {H0 Hf H Hf' H' : Hp} {env : Env} {σ : L2.St}
theorem ErD.grow {G : Gb} {fs : List (Str × PV)} {d : Option Addr} (h : ErD G Hf H fs d) (s1 : Same Hf Hf') (s2 : Same H H') : ErD G Hf' H' fs d := by
  cases fs with
  | nil => exact h
  | cons x r =>
    obtain ⟨a, vfs, e, ha, hr⟩ := h
    exact ⟨a, vfs, e, s2 _ _ ha, hr.mono s1⟩
theorem SlOk.grow {s : Sl} {o : Option (Option V)} (h : SlOk G H0 Hf H s o) (g : Gr Hf H Hf' H') : SlOk G H0 Hf' H' s o := by
  have away : ∀ {a : Addr} {u : HO}, Hf a = none → H a = some u → Hf' a = none := fun {a u} h1 h2 => by
    cases e : Hf' a with
    | none => rfl
    | some w =>
      rcases g.new a w e with q | q
      · rw [h1] at q; cases q
      · rw [h2] at q; cases q
  cases s with
  | no => trivial
  | val p =>
    obtain ⟨v, e, r⟩ := h
    exact ⟨v, e, r.mono g.fz⟩
  | own l =>
    obtain ⟨a, vs, e, h0, hf, hh, r⟩ := h
    exact ⟨a, vs, e, h0, away hf hh, g.hp _ _ hh, r.mono g.fz⟩
  | oob c fs =>
    obtain ⟨a, dx, vfs, e, z, h0, hf, hh, r⟩ := h
    exact ⟨a, dx, vfs, e, z, h0, away hf hh, g.hp _ _ hh, r.mono g.fz⟩
  | slf c fs =>
    obtain ⟨a, e, z, r⟩ := h
    exact ⟨a, e, z, r.mono g.fz⟩
  | exc c fs =>
    obtain ⟨a, d, e, x, r⟩ := h
    exact ⟨a, d, e, x, r.grow g.fz g.hp⟩
theorem EnvOk.grow (h : EnvOk G H0 Hf H env σ) (g : Gr Hf H Hf' H') : EnvOk G H0 Hf' H' env σ := ⟨h.len, fun i => (h.get i).grow g, h.dis⟩
theorem Env.at_set {e : Env} {i j : Nat} {s : Sl} : Env.at (e.set i s) j = if i = j ∧ j < e.length then s else e.at j := by
  unfold Env.at
  rw [List.getD_eq_getElem?_getD, List.getD_eq_getElem?_getD, List.getElem?_set]
  by_cases h : i = j
  · subst h
    by_cases h2 : i < e.length
    · simp [h2]
    · have : e[i]? = none := by simp; omega
      simp [h2, this]
  · simp [h]
/-- a slot is stored -/
theorem EnvOk.set {i : Nat} {s : Sl} {v : V} (h : EnvOk G H0 Hf H env σ) (hs : SlOk G H0 Hf H s (some (some v)))
    (fresh : s.isOwn = true → ∀ j, j ≠ i → (env.at j).isOwn = true → σ[j]? ≠ some (some v)) : EnvOk G H0 Hf H (env.set i s) (σ.set i (some v)) := by
  refine ⟨by simp [h.len], fun j => ?_, fun j k a hj hk ej ek => ?_⟩
  · rw [Env.at_set]
    by_cases e : i = j ∧ j < env.length
    · obtain ⟨rfl, l⟩ := e
      rw [if_pos ⟨rfl, l⟩, List.getElem?_set, if_pos rfl, if_pos (by rw [← h.len]; exact l)]
      exact hs
    · rw [if_neg e, List.getElem?_set]
      by_cases e2 : i = j
      · subst e2
        have l : ¬ i < σ.length := fun z => e ⟨rfl, by rw [h.len]; exact z⟩
        rw [if_pos rfl, if_neg l]
        have q := h.get i
        have : env.at i = .no := by
          unfold Env.at
          rw [List.getD_eq_getElem?_getD, List.getElem?_eq_none (by rw [h.len]; omega)]
          rfl
        rw [this]
        trivial
      · rw [if_neg e2]
        exact h.get j
  · rw [Env.at_set] at hj hk
    rw [List.getElem?_set] at ej ek
    by_cases e1 : i = j
    · by_cases e2 : i = k
      · omega
      · subst e1
        rw [if_neg e2] at ek
        rw [if_neg (fun z => e2 z.1)] at hk
        by_cases l : i < σ.length
        · rw [if_pos rfl, if_pos l] at ej
          rw [if_pos ⟨rfl, by rw [h.len]; exact l⟩] at hj
          cases ej
          exact absurd ek (fresh hj k (fun z => e2 z.symm) hk)
        · rw [if_pos rfl, if_neg l] at ej
          cases ej
    · rw [if_neg e1] at ej
      rw [if_neg (fun z => e1 z.1)] at hj
      by_cases e2 : i = k
      · subst e2
        by_cases l : i < σ.length
        · rw [if_pos rfl, if_pos l] at ek
          rw [if_pos ⟨rfl, by rw [h.len]; exact l⟩] at hk
          cases ek
          exact absurd ej (fresh hk j (fun z => e1 z.symm) hj)
        · rw [if_pos rfl, if_neg l] at ek
          cases ek
      · rw [if_neg e2] at ek
        rw [if_neg (fun z => e2 z.1)] at hk
        exact h.dis j k a hj hk ej ek
theorem EnvOk.setV {i : Nat} {p : PV} {v : V} (h : EnvOk G H0 Hf H env σ) (r : Rep G Hf p v) : EnvOk G H0 Hf H (env.set i (.val p)) (σ.set i (some v)) := h.set ⟨v, rfl, r⟩ fun z => nomatch z
/-- the slots forget -/
theorem EnvOk.forget {i : Nat} (h : EnvOk G H0 Hf H env σ) : EnvOk G H0 Hf H (env.set i .no) σ := by
  have at' : ∀ j, Env.at (env.set i .no) j = env.at j ∨ Env.at (env.set i .no) j = .no := fun j => by
    rw [Env.at_set]
    by_cases e : i = j ∧ j < env.length
    · rw [if_pos e]; exact .inr rfl
    · rw [if_neg e]; exact .inl rfl
  refine ⟨by simp [h.len], fun j => ?_, fun j k a hj hk => ?_⟩
  · rcases at' j with e | e
    · rw [e]; exact h.get j
    · rw [e]; trivial
  · rcases at' j with e | e
    · rcases at' k with e' | e'
      · rw [e] at hj; rw [e'] at hk; exact h.dis j k a hj hk
      · rw [e'] at hk; cases hk
    · rw [e] at hj; cases hj
theorem EnvOk.val {i : Nat} {p : PV} (h : EnvOk G H0 Hf H env σ) (e : env.at i = .val p) : ∃ v, σ[i]? = some (some v) ∧ Rep G Hf p v := by
  have q := h.get i
  rw [e] at q
  exact q
end

/-! ### what is wanted behind an expression -/
def PostG (G : Gb) (W : WX) {α β : Type} (Rl : Hp → α → β → Prop) (Hf H : Hp) (σ : L2.St) (r : R α) (Q : β → Hp → Prop) : Prop := match r with
  | .ok a => ∀ v Hf' H', Gr Hf H Hf' H' → Rl Hf' a v → Q v H'
  | .er c fs => ∀ Hf' H' d, Gr Hf H Hf' H' → ErD G Hf' H' fs d → W (.ref (G.cm c)) d σ H'
  | .bad => False
abbrev Post (G : Gb) (W : WX) (Hf H : Hp) (σ : L2.St) (r : R PV) (Q : VK) : Prop := PostG G W (fun Hf p v => Rep G Hf p v) Hf H σ r Q
abbrev PostL (G : Gb) (W : WX) (Hf H : Hp) (σ : L2.St) (r : R (List PV)) (Q : List V → Hp → Prop) : Prop := PostG G W (fun Hf p v => Reps G Hf p v) Hf H σ r Q
abbrev PostT (G : Gb) (W : WX) (Hf H : Hp) (σ : L2.St) (r : R Bool) (Q : Bool → Hp → Prop) : Prop := PostG G W (fun _ a b => b = a) Hf H σ r Q
section
variable {G : Gb} {W : WX} {α β γ δ : Type} {Rl : Hp → α → β → Prop} {Rm : Hp → γ → δ → Prop} {H0 Hf H Hf' H' : Hp} {σ : L2.St}
theorem PostG.grow {r : R α} {Q : β → Hp → Prop} (h : PostG G W Rl Hf H σ r Q) (g : Gr Hf H Hf' H') : PostG G W Rl Hf' H' σ r Q := by
  cases r with
  | ok a => exact fun v A B g2 rr => h v A B (g.trans g2) rr
  | er c fs => exact fun A B d g2 e => h A B d (g.trans g2) e
  | bad => exact h
theorem PostG.bind {r : R γ} {k : γ → R α} {Q : β → Hp → Prop} {Q' : δ → Hp → Prop} (h : PostG G W Rl Hf H σ (r.bind k) Q)
    (c : ∀ a v Hf' H', r = .ok a → Gr Hf H Hf' H' → Rm Hf' a v → PostG G W Rl Hf' H' σ (k a) Q → Q' v H') : PostG G W Rm Hf H σ r Q' := by
  cases r with
  | ok a => exact fun v A B g rr => c a v A B rfl g rr (PostG.grow h g)
  | er c fs => exact h
  | bad => exact h
theorem PostG.okI {a : α} {v : β} {Q : β → Hp → Prop} (h : PostG G W Rl Hf H σ (.ok a) Q) (g : Gr Hf H Hf' H') (r : Rl Hf' a v) : Q v H' := h v Hf' H' g r
end

/-! ### readings of expressions -/
def TJ (G : Ga) (W : WX) (te : TE) (d : Env → R PV) : Prop := ∀ (H0 Hf H : Hp) (env : Env) (σ : L2.St) (Q : VK), Same Hf H → EnvOk G H0 Hf H env σ → Post G W Hf H σ (d env) Q → te σ H Q
def TJA (G : Ga) (W : WX) (ta : TA) (d : Env → R (List PV)) : Prop := ∀ (H0 Hf H : Hp) (env : Env) (σ : L2.St) (Q : List V → Hp → Prop), Same Hf H → EnvOk G H0 Hf H env σ → PostL G W Hf H σ (d env) Q → ta σ H Q
def TJT (G : Ga) (W : WX) (tt : TT) (d : Env → R Bool) : Prop := ∀ (H0 Hf H : Hp) (env : Env) (σ : L2.St) (Q : Bool → Hp → Prop), Same Hf H → EnvOk G H0 Hf H env σ → PostT G W Hf H σ (d env) Q → tt σ H Q
structure JE (G : Ga) (X : Cx) (W : WX) (e : Expr) (d : Env → R PV) : Prop where
  ex : ∃ te, PE X e te ∧ TJ G W te d
structure JA (G : Ga) (X : Cx) (W : WX) (es : List Expr) (d : Env → R (List PV)) : Prop where
  ex : ∃ ta, PA X es ta ∧ TJA G W ta d
structure JT (G : Ga) (X : Cx) (W : WX) (e : Expr) (d : Env → R Bool) : Prop where
  ex : ∃ tt, PT X e tt ∧ TJT G W tt d
structure JW (G : Ga) (X : Cx) (W : WX) (e : Expr) (d : Env → R Bool) : Prop where
  ex : ∃ tt, PW X e tt ∧ TJT G W tt d
/-! ### readings of statements -/
structure StOk (G : Ga) (Hf0 H0 Hf H : Hp) (env : Env) (σ : L2.St) : Prop where
  gr : Gr Hf0 H0 Hf H
  env : EnvOk G H0 Hf H env σ
def PostS (G : Ga) (W : WX) (D : Ends) (Hf0 H0 Hf : Hp) (f : F) : Prop := match f with
  | .nx e => ∀ σ' Hf' H', StOk G Hf0 H0 Hf' H' e σ' → Same Hf Hf' → D.nx σ' H'
  | .ct e => ∀ σ' Hf' H', StOk G Hf0 H0 Hf' H' e σ' → Same Hf Hf' → D.ct σ' H'
  | .bk e => ∀ σ' Hf' H', StOk G Hf0 H0 Hf' H' e σ' → Same Hf Hf' → D.bk σ' H'
  | .rt p => ∀ v Hf' H', Gr Hf0 H0 Hf' H' → Same Hf Hf' → Rep G Hf' p v → D.rt v H'
  | .er e c fs => ∀ σ' Hf' H' d, StOk G Hf0 H0 Hf' H' e σ' → Same Hf Hf' → ErD G Hf' H' fs d → W (.ref (G.cm c)) d σ' H'
  | .bad => False
def TSJ (G : Ga) (W : WX) (ts : TS) (d : Env → F) : Prop := ∀ (Hf0 H0 Hf H : Hp) (env : Env) (σ : L2.St) (D : Ends), StOk G Hf0 H0 Hf H env σ → PostS G W D Hf0 H0 Hf (d env) → ts D σ H
structure JS (G : Ga) (X : Cx) (W : WX) (st : Stmt) (d : Env → F) : Prop where
  ex : ∃ ts, PS X st ts ∧ TSJ G W ts d
structure JSs (G : Ga) (X : Cx) (W : WX) (st : List Stmt) (d : Env → F) : Prop where
  ex : ∃ ts, PSs X st ts ∧ TSJ G W ts d
section
variable {G : Ga} {W : WX} {Hf0 H0 Hf H Hf' H' : Hp} {env : Env} {σ : L2.St} {D : Ends}
theorem StOk.grow (h : StOk G Hf0 H0 Hf H env σ) (g : Gr Hf H Hf' H') : StOk G Hf0 H0 Hf' H' env σ := ⟨h.gr.trans g, h.env.grow g⟩
theorem PostS.step {f : F} (h : PostS G W D Hf0 H0 Hf f) (s : Same Hf Hf') : PostS G W D Hf0 H0 Hf' f := by
  cases f with
  | nx e => exact fun a b c x y => h a b c x (s.trans y)
  | ct e => exact fun a b c x y => h a b c x (s.trans y)
  | bk e => exact fun a b c x y => h a b c x (s.trans y)
  | rt p => exact fun a b c x y z => h a b c x (s.trans y) z
  | er e c fs => exact fun a b c d x y z => h a b c d x (s.trans y) z
  | bad => exact h
end
end J

namespace J
open PySem.Spec PySem PyProof.Rows
open L2 hiding St Takes XE CX takes_of PMk MkP ps_raise mk_of ps_try_as ps_try_many pmk_own passAt passes_call takes0 passL
open L2N hiding St
open Bp (OpS R2S tOpS pe_opS pe_cmpS pt_cmpS)

/-! ### bounds -/
structure Bd (n : Nat) (i : Int) : Prop where
  lt : i.natAbs < 2 ^ n
theorem Bd.log {n : Nat} {i : Int} (h : Bd n i) (hn : 0 < n) : i.natAbs.log2 < n := PySem.Flt.log2_lt_of hn h.lt
theorem Bd.mono {n m : Nat} {i : Int} (h : Bd n i) (l : n ≤ m) : Bd m i := ⟨Nat.lt_of_lt_of_le h.lt (Nat.pow_le_pow_right (by decide) l)⟩
noncomputable instance (n : Nat) (i : Int) : Decidable (Bd n i) := Classical.propDecidable _

section
variable {G : Ga} {X : Cx} {W : WX} {α β : Type} {Rl : Hp → α → β → Prop} {H0 Hf H Hf' H' : Hp} {env : Env} {σ : L2.St} {i : Nat} {x : Str} {pos : Pos} {e a b c : Expr} {d da db dc : Env → R PV} {es : List Expr}
/-! ### names, constants -/
def rdV (i : Nat) (env : Env) : R PV := match env.at i with | .val p => .ok p | .slf c fs => .ok (.obj c fs) | _ => .bad
theorem je_var {pos : Pos} (i : Nat) (hN : X.N[i]? = some x := by rfl) (hv : Vis X.env.scope x := by first | exact Or.inl rfl | exact Or.inr (Or.inl rfl) | exact Or.inr (Or.inr rfl)) (hd : (x == ("__debug__" : Str)) = false := by decide) (hcd : (x == ("__classdict__" : Str)) = false := by decide) :
    JE G X W (.Name x pos) (rdV i) := ⟨_, pe_var hN hv hd hcd, fun H0 Hf H env σ Q s E h => by
  unfold rdV at h
  cases e : env.at i with
  | val p =>
    rw [e] at h
    obtain ⟨v, ev, r⟩ := E.val e
    exact ⟨v, ev, h v Hf H (Gr.refl s) r⟩
  | slf c fs =>
    rw [e] at h
    have q := E.get i
    rw [e] at q
    obtain ⟨a, ea, _, r⟩ := q
    exact ⟨_, ea, h _ Hf H (Gr.refl s) r⟩
  | _ => rw [e] at h; exact h.elim⟩
theorem je_const {v : V} {p : PV} (h : PE X e (tC v)) (r : ∀ Hf, Rep G Hf p v) : JE G X W e (fun _ => .ok p) := ⟨_, h, fun H0 Hf H env σ Q s E k => k v Hf H (Gr.refl s) (r Hf)⟩
theorem je_int {i j pos} : JE G X W (.Constant (.int i) j pos) (fun _ => .ok (.int i)) := je_const pe_int fun _ => .int i
theorem je_bl {b j pos} : JE G X W (.Constant (.bool b) j pos) (fun _ => .ok (.bl b)) := je_const pe_bl fun _ => .bl b
theorem je_non {j pos} : JE G X W (.Constant .none j pos) (fun _ => .ok .non) := je_const pe_non fun _ => .non
theorem je_str {x j pos} : JE G X W (.Constant (.str x) j pos) (fun _ => .ok (.str x)) := je_const pe_str fun _ => .str x
theorem je_glob {x : Str} {v : V} {u : Value} {p : PV} {pos : Pos} (hm : X.mg x = some u) (r : RelV v u) (rp : ∀ Hf, Rep G Hf p v) (hg : Gl X x := by rfl) (hd : (x == ("__debug__" : Str)) = false := by decide) : JE G X W (.Name x pos) (fun _ => .ok p) := je_const (pe_glob hg hm r hd) rp
/-! ### two operands -/
def OpJ (G : Gb) (X : Cx) (W : WX) (g : Value → Value → Sem Value) (f : PV → PV → R PV) : Prop :=
  ∃ r : R2S, OpS X g r ∧ ∀ (Hf H : Hp) (σ : L2.St) (x y : V) (a b : PV) (Q : VK), Same Hf H → Rep G Hf a x → Rep G Hf b y → Post G W Hf H σ (f a b) Q → r σ x y H Q
def alt (f g : PV → PV → R PV) (a b : PV) : R PV := match f a b with | .bad => g a b | .ok p => .ok p | .er c fs => .er c fs
theorem OpJ.alt {G : Gb} {g : Value → Value → Sem Value} {f f' : PV → PV → R PV} (h : OpJ G X W g f) (h' : OpJ G X W g f') : OpJ G X W g (alt f f') := by
  obtain ⟨r, o, k⟩ := h
  obtain ⟨r', o', k'⟩ := h'
  refine ⟨_, o.or o', fun Hf H σ x y a b Q s ra rb q => ?_⟩
  unfold J.alt at q
  cases e : f a b with
  | bad => rw [e] at q; exact .inr (k' Hf H σ x y a b Q s ra rb q)
  | ok p => rw [e] at q; exact .inl (k Hf H σ x y a b Q s ra rb (by rw [e]; exact q))
  | er c fs => rw [e] at q; exact .inl (k Hf H σ x y a b Q s ra rb (by rw [e]; exact q))
def bin2 (f : PV → PV → R PV) (da db : Env → R PV) (env : Env) : R PV := (da env).bind fun a => (db env).bind fun b => f a b
theorem tj_bin {ta tb : TE} {r : R2S} {f : PV → PV → R PV} (ha : TJ G W ta da) (hb : TJ G W tb db) (k : ∀ (Hf H : Hp) (σ : L2.St) (x y : V) (a b : PV) (Q : VK), Same Hf H → Rep G Hf a x → Rep G Hf b y → Post G W Hf H σ (f a b) Q → r σ x y H Q) :
    TJ G W (tOpS r ta tb) (bin2 f da db) := fun H0 Hf H env σ Q s E h => by
  refine ha H0 Hf H env σ _ s E (PostG.bind h fun a x Hf1 H1 _ g1 r1 h1 => ?_)
  refine hb H0 Hf1 H1 env σ _ g1.sub (E.grow g1) (PostG.bind h1 fun b y Hf2 H2 _ g2 r2 h2 => ?_)
  exact k Hf2 H2 σ x y a b Q g2.sub (r1.mono g2.fz) r2 h2
theorem je_op {op : Operator} {f : PV → PV → R PV} (ho : OpJ G X W (binaryOp op) f) (ha : JE G X W a da) (hb : JE G X W b db) : JE G X W (.BinOp a op b pos) (bin2 f da db) := by
  obtain ⟨r, o, k⟩ := ho
  obtain ⟨ta, pa, ja⟩ := ha
  obtain ⟨tb, pb, jb⟩ := hb
  exact ⟨_, pe_opS o pa pb, tj_bin ja jb k⟩
theorem je_cmp {op : CmpOp} {f : PV → PV → R PV} (ho : OpJ G X W (compareOp op) f) (ha : JE G X W a da) (hb : JE G X W b db) (hm : behindInMarks op b = false := by first | exact nomark _ | rfl) : JE G X W (.Compare a [op] [b] pos) (bin2 f da db) := by
  obtain ⟨r, o, k⟩ := ho
  obtain ⟨ta, pa, ja⟩ := ha
  obtain ⟨tb, pb, jb⟩ := hb
  exact ⟨_, pe_cmpS o pa pb hm, tj_bin ja jb k⟩
/-! ### tests -/
def asB (p : PV) : R Bool := match p with | .bl b => .ok b | _ => .bad
def toB (d : Env → R PV) (env : Env) : R Bool := (d env).bind asB
theorem asB_bl {G : Gb} {p : PV} {Q : Bool → Hp → Prop} {v : V} (r : Rep G Hf p v) (s : Same Hf H) (h : PostT G W Hf H σ (asB p) Q) : ∃ k, v = .bl k ∧ Q k H := by
  cases r with
  | bl b => exact ⟨b, rfl, h b Hf H (Gr.refl s) rfl⟩
  | _ => exact h.elim
theorem jt_cmp {op : CmpOp} {f : PV → PV → R PV} (ho : OpJ G X W (compareOp op) f) (ha : JE G X W a da) (hb : JE G X W b db) (hm : behindInMarks op b = false := by first | exact nomark _ | rfl) : JT G X W (.Compare a [op] [b] pos) (toB (bin2 f da db)) := by
  obtain ⟨r, o, k⟩ := ho
  obtain ⟨ta, pa, ja⟩ := ha
  obtain ⟨tb, pb, jb⟩ := hb
  refine ⟨_, pt_cmpS o pa pb hm, fun H0 Hf H env σ Q s E h => tj_bin ja jb k H0 Hf H env σ _ s E (PostG.bind h fun p v Hf1 H1 _ g1 r1 h1 => asB_bl r1 g1.sub h1)⟩
theorem jt_val (h : JE G X W e d) (he : ∀ whole, isTrue e X.env whole = (do let v ← whole; standAt e.pos; holding [v] (truthy v)) := by intro _; rfl) : JT G X W e (toB d) := by
  obtain ⟨te, pe, je⟩ := h
  exact ⟨_, pt_val pe he, fun H0 Hf H env σ Q s E h => je H0 Hf H env σ _ s E (PostG.bind h fun p v Hf1 H1 _ g1 r1 h1 => asB_bl r1 g1.sub h1)⟩
/-- the truth of None, bools, ints, lists, tuples -/
def truP (p : PV) : R Bool := match p with | .non => .ok false | .bl b => .ok b | .int i => .ok (i != 0) | .lst l => .ok (!l.isEmpty) | .tup l => .ok (!l.isEmpty) | .str x => if x.length ≤ sizeLine then .ok ((x.length : Int) != 0) else .bad | _ => .bad
theorem isEmpty_reps {G : Gb} {l : List PV} {vs : List V} (r : Reps G Hf l vs) : vs.isEmpty = l.isEmpty := by cases r <;> rfl
theorem truP_V {G : Gb} {p : PV} {Q : Bool → Hp → Prop} {v : V} (r : Rep G Hf p v) (s : Same Hf H) (h : PostT G W Hf H σ (truP p) Q) : ∃ k, TruV G.K v H k ∧ Q k H := by
  cases r with
  | non => exact ⟨_, rfl, h false Hf H (Gr.refl s) rfl⟩
  | bl b => exact ⟨_, rfl, h b Hf H (Gr.refl s) rfl⟩
  | int i => exact ⟨_, rfl, h _ Hf H (Gr.refl s) rfl⟩
  | str x =>
    unfold truP at h
    by_cases l : x.length ≤ sizeLine
    · simp only [if_pos l] at h
      exact ⟨_, ⟨l, rfl⟩, h _ Hf H (Gr.refl s) rfl⟩
    · simp only [if_neg l] at h
      exact h.elim
  | tup t r => exact ⟨_, .inr (.inl ⟨_, Bp.seqT s t, rfl⟩), h _ Hf H (Gr.refl s) (by rw [isEmpty_reps r])⟩
  | lst t r => exact ⟨_, .inl ⟨_, s.seq t, rfl⟩, h _ Hf H (Gr.refl s) (by rw [isEmpty_reps r])⟩
  | _ => exact h.elim
def toTru (d : Env → R PV) (env : Env) : R Bool := (d env).bind truP
theorem jt_tru (h : JE G X W e d) (hK : X.K = G.K) (he : ∀ whole, isTrue e X.env whole = (do let v ← whole; standAt e.pos; holding [v] (truthy v)) := by intro _; rfl) : JT G X W e (toTru d) := by
  obtain ⟨te, pe, je⟩ := h
  exact ⟨_, pt_truth pe he, fun H0 Hf H env σ Q s E h => je H0 Hf H env σ _ s E (PostG.bind h fun p v Hf1 H1 _ g1 r1 h1 => by rw [hK]; exact truP_V r1 g1.sub h1)⟩
def notT (d : Env → R Bool) (env : Env) : R Bool := (d env).bind fun b => .ok (!b)
def andT (d u : Env → R Bool) (env : Env) : R Bool := (d env).bind fun b => if b = true then u env else .ok false
def orT (d u : Env → R Bool) (env : Env) : R Bool := (d env).bind fun b => if b = true then .ok true else u env
variable {p q : Env → R Bool} {rest : List Expr}
theorem jt_not (h : JT G X W a p) : JT G X W (.UnaryOp .Not a pos) (notT p) := by
  obtain ⟨t, pt, jt⟩ := h
  exact ⟨_, pt_not pt, fun H0 Hf H env σ Q s E h => jt H0 Hf H env σ _ s E (PostG.bind h fun b v Hf1 H1 _ g1 r1 h1 => by subst r1; exact h1 _ Hf1 H1 (Gr.refl g1.sub) rfl)⟩
theorem tj_and {t u : TT} (h : TJT G W t p) (k : TJT G W u q) : TJT G W (tAnd t u) (andT p q) := fun H0 Hf H env σ Q s E h1 =>
  h H0 Hf H env σ _ s E (PostG.bind h1 fun b v Hf1 H1 _ g1 r1 h2 => by
    subst r1
    cases v with
    | true =>
      rw [if_pos rfl] at h2
      rw [if_pos rfl]
      exact k H0 Hf1 H1 env σ Q g1.sub (E.grow g1) h2
    | false =>
      rw [if_neg Bool.false_ne_true] at h2
      rw [if_neg Bool.false_ne_true]
      exact h2 _ Hf1 H1 (Gr.refl g1.sub) rfl)
theorem tj_or {t u : TT} (h : TJT G W t p) (k : TJT G W u q) : TJT G W (tOr t u) (orT p q) := fun H0 Hf H env σ Q s E h1 =>
  h H0 Hf H env σ _ s E (PostG.bind h1 fun b v Hf1 H1 _ g1 r1 h2 => by
    subst r1
    cases v with
    | true =>
      rw [if_pos rfl] at h2
      rw [if_pos rfl]
      exact h2 _ Hf1 H1 (Gr.refl g1.sub) rfl
    | false =>
      rw [if_neg Bool.false_ne_true] at h2
      rw [if_neg Bool.false_ne_true]
      exact k H0 Hf1 H1 env σ Q g1.sub (E.grow g1) h2)
theorem jw_and1 (h : JT G X W a p) : JW G X W (.BoolOp .And [a] pos) p := let ⟨t, pt, jt⟩ := h.ex; ⟨_, pw_and1 pt, jt⟩
theorem jw_or1 (h : JT G X W a p) : JW G X W (.BoolOp .Or [a] pos) p := let ⟨t, pt, jt⟩ := h.ex; ⟨_, pw_or1 pt, jt⟩
theorem jw_and (h : JT G X W a p) (k : JW G X W (.BoolOp .And (b :: rest) pos) q) : JW G X W (.BoolOp .And (a :: b :: rest) pos) (andT p q) := let ⟨t, pt, jt⟩ := h.ex; let ⟨u, pu, ju⟩ := k.ex; ⟨_, pw_and pt pu, tj_and jt ju⟩
theorem jw_or (h : JT G X W a p) (k : JW G X W (.BoolOp .Or (b :: rest) pos) q) : JW G X W (.BoolOp .Or (a :: b :: rest) pos) (orT p q) := let ⟨t, pt, jt⟩ := h.ex; let ⟨u, pu, ju⟩ := k.ex; ⟨_, pw_or pt pu, tj_or jt ju⟩
theorem jt_w (h : JW G X W e p) : JT G X W e p := let ⟨t, pt, jt⟩ := h.ex; ⟨_, pt.pt, jt⟩
/-! and, or, not as values -/
def andV (d u : Env → R PV) (env : Env) : R PV := ((d env).bind asB).bind fun b => if b = true then u env else .ok (.bl false)
def orV (d u : Env → R PV) (env : Env) : R PV := ((d env).bind asB).bind fun b => if b = true then .ok (.bl true) else u env
def notV (d : Env → R PV) (env : Env) : R PV := ((d env).bind asB).bind fun b => .ok (.bl (!b))
theorem bindB {G : Gb} {r : R PV} {k : Bool → R PV} {Q : VK} {Q' : VK} (h : Post G W Hf H σ ((r.bind asB).bind k) Q) (c : ∀ b Hf' H', Gr Hf H Hf' H' → Post G W Hf' H' σ (k b) Q → Q' (.bl b) H') : Post G W Hf H σ r Q' := by
  cases r with
  | ok p =>
    intro v A B g rr
    cases p with
    | bl b =>
      cases rr
      exact c b A B g (PostG.grow h g)
    | _ => exact h.elim
  | er c fs => exact h
  | bad => exact h
theorem je_not (h : JE G X W a d) : JE G X W (.UnaryOp .Not a pos) (notV d) := by
  obtain ⟨t, pt, jt⟩ := h
  exact ⟨_, pe_not pt, fun H0 Hf H env σ Q s E h => jt H0 Hf H env σ _ s E (bindB h fun b Hf1 H1 g1 h1 => ⟨b, rfl, h1 _ Hf1 H1 (Gr.refl g1.sub) (.bl _)⟩)⟩
theorem je_one {op} (h : JE G X W a d) : JE G X W (.BoolOp op [a] pos) d := let ⟨t, pt, jt⟩ := h.ex; ⟨_, pe_one pt, jt⟩
theorem je_and (h : JE G X W a da) (k : JE G X W (.BoolOp .And (b :: rest) pos) db) : JE G X W (.BoolOp .And (a :: b :: rest) pos) (andV da db) := by
  obtain ⟨t, pt, jt⟩ := h
  obtain ⟨u, pu, ju⟩ := k
  refine ⟨_, pe_and pt pu, fun H0 Hf H env σ Q s E h => jt H0 Hf H env σ _ s E (bindB h fun b Hf1 H1 g1 h1 => ⟨b, rfl, ?_⟩)⟩
  cases b with
  | true => rw [if_pos rfl] at h1 ⊢; exact ju H0 Hf1 H1 env σ Q g1.sub (E.grow g1) h1
  | false => rw [if_neg Bool.false_ne_true] at h1 ⊢; exact h1 _ Hf1 H1 (Gr.refl g1.sub) (.bl _)
theorem je_or (h : JE G X W a da) (k : JE G X W (.BoolOp .Or (b :: rest) pos) db) : JE G X W (.BoolOp .Or (a :: b :: rest) pos) (orV da db) := by
  obtain ⟨t, pt, jt⟩ := h
  obtain ⟨u, pu, ju⟩ := k
  refine ⟨_, pe_or pt pu, fun H0 Hf H env σ Q s E h => jt H0 Hf H env σ _ s E (bindB h fun b Hf1 H1 g1 h1 => ⟨b, rfl, ?_⟩)⟩
  cases b with
  | true => rw [if_pos rfl] at h1 ⊢; exact h1 _ Hf1 H1 (Gr.refl g1.sub) (.bl _)
  | false => rw [if_neg Bool.false_ne_true] at h1 ⊢; exact ju H0 Hf1 H1 env σ Q g1.sub (E.grow g1) h1
def iteE (t : Env → R Bool) (d u : Env → R PV) (env : Env) : R PV := (t env).bind fun b => if b = true then d env else u env
theorem je_if (ht : JT G X W c p) (h : JE G X W a da) (k : JE G X W b db) : JE G X W (.IfExp c a b pos) (iteE p da db) := by
  obtain ⟨tt, ptt, jtt⟩ := ht
  obtain ⟨t, pt, jt⟩ := h
  obtain ⟨u, pu, ju⟩ := k
  refine ⟨_, pe_ifExp ptt pt pu, fun H0 Hf H env σ Q s E h => jtt H0 Hf H env σ _ s E (PostG.bind h fun b v Hf1 H1 _ g1 r1 h1 => ?_)⟩
  subst r1
  cases v with
  | true => rw [if_pos rfl] at h1 ⊢; exact jt H0 Hf1 H1 env σ Q g1.sub (E.grow g1) h1
  | false => rw [if_neg Bool.false_ne_true] at h1 ⊢; exact ju H0 Hf1 H1 env σ Q g1.sub (E.grow g1) h1
/-! ### one operand -/
def UnJ (G : Gb) (X : Cx) (g : Value → Sem Value) (f : PV → R PV) : Prop := ∃ r, UnR X g r ∧ ∀ (W : WX) (Hf H : Hp) (σ : L2.St) (x : V) (a : PV) (Q : VK), Same Hf H → Rep G Hf a x → Post G W Hf H σ (f a) Q → r x H Q
def un1 (f : PV → R PV) (d : Env → R PV) (env : Env) : R PV := (d env).bind f
theorem je_un {op : UnaryOp} {f : PV → R PV} (ho : UnJ G X (unaryOp op) f) (h : JE G X W a d) : JE G X W (.UnaryOp op a pos) (un1 f d) := by
  obtain ⟨r, o, k⟩ := ho
  obtain ⟨t, pt, jt⟩ := h
  exact ⟨_, pe_un o pt, fun H0 Hf H env σ Q s E h => jt H0 Hf H env σ _ s E (PostG.bind h fun p v Hf1 H1 _ g1 r1 h1 => k W Hf1 H1 σ v p Q g1.sub r1 h1)⟩
/-! ### argument lists, displays -/
def args0 (_ : Env) : R (List PV) := .ok []
def argsC (d : Env → R PV) (r : Env → R (List PV)) (env : Env) : R (List PV) := (d env).bind fun p => (r env).bind fun l => .ok (p :: l)
variable {dl : Env → R (List PV)}
theorem ja_nil : JA G X W [] args0 := ⟨_, pa_nil, fun H0 Hf H env σ Q s E h => h [] Hf H (Gr.refl s) .nil⟩
theorem ja_cons (h : JE G X W e d) (k : JA G X W es dl) (hs : starEach (e :: es) X.env = (false, eval e X.env) :: starEach es X.env := by rfl) : JA G X W (e :: es) (argsC d dl) := by
  obtain ⟨t, pt, jt⟩ := h
  obtain ⟨u, pu, ju⟩ := k
  refine ⟨_, pa_cons pt pu hs, fun H0 Hf H env σ Q s E h => jt H0 Hf H env σ _ s E (PostG.bind h fun p v Hf1 H1 _ g1 r1 h1 => ?_)⟩
  refine ju H0 Hf1 H1 env σ _ g1.sub (E.grow g1) (PostG.bind h1 fun l vs Hf2 H2 _ g2 r2 h2 => ?_)
  exact h2 (v :: vs) Hf2 H2 (Gr.refl g2.sub) (.cons (r1.mono g2.fz) r2)
def tupE (d : Env → R (List PV)) (env : Env) : R PV := (d env).bind fun l => if l.length ≤ 1000 then .ok (.tup l) else .bad
def lstE (d : Env → R (List PV)) (env : Env) : R PV := (d env).bind fun l => if l.length ≤ 1000 then .ok (.lst l) else .bad
theorem line1000 {n : Nat} (h : n ≤ 1000) : n ≤ sizeLine := Nat.le_trans h (by decide)
theorem je_tup {x1} (h : JA G X W es dl) : JE G X W (.Tuple es x1 pos) (tupE dl) := by
  obtain ⟨t, pt, jt⟩ := h
  refine ⟨_, pe_tup pt, fun H0 Hf H env σ Q s E h => jt H0 Hf H env σ _ s E (PostG.bind h fun l vs Hf1 H1 _ g1 r1 h1 => ?_)⟩
  by_cases hl : l.length ≤ 1000
  · rw [if_pos hl] at h1
    refine ⟨line1000 (r1.length ▸ hl), fun p hp => h1 _ _ _ (Gr.one (o := .tup vs) g1.sub hp) (.tup (SqT.of upd_same) (r1.mono (Same.new (none_back g1.sub hp))))⟩
  · rw [if_neg hl] at h1
    exact h1.elim
theorem je_lst (h : JA G X W es dl) : JE G X W (.List es pos) (lstE dl) := by
  obtain ⟨t, pt, jt⟩ := h
  refine ⟨_, pe_lst pt, fun H0 Hf H env σ Q s E h => jt H0 Hf H env σ _ s E (PostG.bind h fun l vs Hf1 H1 _ g1 r1 h1 => ?_)⟩
  by_cases hl : l.length ≤ 1000
  · rw [if_pos hl] at h1
    refine ⟨line1000 (r1.length ▸ hl), fun p hp => h1 _ _ _ (Gr.one (o := .lst vs) g1.sub hp) (.lst (SqL.of upd_same) (r1.mono (Same.new (none_back g1.sub hp))))⟩
  · rw [if_neg hl] at h1
    exact h1.elim
/-! ### calls of built-ins -/
def CallJ (G : Gb) (X : Cx) (g : Value) (f : List PV → R PV) : Prop := ∃ r, CallR X g r ∧ ∀ (W : WX) (Hf H : Hp) (σ : L2.St) (vs : List V) (l : List PV) (Q : VK), Same Hf H → Reps G Hf l vs → Post G W Hf H σ (f l) Q → r vs H Q
def callE (f : List PV → R PV) (d : Env → R (List PV)) (env : Env) : R PV := (d env).bind f
theorem CallJ.alt {G : Gb} {g : Value} {f f' : List PV → R PV} (h : CallJ G X g f) (h' : CallJ G X g f') : CallJ G X g (fun l => match f l with | .bad => f' l | .ok p => .ok p | .er c fs => .er c fs) := by
  obtain ⟨r, o, k⟩ := h
  obtain ⟨r', o', k'⟩ := h'
  refine ⟨fun vs H Q => r vs H Q ∨ r' vs H Q, fun pins s σ H xs us Q I rl h => h.elim (fun h => o pins s σ H xs us Q I rl h) fun h => o' pins s σ H xs us Q I rl h, fun W Hf H σ vs l Q s rl q => ?_⟩
  cases e : f l with
  | bad => simp only [e] at q; exact .inr (k' W Hf H σ vs l Q s rl q)
  | ok p => simp only [e] at q; exact .inl (k W Hf H σ vs l Q s rl (by rw [e]; exact q))
  | er c fs => simp only [e] at q; exact .inl (k W Hf H σ vs l Q s rl (by rw [e]; exact q))
variable {p0 : Pos}
theorem je_callB {id : String} {f : List PV → R PV} (hc : CallJ G X (.builtin id) f) (hm : X.mg x = none) (hv : bootBuiltins x = some (.builtin id)) (ha : JA G X W (e :: es) dl) (hg : Gl X x := by rfl) (hn : x ≠ "__name__" := by decide) (hdb : (x == ("__debug__" : Str)) = false := by decide)
    (he : starEach (e :: es) X.env = (false, eval e X.env) :: starEach es X.env := by rfl) (hpl : (backTo pos (starEach es X.env)).any (·.1) = false := by rfl) : JE G X W (.Call (.Name x p0) (e :: es) [] pos) (callE f dl) := by
  obtain ⟨r, c, k⟩ := hc
  obtain ⟨t, pt, jt⟩ := ha
  exact ⟨_, pe_callB c hg hm hv pt hn hdb he hpl, fun H0 Hf H env σ Q s E h => jt H0 Hf H env σ _ s E (PostG.bind h fun l vs Hf1 H1 _ g1 r1 h1 => k W Hf1 H1 σ vs l Q g1.sub r1 h1)⟩
theorem je_callT {T : String} {f : List PV → R PV} (hc : CallJ G X (.type T) f) (hm : X.mg x = none) (hv : bootBuiltins x = some (.type T)) (ha : JA G X W (e :: es) dl) (hg : Gl X x := by rfl) (hn : x ≠ "__name__" := by decide) (hdb : (x == ("__debug__" : Str)) = false := by decide)
    (he : starEach (e :: es) X.env = (false, eval e X.env) :: starEach es X.env := by rfl) (hpl : (backTo pos (starEach es X.env)).any (·.1) = false := by rfl) : JE G X W (.Call (.Name x p0) (e :: es) [] pos) (callE f dl) := by
  obtain ⟨r, c, k⟩ := hc
  obtain ⟨t, pt, jt⟩ := ha
  exact ⟨_, pe_callTy c hg hm hv pt hn hdb he hpl, fun H0 Hf H env σ Q s E h => jt H0 Hf H env σ _ s E (PostG.bind h fun l vs Hf1 H1 _ g1 r1 h1 => k W Hf1 H1 σ vs l Q g1.sub r1 h1)⟩
/-! ### calls of own defs -/
/-- what a def promises: f of its arguments -/
def spJ (G : Gb) (f : List PV → R PV) : Sp := fun vs H Q E => ∃ Hf l, Same Hf H ∧ Reps G Hf l vs ∧ PostG G (fun cls d _ H => E cls d H) (fun Hf p v => Rep G Hf p v) Hf H [] (f l) Q
theorem post_E {G : Gb} {E : L2.St → XK} {r : R PV} {Q : VK} (h : Post G (fun cls d σ H => E σ cls d H) Hf H σ r Q) : PostG G (fun cls d _ H => (E σ) cls d H) (fun Hf p v => Rep G Hf p v) Hf H [] r Q := by
  cases r with
  | ok p => exact h
  | er c fs => exact h
  | bad => exact h
variable {k : Nat} {ps : List Str} {f : List PV → R PV}
theorem je_call (D : Bp.Def X.prog X.w X.K X.mg X.base k x ps (spJ G f)) (hr : Room k X.A) (tk : Takes X W) (ha : JA G X W (e :: es) dl) (hg : Gl X x := by rfl) (hdb : (x == ("__debug__" : Str)) = false := by decide)
    (he : starEach (e :: es) X.env = (false, eval e X.env) :: starEach es X.env := by rfl) (hpl : (backTo pos (starEach es X.env)).any (·.1) = false := by rfl) : JE G X W (.Call (.Name x p0) (e :: es) [] pos) (callE f dl) := by
  obtain ⟨t, pt, jt⟩ := ha
  exact ⟨_, Bp.pe_callD D hr tk pt hg hdb he hpl, fun H0 Hf H env σ Q s E h => jt H0 Hf H env σ _ s E (PostG.bind h fun l vs Hf1 H1 _ g1 r1 h1 => ⟨Hf1, l, g1.sub, r1, post_E (E := WE W) h1⟩)⟩
/-- o.m(e, ..): an object of the class c without that name -/
def methE (c : Nat) (m : Str) (f : List PV → R PV) (d : Env → R PV) (dl : Env → R (List PV)) (env : Env) : R PV := (d env).bind fun o => match o with
  | .obj c' fs => if c' = c ∧ fs.lookup m = none then (dl env).bind fun l => f (.obj c' fs :: l) else .bad
  | _ => .bad
def methF (m : Str) (f : List PV → R PV) (d : Env → R PV) (dl : Env → R (List PV)) (env : Env) : R PV := (d env).bind fun o => match o with
  | .fr r => (dl env).bind fun l => f (.fr r :: l)
  | _ => .bad
theorem tj_meth {C : Addr} {c : Nat} {m : Str} {te : TE} {ta : TA} (hC : C = G.cm c) (h : TJ G W te d) (ja : TJA G W ta dl) : TJ G W (Bp.tMethS C m (spJ G f) (WE W) te ta) (methE c m f d dl) := fun H0 Hf H env σ Q s E h0 =>
  h H0 Hf H env σ _ s E (PostG.bind h0 fun o v Hf1 H1 _ g1 r1 h1 => by
    cases r1 with
    | obj ho hf =>
      rename_i c' fs a dx vfs _
      by_cases z : c' = c ∧ fs.lookup m = none
      · simp only [if_pos z] at h1
        obtain ⟨rfl, z⟩ := z
        subst hC
        refine ⟨a, dx, vfs, rfl, g1.sub _ _ ho, hf.lookup_none z, ja H0 Hf1 H1 env σ _ g1.sub (E.grow g1) (PostG.bind h1 fun l vs Hf2 H2 _ g2 r2 h2 => ?_)⟩
        exact ⟨Hf2, _, g2.sub, .cons ((Rep.obj ho hf).mono g2.fz) r2, post_E (E := WE W) h2⟩
      · simp only [if_neg z] at h1
        exact h1.elim
    | _ => exact h1.elim)
theorem frF_no (r : Rat) {m : Str} (h1 : (m == ("num" : Str)) = false) (h2 : (m == ("den" : Str)) = false) : (frF r).lookup m = none := by
  unfold frF
  simp only [List.lookup, h1, h2]
theorem tj_methF {m : Str} {te : TE} {ta : TA} (n1 : (m == ("num" : Str)) = false) (n2 : (m == ("den" : Str)) = false) (h : TJ G W te d) (ja : TJA G W ta dl) : TJ G W (Bp.tMethS G.C m (spJ G f) (WE W) te ta) (methF m f d dl) := fun H0 Hf H env σ Q s E h0 =>
  h H0 Hf H env σ _ s E (PostG.bind h0 fun o v Hf1 H1 _ g1 r1 h1 => by
    cases r1 with
    | fr ho =>
      refine ⟨_, _, _, rfl, g1.sub _ _ ho, frF_no _ n1 n2, ja H0 Hf1 H1 env σ _ g1.sub (E.grow g1) (PostG.bind h1 fun l vs Hf2 H2 _ g2 r2 h2 => ?_)⟩
      exact ⟨Hf2, _, g2.sub, .cons ((Rep.fr ho).mono g2.fz) r2, post_E (E := WE W) h2⟩
    | _ => exact h1.elim)
variable {C : Addr} {cc : Nat} {m : Str} {o : Expr} {apos : Pos}
theorem je_meth {pl : Sem Bool} (D : Bp.MDef X.prog X.w X.K X.mg X.base k C m ps (spJ G f)) (hC : C = G.cm cc) (hr : Room k X.A) (tk : Takes X W) (c : Cls X.K C) (ho : JE G X W o d) (ha : JA G X W (e :: es) dl)
    (hst : starEach (e :: es) X.env = (false, eval e X.env) :: starEach es X.env := by rfl) (hpl : (backTo pos (starEach es X.env)).any (·.1) = false := by rfl)
    (ht : eval (.Call (.Attribute o m apos) (e :: es) [] pos) X.env = (eval o X.env >>= fun ov => standAt apos.atName >>= fun _ => holding [ov] (getMethod ov m pl) >>= fun q =>
      callWith pos q.1 q.2 (backTo pos (starEach (e :: es) X.env)) (backToKw pos (keywordEach [] X.env))) := by rfl) : JE G X W (.Call (.Attribute o m apos) (e :: es) [] pos) (methE cc m f d dl) := by
  obtain ⟨t, pt, jt⟩ := ho
  obtain ⟨u, pu, ju⟩ := ha
  exact ⟨_, Bp.pe_methD D hr tk c pt pu hst hpl ht, tj_meth hC jt ju⟩
theorem je_meth0 {pl : Sem Bool} (D : Bp.MDef X.prog X.w X.K X.mg X.base k C m ps (spJ G f)) (hC : C = G.cm cc) (hr : Room k X.A) (tk : Takes X W) (c : Cls X.K C) (ho : JE G X W o d)
    (ht : eval (.Call (.Attribute o m apos) [] [] pos) X.env = (eval o X.env >>= fun ov => standAt apos.atName >>= fun _ => holding [ov] (getMethod ov m pl) >>= fun q =>
      callWith pos q.1 q.2 (backTo pos (starEach [] X.env)) (backToKw pos (keywordEach [] X.env))) := by rfl) : JE G X W (.Call (.Attribute o m apos) [] [] pos) (methE cc m f d args0) := by
  obtain ⟨t, pt, jt⟩ := ho
  exact ⟨_, Bp.pe_methD0 D hr tk c pt ht, tj_meth hC jt fun H0 Hf H env σ Q s E h => h [] Hf H (Gr.refl s) .nil⟩
theorem je_methF {pl : Sem Bool} (D : Bp.MDef X.prog X.w X.K X.mg X.base k G.C m ps (spJ G f)) (hr : Room k X.A) (tk : Takes X W) (c : Cls X.K G.C) (ho : JE G X W o d) (ha : JA G X W (e :: es) dl) (n1 : (m == ("num" : Str)) = false := by decide +kernel) (n2 : (m == ("den" : Str)) = false := by decide +kernel)
    (hst : starEach (e :: es) X.env = (false, eval e X.env) :: starEach es X.env := by rfl) (hpl : (backTo pos (starEach es X.env)).any (·.1) = false := by rfl)
    (ht : eval (.Call (.Attribute o m apos) (e :: es) [] pos) X.env = (eval o X.env >>= fun ov => standAt apos.atName >>= fun _ => holding [ov] (getMethod ov m pl) >>= fun q =>
      callWith pos q.1 q.2 (backTo pos (starEach (e :: es) X.env)) (backToKw pos (keywordEach [] X.env))) := by rfl) : JE G X W (.Call (.Attribute o m apos) (e :: es) [] pos) (methF m f d dl) := by
  obtain ⟨t, pt, jt⟩ := ho
  obtain ⟨u, pu, ju⟩ := ha
  exact ⟨_, Bp.pe_methD D hr tk c pt pu hst hpl ht, tj_methF n1 n2 jt ju⟩
theorem je_methF0 {pl : Sem Bool} (D : Bp.MDef X.prog X.w X.K X.mg X.base k G.C m ps (spJ G f)) (hr : Room k X.A) (tk : Takes X W) (c : Cls X.K G.C) (ho : JE G X W o d) (n1 : (m == ("num" : Str)) = false := by decide +kernel) (n2 : (m == ("den" : Str)) = false := by decide +kernel)
    (ht : eval (.Call (.Attribute o m apos) [] [] pos) X.env = (eval o X.env >>= fun ov => standAt apos.atName >>= fun _ => holding [ov] (getMethod ov m pl) >>= fun q =>
      callWith pos q.1 q.2 (backTo pos (starEach [] X.env)) (backToKw pos (keywordEach [] X.env))) := by rfl) : JE G X W (.Call (.Attribute o m apos) [] [] pos) (methF m f d args0) := by
  obtain ⟨t, pt, jt⟩ := ho
  exact ⟨_, Bp.pe_methD0 D hr tk c pt ht, tj_methF n1 n2 jt fun H0 Hf H env σ Q s E h => h [] Hf H (Gr.refl s) .nil⟩
/-! ### fields -/
def fldP (m : Str) (p : PV) : R PV := match p with
  | .obj c fs => match fs.lookup m with | some q => .ok q | none => .bad
  | _ => .bad
def fldE (cs : List Nat) (m : Str) (d : Env → R PV) (env : Env) : R PV := (d env).bind fun p => match p with
  | .obj c fs => if c ∈ cs then fldP m (.obj c fs) else .bad
  | _ => .bad
theorem je_fld {cs : List Nat} {m : Str} {pos : Pos} (hK : X.K = G.K) (hc : ∀ c ∈ cs, Cls G.K (G.cm c) ∧ NoAttr G.K (G.cm c) m) (ho : JE G X W o d)
    (hb : attributeBase o m X.env (eval o X.env) = eval o X.env := by rfl) : JE G X W (.Attribute o m pos) (fldE cs m d) := by
  obtain ⟨t, pt, jt⟩ := ho
  refine ⟨_, pe_fld pt hb, fun H0 Hf H env σ Q s E h => jt H0 Hf H env σ _ s E (PostG.bind h fun p v Hf1 H1 _ g1 r1 h1 => ?_)⟩
  cases r1 with
  | obj ho hf =>
    rename_i c fs a dx vfs _
    by_cases z : c ∈ cs
    · simp only [if_pos z] at h1
      unfold fldP at h1
      cases e : fs.lookup m with
      | none => simp only [e] at h1; exact h1.elim
      | some q =>
        simp only [e] at h1
        obtain ⟨u, eu, ru⟩ := hf.lookup e
        obtain ⟨c1, c2⟩ := hc c z
        exact ⟨a, _, dx, vfs, u, rfl, g1.sub _ _ ho, hK ▸ c1, hK ▸ c2, eu, h1 u Hf1 H1 (Gr.refl g1.sub) ru⟩
    · simp only [if_neg z] at h1
      exact h1.elim
  | _ => exact h1.elim
/-- r.num, r.den -/
def numE (d : Env → R PV) (env : Env) : R PV := (d env).bind fun p => match p with | .fr r => .ok (.int r.num) | _ => .bad
def denE (d : Env → R PV) (env : Env) : R PV := (d env).bind fun p => match p with | .fr r => .ok (.int r.den) | _ => .bad
theorem frF_num (r : Rat) : (frF r).lookup ("num" : Str) = some (.int r.num) := by
  have e : (("num" : Str) == ("num" : Str)) = true := by decide +kernel
  unfold frF
  simp only [List.lookup, e]
theorem frF_den (r : Rat) : (frF r).lookup ("den" : Str) = some (.int (r.den : Int)) := by
  have e1 : (("den" : Str) == ("num" : Str)) = false := by decide +kernel
  have e : (("den" : Str) == ("den" : Str)) = true := by decide +kernel
  unfold frF
  simp only [List.lookup, e, e1]
theorem je_num {pos : Pos} (hc : Cls X.K G.C) (hn : NoAttr X.K G.C "num") (ho : JE G X W o d) (hb : attributeBase o "num" X.env (eval o X.env) = eval o X.env := by rfl) : JE G X W (.Attribute o "num" pos) (numE d) := by
  obtain ⟨t, pt, jt⟩ := ho
  refine ⟨_, pe_fld pt hb, fun H0 Hf H env σ Q s E h => jt H0 Hf H env σ _ s E (PostG.bind h fun p v Hf1 H1 _ g1 r1 h1 => ?_)⟩
  cases r1 with
  | fr ho => exact ⟨_, _, _, _, _, rfl, g1.sub _ _ ho, hc, hn, frF_num _, h1 _ Hf1 H1 (Gr.refl g1.sub) (.int _)⟩
  | _ => exact h1.elim
theorem je_den {pos : Pos} (hc : Cls X.K G.C) (hn : NoAttr X.K G.C "den") (ho : JE G X W o d) (hb : attributeBase o "den" X.env (eval o X.env) = eval o X.env := by rfl) : JE G X W (.Attribute o "den" pos) (denE d) := by
  obtain ⟨t, pt, jt⟩ := ho
  refine ⟨_, pe_fld pt hb, fun H0 Hf H env σ Q s E h => jt H0 Hf H env σ _ s E (PostG.bind h fun p v Hf1 H1 _ g1 r1 h1 => ?_)⟩
  cases r1 with
  | fr ho => exact ⟨_, _, _, _, _, rfl, g1.sub _ _ ho, hc, hn, frF_den _, h1 _ Hf1 H1 (Gr.refl g1.sub) (.int _)⟩
  | _ => exact h1.elim
/-! ### t[i] -/
def ixP (a b : PV) : R PV := match b with
  | .int i => match a with
    | .tup l => match atI l i with | some p => .ok p | none => .bad
    | .lst l => match atI l i with | some p => .ok p | none => .bad
    | _ => .bad
  | _ => .bad
theorem reps_atI {G : Gb} {l : List PV} {vs : List V} {i : Int} {p : PV} (r : Reps G Hf l vs) (h : atI l i = some p) : ∃ v, atI vs i = some v ∧ Rep G Hf p v := by
  unfold atI at h ⊢
  rw [r.length] at h
  cases e : ixN vs.length i with
  | none => rw [e] at h; cases h
  | some j =>
    rw [e] at h
    exact r.get h
theorem je_ix (hK : X.K = G.K) (ha : JE G X W a da) (hb : JE G X W b db) (hs : PlainIx b := by exact fun _ _ => rfl) : JE G X W (.Subscript a b pos) (bin2 ixP da db) := by
  obtain ⟨t, pt, jt⟩ := ha
  obtain ⟨u, pu, ju⟩ := hb
  refine ⟨_, pe_ix ix_seq pt pu hs, fun H0 Hf H env σ Q s E h => jt H0 Hf H env σ _ s E (PostG.bind h fun p v Hf1 H1 _ g1 r1 h1 => ?_)⟩
  refine ju H0 Hf1 H1 env σ _ g1.sub (E.grow g1) (PostG.bind h1 fun q w Hf2 H2 _ g2 r2 h2 => ?_)
  have r1' := r1.mono g2.fz
  unfold ixP at h2
  cases r2 with
  | int i =>
    cases r1' with
    | tup ht hr =>
      rename_i l a vs _
      simp only at h2
      cases e : atI l i with
      | none => simp only [e] at h2; exact h2.elim
      | some z =>
        simp only [e] at h2
        obtain ⟨zv, e2, rz⟩ := reps_atI hr e
        exact .inr (.inl ⟨_, _, _, zv, rfl, rfl, by rw [hK]; exact Bp.seqT g2.sub ht, e2, h2 zv Hf2 H2 (Gr.refl g2.sub) rz⟩)
    | lst ht hr =>
      rename_i l a vs _
      simp only at h2
      cases e : atI l i with
      | none => simp only [e] at h2; exact h2.elim
      | some z =>
        simp only [e] at h2
        obtain ⟨zv, e2, rz⟩ := reps_atI hr e
        exact .inl ⟨_, _, _, zv, rfl, rfl, by rw [hK]; exact g2.sub.seq ht, e2, h2 zv Hf2 H2 (Gr.refl g2.sub) rz⟩
    | _ => exact h2.elim
  | _ => exact h2.elim
end
end J

namespace J
open PySem.Spec PySem PyProof.Rows
open L2 hiding St Takes XE CX takes_of PMk MkP ps_raise mk_of ps_try_as ps_try_many pmk_own passAt passes_call takes0 passL
open L2N hiding St
open RZ

section
variable {G : Ga} {X : Cx} {W : WX} {Hf0 H0 Hf H Hf' H' : Hp} {env : Env} {σ : L2.St} {i : Nat} {x : Str} {pos : Pos} {e a b c : Expr} {d da db dc : Env → R PV} {es : List Expr} {st : Stmt} {sts : List Stmt} {f g : Env → F} {p q : Env → R Bool} {dl : Env → R (List PV)}
/-! ### blocks, small statements -/
def nextF (env : Env) : F := .nx env
def seqF (f g : Env → F) (env : Env) : F := match f env with | .nx e => g e | .rt p => .rt p | .er e c fs => .er e c fs | .bk e => .bk e | .ct e => .ct e | .bad => .bad
theorem jss_nil : JSs G X W [] nextF := ⟨_, pss_nil, fun Hf0 H0 Hf H env σ D S h => h σ Hf H S (fun _ _ h => h)⟩
theorem jss_one (h : JS G X W st f) : JSs G X W [st] f := let ⟨t, pt, jt⟩ := h.ex; ⟨_, pss_one pt, jt⟩
theorem jss_cons (h : JS G X W st f) (k : JSs G X W sts g) : JSs G X W (st :: sts) (seqF f g) := by
  obtain ⟨t, pt, jt⟩ := h
  obtain ⟨u, pu, ju⟩ := k
  refine ⟨_, pss_cons pt pu, fun Hf0 H0 Hf H env σ D S h => jt Hf0 H0 Hf H env σ _ S ?_⟩
  unfold seqF at h
  cases e : f env with
  | nx e' =>
    rw [e] at h
    exact fun σ' Hf' H' S' s' => ju Hf0 H0 Hf' H' e' σ' D S' (h.step s')
  | _ => rw [e] at h; exact h
theorem js_pass : JS G X W (.Pass pos) nextF := ⟨_, ps_pass, fun Hf0 H0 Hf H env σ D S h => h σ Hf H S (fun _ _ h => h)⟩
theorem js_break : JS G X W (.Break pos) (fun env => .bk env) := ⟨_, ps_break, fun Hf0 H0 Hf H env σ D S h => h σ Hf H S (fun _ _ h => h)⟩
theorem js_continue : JS G X W (.Continue pos) (fun env => .ct env) := ⟨_, ps_continue, fun Hf0 H0 Hf H env σ D S h => h σ Hf H S (fun _ _ h => h)⟩
theorem js_never : JS G X W st (fun _ => .bad) := ⟨_, ps_never, fun Hf0 H0 Hf H env σ D S h => h⟩
theorem jss_never : JSs G X W sts (fun _ => .bad) := ⟨_, pss_never, fun Hf0 H0 Hf H env σ D S h => h⟩
/-- an expression within a statement -/
def liftF (r : R PV) (env : Env) (k : PV → F) : F := match r with | .ok p => k p | .er c fs => .er env c fs | .bad => .bad
theorem post_lift {D : Ends} {r : R PV} {k : PV → F} {Q : VK} (S : StOk G Hf0 H0 Hf H env σ) (h : PostS G W D Hf0 H0 Hf (liftF r env k))
    (c : ∀ p v Hf' H', Gr Hf H Hf' H' → StOk G Hf0 H0 Hf' H' env σ → Rep G Hf' p v → PostS G W D Hf0 H0 Hf' (k p) → Q v H') : Post G W Hf H σ r Q := by
  cases r with
  | ok p => exact fun v Hf' H' g r => c p v Hf' H' g (S.grow g) r (PostS.step h g.fz)
  | er c' fs => exact fun Hf' H' d g r => h σ Hf' H' d (S.grow g) g.fz r
  | bad => exact h
def retF (d : Env → R PV) (env : Env) : F := liftF (d env) env fun p => .rt p
def dropF (d : Env → R PV) (env : Env) : F := liftF (d env) env fun _ => .nx env
def setF (i : Nat) (d : Env → R PV) (env : Env) : F := liftF (d env) env fun p => .nx (env.set i (.val p))
theorem js_ret (h : JE G X W e d) : JS G X W (.Return (some e) pos) (retF d) := by
  obtain ⟨t, pt, jt⟩ := h
  exact ⟨_, ps_ret pt, fun Hf0 H0 Hf H env σ D S h => jt H0 Hf H env σ _ S.gr.sub S.env (post_lift S h fun p v Hf' H' g S' r k => k v Hf' H' S'.gr (fun _ _ h => h) r)⟩
theorem js_retN : JS G X W (.Return none pos) (fun _ => .rt .non) := ⟨_, ps_retN, fun Hf0 H0 Hf H env σ D S h => h .non Hf H S.gr (fun _ _ h => h) .non⟩
theorem js_expr (h : JE G X W e d) (hs : swapsWith e none pos.line X.env = pure false := by rfl) : JS G X W (.Expr e pos) (dropF d) := by
  obtain ⟨t, pt, jt⟩ := h
  exact ⟨_, ps_expr pt hs, fun Hf0 H0 Hf H env σ D S h => jt H0 Hf H env σ _ S.gr.sub S.env (post_lift S h fun p v Hf' H' g S' r k => k σ Hf' H' S' (fun _ _ h => h))⟩
theorem js_doc {x j pos pos'} : JS G X W (.Expr (.Constant (.str x) j pos) pos') nextF := ⟨_, ps_doc, fun Hf0 H0 Hf H env σ D S h => h σ Hf H S (fun _ _ h => h)⟩
theorem js_set {pos' : Pos} (i : Nat) (nd : X.N.Nodup) (h : JE G X W e d) (hi : X.N[i]? = some x := by rfl) (hx : Loc X.env.scope x := by first | exact Or.inl rfl | exact Or.inr rfl) (hs : swapsWith e (some (.Name x pos')) pos.line X.env = pure false := by rfl) (hf : X.fn x = true ∨ X.env.scope.names.lookup x = some .local := by first | exact .inl rfl | exact .inr rfl) :
    JS G X W (.Assign [.Name x pos'] e pos) (setF i d) := by
  obtain ⟨t, pt, jt⟩ := h
  exact ⟨_, ps_set nd hi hx pt hs hf, fun Hf0 H0 Hf H env σ D S h => jt H0 Hf H env σ _ S.gr.sub S.env (post_lift S h fun p v Hf' H' g S' r k => k _ Hf' H' ⟨S'.gr, S'.env.setV r⟩ (fun _ _ h => h))⟩
def iteF (t : Env → R Bool) (f g : Env → F) (env : Env) : F := match t env with | .ok b => if b = true then f env else g env | .er c fs => .er env c fs | .bad => .bad
theorem js_if {sts' : List Stmt} (ht : JT G X W c p) (h : JSs G X W sts f) (k : JSs G X W sts' g) : JS G X W (.If c sts sts' pos) (iteF p f g) := by
  obtain ⟨tt, ptt, jtt⟩ := ht
  obtain ⟨t, pt, jt⟩ := h
  obtain ⟨u, pu, ju⟩ := k
  refine ⟨_, ps_if ptt pt pu, fun Hf0 H0 Hf H env σ D S h => jtt H0 Hf H env σ _ S.gr.sub S.env ?_⟩
  unfold iteF at h
  cases e : p env with
  | ok b =>
    rw [e] at h
    rintro v Hf' H' g rfl
    cases v with
    | true =>
      simp only [if_pos] at h ⊢
      exact jt Hf0 H0 Hf' H' env σ D (S.grow g) (h.step g.fz)
    | false =>
      simp only [Bool.false_eq_true, if_false] at h ⊢
      exact ju Hf0 H0 Hf' H' env σ D (S.grow g) (h.step g.fz)
  | er c' fs =>
    rw [e] at h
    exact fun Hf' H' d g r => h σ Hf' H' d (S.grow g) g.fz r
  | bad => rw [e] at h; exact h.elim
/-! ### owned lists -/
def ownF (i : Nat) (env : Env) : F := .nx (env.set i (.own []))
/-- x = [] of a list that will grow -/
theorem js_own {pos' pos2 : Pos} (i : Nat) (nd : X.N.Nodup) (hi : X.N[i]? = some x := by rfl) (hx : Loc X.env.scope x := by first | exact Or.inl rfl | exact Or.inr rfl) (hs : swapsWith (.List [] pos2) (some (.Name x pos')) pos.line X.env = pure false := by rfl) (hf : X.fn x = true ∨ X.env.scope.names.lookup x = some .local := by first | exact .inl rfl | exact .inr rfl) :
    JS G X W (.Assign [.Name x pos'] (.List [] pos2) pos) (ownF i) := by
  refine ⟨_, ps_set nd hi hx (pe_lst pa_nil) hs hf, fun Hf0 H0 Hf H env σ D S h => ?_⟩
  refine ⟨Nat.zero_le _, fun a ha => ?_⟩
  have g : Gr Hf H Hf (upd H a (.lst [])) := Gr.up S.gr.sub (Same.new ha)
  have S' := S.grow g
  refine h _ Hf _ ⟨S'.gr, S'.env.set ⟨a, [], rfl, none_back S.gr.hp ha, none_back S.gr.sub ha, upd_same, .nil⟩ fun _ j hj ho hq => ?_⟩ (fun _ _ h => h)
  have q := S.env.get j
  rw [hq] at q
  cases e : env.at j with
  | own l =>
    rw [e] at q
    obtain ⟨b, vs, eb, _, _, hb, _⟩ := q
    cases eb
    rw [ha] at hb
    cases hb
  | oob c fs =>
    rw [e] at q
    obtain ⟨b, _, vs, eb, _, _, _, hb, _⟩ := q
    cases eb
    rw [ha] at hb
    cases hb
  | _ => rw [e] at ho; cases ho
/-- the slot i's thing is frozen -/
def frz (i : Nat) (env : Env) : Env := match env.at i with | .own l => env.set i (.val (.lst l)) | .oob c fs => env.set i (.slf c fs) | _ => env
theorem set_same {σ : L2.St} {i : Nat} {o : Option V} (h : σ[i]? = some o) : σ.set i o = σ := by
  apply List.ext_getElem?
  intro j
  rw [List.getElem?_set]
  by_cases e : i = j
  · subst e
    rw [if_pos rfl]
    by_cases l : i < σ.length
    · rw [if_pos l, h]
    · rw [List.getElem?_eq_none (by omega)] at h
      cases h
  · rw [if_neg e]
theorem StOk.frz (S : StOk G Hf0 H0 Hf H env σ) (i : Nat) : ∃ Hf', Same Hf Hf' ∧ StOk G Hf0 H0 Hf' H (frz i env) σ := by
  have go : ∀ (a : Addr) (o : HO) (s : Sl), σ[i]? = some (some (.ref a)) → H0 a = none → Hf a = none → H a = some o → (env.at i).isOwn = true → s.isOwn = false → SlOk G H0 (upd Hf a o) H s (some (some (.ref a))) →
      ∃ Hf', Same Hf Hf' ∧ StOk G Hf0 H0 Hf' H (env.set i s) σ := fun a o s hs h0 hf hh ho hso ok => by
    refine ⟨upd Hf a o, Same.new hf, S.gr.frz h0 hf hh, ?_⟩
    have base : EnvOk G H0 (upd Hf a o) H (env.set i .no) σ := by
      refine ⟨by simp [S.env.len], fun j => ?_, fun j k b hj hk ej ek => ?_⟩
      · rw [Env.at_set]
        by_cases e : i = j ∧ j < env.length
        · rw [if_pos e]; trivial
        · rw [if_neg e]
          have q := S.env.get j
          have nij : i ≠ j := fun z => by
            subst z
            have l : ¬ i < env.length := fun w => e ⟨rfl, w⟩
            rw [List.getElem?_eq_none (by rw [← S.env.len]; omega)] at hs
            cases hs
          have away : ∀ b, (env.at j).isOwn = true → σ[j]? = some (some (.ref b)) → b ≠ a := fun b hb eb z => by
            subst z
            exact nij (S.env.dis i j b ho hb hs eb)
          cases ej : env.at j with
          | no => trivial
          | val p =>
            rw [ej] at q
            obtain ⟨v, ev, r⟩ := q
            exact ⟨v, ev, r.mono (Same.new hf)⟩
          | own l =>
            rw [ej] at q
            obtain ⟨b, vs, eb, b0, bf, bh, r⟩ := q
            exact ⟨b, vs, eb, b0, by rw [upd_ne (away b (by rw [ej]; rfl) eb)]; exact bf, bh, r.mono (Same.new hf)⟩
          | oob c fs =>
            rw [ej] at q
            obtain ⟨b, dx, vs, eb, z, b0, bf, bh, r⟩ := q
            exact ⟨b, dx, vs, eb, z, b0, by rw [upd_ne (away b (by rw [ej]; rfl) eb)]; exact bf, bh, r.mono (Same.new hf)⟩
          | slf c fs =>
            rw [ej] at q
            obtain ⟨b, eb, z, r⟩ := q
            exact ⟨b, eb, z, r.mono (Same.new hf)⟩
          | exc c fs =>
            rw [ej] at q
            obtain ⟨b, d, eb, xi, r⟩ := q
            exact ⟨b, d, eb, xi, r.grow (Same.new hf) (fun _ _ h => h)⟩
      · rw [Env.at_set] at hj hk
        by_cases e1 : i = j ∧ j < env.length
        · rw [if_pos e1] at hj; cases hj
        · by_cases e2 : i = k ∧ k < env.length
          · rw [if_pos e2] at hk; cases hk
          · rw [if_neg e1] at hj
            rw [if_neg e2] at hk
            exact S.env.dis j k b hj hk ej ek
    have r := base.set (i := i) (s := s) (v := .ref a) ok fun z => by rw [hso] at z; cases z
    rw [List.set_set, set_same hs] at r
    exact r
  unfold J.frz
  have q := S.env.get i
  cases e : env.at i with
  | own l =>
    rw [e] at q
    obtain ⟨a, vs, ea, a0, af, ah, r⟩ := q
    exact go a _ _ ea a0 af ah (by rw [e]; rfl) rfl ⟨_, rfl, .lst (SqL.of upd_same) (r.mono (Same.new af))⟩
  | oob c fs =>
    rw [e] at q
    obtain ⟨a, dx, vs, ea, z, a0, af, ah, r⟩ := q
    exact go a _ _ ea a0 af ah (by rw [e]; rfl) rfl ⟨_, rfl, z, .obj upd_same (r.mono (Same.new af))⟩
  | _ => exact ⟨Hf, fun _ _ h => h, S⟩
theorem jss_frz (i : Nat) (h : JSs G X W sts f) : JSs G X W sts (fun env => f (frz i env)) := by
  obtain ⟨t, pt, jt⟩ := h
  refine ⟨_, pt, fun Hf0 H0 Hf H env σ D S h => ?_⟩
  obtain ⟨Hf', s, S'⟩ := S.frz i
  exact jt Hf0 H0 Hf' H _ σ D S' (h.step s)
/-- xs.append(e), xs an owned list -/
def appF (i : Nat) (d : Env → R PV) (env : Env) : F := match env.at i with
  | .own l => liftF (d env) env fun p => if l.length < 1000 then .nx (env.set i (.own (l ++ [p]))) else .bad
  | _ => .bad
theorem js_app {p1 p2 p3 : Pos} (i : Nat) (h : JE G X W e d) (hi : X.N[i]? = some x := by rfl) (hv : Vis X.env.scope x := by first | exact Or.inl rfl | exact Or.inr (Or.inl rfl) | exact Or.inr (Or.inr rfl)) (hd : (x == ("__debug__" : Str)) = false := by decide) (hcd : (x == ("__classdict__" : Str)) = false := by decide)
    (hbase : attributeBase (.Name x p1) "append" X.env (eval (.Name x p1) X.env) = eval (.Name x p1) X.env := by rfl)
    (hfew : ((backTo p3 (starEach [e] X.env)).all (fun x => !x.1) && (backToKw p3 (keywordEach [] X.env)).all (fun x => x.1.isSome) && decide ([e].length + ([] : List Keyword).length + (if ([] : List Keyword).isEmpty then 0 else 1) < 30)) = true := by rfl)
    (hline : (p2.endLine == p3.line) = true := by rfl) (hst : starEach [e] X.env = (false, eval e X.env) :: starEach [] X.env := by rfl) (hplain : (backTo p3 (starEach [] X.env)).any (·.1) = false := by rfl)
    (hs : swapsWith (.Call (.Attribute (.Name x p1) "append" p2) [e] [] p3) none pos.line X.env = pure false := by rfl) :
    JS G X W (.Expr (.Call (.Attribute (.Name x p1) "append" p2) [e] [] p3) pos) (appF i d) := by
  obtain ⟨t, pt, jt⟩ := h
  refine ⟨_, ps_expr (pe_bm PySem.F.plainAttrs_list PySem.F.slot_list_append PySem.F.type_list_append mt_append (pe_var hi hv hd hcd) (pa_cons pt pa_nil hst) hbase hfew hline hst hplain) hs, fun Hf0 H0 Hf H env σ D S h => ?_⟩
  unfold appF at h
  cases el : env.at i with
  | own l =>
    rw [el] at h
    simp only at h
    have q := S.env.get i
    rw [el] at q
    obtain ⟨a, vs, ea, a0, af, ah, r⟩ := q
    refine ⟨.ref a, ea, .inl ⟨rfl, vs, SqL.of ah⟩, ?_⟩
    refine jt H0 Hf H env σ _ S.gr.sub S.env (post_lift S h fun p v Hf' H' g S' rp k => ?_)
    have ah' := g.hp _ _ ah
    have r' := r.mono g.fz
    by_cases hl : l.length < 1000
    · rw [if_pos hl] at k
      refine ⟨a, vs, v, rfl, rfl, ah', Nat.lt_of_lt_of_le (r.length ▸ hl) (by decide), ?_⟩
      have af' : Hf' a = none := by
        have q := S'.env.get i
        rw [el, ea] at q
        obtain ⟨b, ws, eb, _, bf, _⟩ := q
        cases eb
        exact bf
      have sub' : Same Hf' (upd H' a (.lst (vs ++ [v]))) := fun b o hb => by
        rw [upd_ne (ne_of_none hb af')]
        exact S'.gr.sub _ _ hb
      refine k σ Hf' _ ⟨⟨S'.gr.fz, fun b o hb => by rw [upd_ne (ne_of_none hb a0)]; exact S'.gr.hp _ _ hb, sub', S'.gr.new⟩, ?_⟩ (fun _ _ h => h)
      have base : EnvOk G H0 Hf' (upd H' a (.lst (vs ++ [v]))) (env.set i .no) σ := by
        have E' := S'.env.forget (i := i)
        refine ⟨E'.len, fun j => ?_, E'.dis⟩
        have q := E'.get j
        have away : ∀ b, (Env.at (env.set i .no) j).isOwn = true → σ[j]? = some (some (.ref b)) → b ≠ a := fun b hb eb z => by
          subst z
          rw [Env.at_set] at hb
          by_cases e : i = j ∧ j < env.length
          · rw [if_pos e] at hb; cases hb
          · rw [if_neg e] at hb
            have := S'.env.dis i j b (by rw [el]; rfl) hb ea eb
            subst this
            exact e ⟨rfl, by
              rw [S.env.len]
              by_cases l : i < σ.length
              · exact l
              · rw [List.getElem?_eq_none (by omega)] at ea
                cases ea⟩
        cases ej : Env.at (env.set i .no) j with
        | no => trivial
        | val p => rw [ej] at q; exact q
        | own m =>
          rw [ej] at q
          obtain ⟨b, ws, eb, b0, bf, bh, rr⟩ := q
          exact ⟨b, ws, eb, b0, bf, by rw [upd_ne (away b (by rw [ej]; rfl) eb)]; exact bh, rr⟩
        | oob c fs =>
          rw [ej] at q
          obtain ⟨b, dx, ws, eb, z, b0, bf, bh, rr⟩ := q
          exact ⟨b, dx, ws, eb, z, b0, bf, by rw [upd_ne (away b (by rw [ej]; rfl) eb)]; exact bh, rr⟩
        | slf c fs => rw [ej] at q; exact q
        | exc c fs =>
          rw [ej] at q
          obtain ⟨b, d, eb, xi, rr⟩ := q
          refine ⟨b, d, eb, xi, ?_⟩
          cases fs with
          | nil => exact rr
          | cons u us =>
            obtain ⟨x, vfs, e1, e2, e3⟩ := rr
            refine ⟨x, vfs, e1, ?_, e3⟩
            rw [upd_ne]
            · exact e2
            · intro z
              subst z
              rw [ah'] at e2
              cases e2
      have r2 := base.set (i := i) (s := .own (l ++ [p])) (v := .ref a) ⟨a, vs ++ [v], rfl, a0, af', upd_same, r'.append (.cons rp .nil)⟩ fun _ j hj ho hq => by
        rw [Env.at_set] at ho
        by_cases e : i = j ∧ j < env.length
        · exact hj e.1.symm
        · rw [if_neg e] at ho
          exact hj (S'.env.dis j i a ho (by rw [el]; rfl) hq ea)
      rw [List.set_set, set_same ea] at r2
      exact r2
    · rw [if_neg hl] at k
      exact k.elim
  | _ => rw [el] at h; exact h.elim
end
end J

namespace J
open PySem.Spec PySem PyProof.Rows
open L2 hiding St Takes XE CX takes_of PMk MkP ps_raise mk_of ps_try_as ps_try_many pmk_own passAt passes_call takes0 passL
open L2N hiding St
open RZ

/-! ### what a loop walks -/
/-- the items of an iterator: those of l, while frozen things stand -/
def Items (G : Gb) (Hf H : Hp) (l : List PV) (J : It) : Prop := ∃ (GG : Hp → Prop) (Y : Nat → Hp → V → Hp → Prop), Walk J l.length GG Y ∧ (∀ Hf2 H2, Same Hf Hf2 → Same Hf2 H2 → GG H2) ∧
  ∀ i Hf2 H2 x H3, i < l.length → Same Hf Hf2 → Same Hf2 H2 → Y i H2 x H3 → ∃ Hf3, Gr Hf2 H2 Hf3 H3 ∧ ∃ p, l[i]? = some p ∧ Rep G Hf3 p x
def TJI (G : Ga) (W : WX) (wi : TI) (d : Env → R (List PV)) : Prop := ∀ (H0 Hf H : Hp) (env : Env) (σ : L2.St) (R : It → Hp → Prop), Same Hf H → EnvOk G H0 Hf H env σ →
  PostG G W (fun Hf l J => Items G Hf Hf l J) Hf H σ (d env) R → wi σ H R
structure JI (G : Ga) (X : Cx) (W : WX) (tg it : Expr) (d : Env → R (List PV)) : Prop where
  ex : ∃ wi, PI X tg it wi ∧ TJI G W wi d
/-- targets -/
abbrev Bnd := PV → Env → Option Env
def TJG (G : Ga) (g : TG) (b : Bnd) (vs : List Nat) : Prop := ∀ (H0 Hf H : Hp) (env : Env) (σ : L2.St) (p : PV) (v : V) (Q : L2.St → Hp → Prop), Same Hf H → EnvOk G H0 Hf H env σ → Rep G Hf p v →
  (match b p env with | some e => ∀ σ', EnvOk G H0 Hf H e σ' → wipe σ' vs = wipe σ vs → Q σ' H | none => False) → g v σ H Q
structure JG (G : Ga) (X : Cx) (tg : Expr) (b : Bnd) (vs : List Nat) : Prop where
  ex : ∃ g, PG X tg g ∧ TJG G g b vs
def bdN (i : Nat) : Bnd := fun p env => some (env.set i (.val p))
def bdT (bs : List Bnd) : Bnd := fun p env => match p with
  | .tup l => if l.length = bs.length then (bs.zip l).foldl (fun e (x : Bnd × PV) => e.bind fun e => x.1 x.2 e) (some env) else none
  | _ => none
theorem wipe_get {σ : L2.St} {j : Nat} : ∀ {vs : List Nat}, (wipe σ vs)[j]? = if j ∈ vs ∧ j < σ.length then some none else σ[j]?
  | [] => by simp [wipe]
  | v :: vs => by
    unfold wipe
    rw [List.getElem?_set, wipe_get (vs := vs), wipe_length]
    by_cases e : v = j
    · subst e
      by_cases l : v < σ.length
      · simp [l]
      · have : σ[v]? = none := by simp; omega
        simp [l, this]
    · rw [if_neg e]
      have : (j ∈ v :: vs) = (j ∈ vs) := by simp [Ne.symm e]
      simp only [this]
theorem wipe_set {σ : L2.St} {i : Nat} {o : Option V} {vs : List Nat} (h : i ∈ vs) : wipe (σ.set i o) vs = wipe σ vs := by
  apply List.ext_getElem?
  intro j
  rw [wipe_get, wipe_get, List.length_set, List.getElem?_set]
  by_cases c : j ∈ vs ∧ j < σ.length
  · rw [if_pos c, if_pos c]
  · rw [if_neg c, if_neg c]
    by_cases e : i = j
    · subst e
      have l : ¬ i < σ.length := fun z => c ⟨h, z⟩
      rw [if_pos rfl, if_neg l, List.getElem?_eq_none (by omega)]
    · rw [if_neg e]
def wipeE (env : Env) : List Nat → Env
  | [] => env
  | v :: vs => (wipeE env vs).set v .no
section
variable {G : Ga} {X : Cx} {W : WX} {Hf0 H0 Hf H Hf' H' : Hp} {env : Env} {σ : L2.St} {i : Nat} {x : Str} {pos : Pos} {e e2 a b c tg iter : Expr} {d da db dc : Env → R PV} {es : List Expr} {st : Stmt} {sts : List Stmt} {f g : Env → F} {p q : Env → R Bool} {dl : Env → R (List PV)} {vs : List Nat} {bn : Bnd}
theorem EnvOk.drop (h : EnvOk G H0 Hf H env σ) (v : Nat) : EnvOk G H0 Hf H (env.set v .no) (σ.set v none) := by
  have q := h.forget (i := v)
  refine ⟨by simp [h.len], fun j => ?_, fun j k a hj hk ej ek => ?_⟩
  · by_cases e : v = j
    · subst e
      rw [Env.at_set]
      by_cases l : v < env.length
      · rw [if_pos ⟨rfl, l⟩]; trivial
      · rw [if_neg (fun z => l z.2)]
        have : env.at v = .no := by
          unfold Env.at
          rw [List.getD_eq_getElem?_getD, List.getElem?_eq_none (by omega)]
          rfl
        rw [this]
        trivial
    · rw [List.getElem?_set, if_neg e]
      exact q.get j
  · have nj : ∀ j, (Env.at (env.set v .no) j).isOwn = true → v ≠ j ∨ ¬ v < env.length := fun j hj => by
      by_cases e : v = j
      · subst e
        by_cases l : v < env.length
        · rw [Env.at_set, if_pos ⟨rfl, l⟩] at hj
          cases hj
        · exact .inr l
      · exact .inl e
    have back : ∀ {j : Nat} {o : Option (Option V)}, (Env.at (env.set v .no) j).isOwn = true → (σ.set v none)[j]? = some (some (.ref a)) → σ[j]? = some (some (.ref a)) := fun {j o} hj ej => by
      rw [List.getElem?_set] at ej
      by_cases e : v = j
      · rw [if_pos e] at ej
        split at ej <;> cases ej
      · rw [if_neg e] at ej
        exact ej
    exact q.dis j k a hj hk (back (o := none) hj ej) (back (o := none) hk ek)
theorem EnvOk.wipe (h : EnvOk G H0 Hf H env σ) : ∀ vs : List Nat, EnvOk G H0 Hf H (wipeE env vs) (L2.wipe σ vs)
  | [] => h
  | v :: vs => (EnvOk.wipe h vs).drop v
theorem jg_name (i : Nat) (nd : X.N.Nodup) (hm : i ∈ vs) (hi : X.N[i]? = some x := by rfl) (hx : Loc X.env.scope x := by first | exact Or.inl rfl | exact Or.inr rfl) (hf : X.fn x = true ∨ X.env.scope.names.lookup x = some .local := by first | exact .inl rfl | exact .inr rfl) : JG G X (.Name x pos) (bdN i) vs :=
  ⟨_, pg_name nd hi hx hf, fun H0 Hf H env σ p v Q s E r h => h _ (E.setV r) (wipe_set hm)⟩
/-- a tuple of targets -/
def TJGs (G : Ga) (g : TGs) (bs : List Bnd) (vs : List Nat) : Prop := ∀ (H0 Hf H : Hp) (env : Env) (σ : L2.St) (l : List PV) (ws : List V) (Q : L2.St → Hp → Prop), Same Hf H → EnvOk G H0 Hf H env σ → Reps G Hf l ws → l.length = bs.length →
  (match (bs.zip l).foldl (fun e (x : Bnd × PV) => e.bind fun e => x.1 x.2 e) (some env) with | some e => ∀ σ', EnvOk G H0 Hf H e σ' → wipe σ' vs = wipe σ vs → Q σ' H | none => False) → g ws σ H Q
structure JGs (G : Ga) (X : Cx) (ts : List Expr) (bs : List Bnd) (vs : List Nat) : Prop where
  ex : ∃ g, PGs X ts g ∧ TJGs G g bs vs
theorem fold_none : ∀ (l : List (Bnd × PV)), l.foldl (fun e (x : Bnd × PV) => e.bind fun e => x.1 x.2 e) (none : Option Env) = none
  | [] => rfl
  | _ :: l => fold_none l
theorem jgs_nil : JGs G X [] [] vs := ⟨_, pgs_nil, fun H0 Hf H env σ l ws Q s E r hl h => by
  cases r with
  | nil => exact ⟨rfl, h σ E rfl⟩
  | cons _ _ => cases hl⟩
theorem jgs_cons {bs : List Bnd} (h : JG G X e bn vs) (k : JGs G X es bs vs) (hs : (assignEach (e :: es) X.env).map (·.2) = assign e X.env :: (assignEach es X.env).map (·.2) := by rfl) : JGs G X (e :: es) (bn :: bs) vs := by
  obtain ⟨t, pt, jt⟩ := h
  obtain ⟨u, pu, ju⟩ := k
  refine ⟨_, pgs_cons pt pu hs, fun H0 Hf H env σ l ws Q s E r hl h => ?_⟩
  cases r with
  | nil => cases hl
  | cons r1 r2 =>
    rename_i p v l ws
    refine ⟨v, ws, rfl, jt H0 Hf H env σ p v _ s E r1 ?_⟩
    simp only [List.zip_cons_cons, List.foldl_cons, Option.bind_some] at h
    cases e1 : bn p env with
    | none => rw [e1, fold_none] at h; exact h.elim
    | some env' =>
      rw [e1] at h
      intro σ' E' w'
      refine ju H0 Hf H env' σ' l ws Q s E' r2 (by simpa using hl) ?_
      split at h
      · rename_i e3 e4
        exact fun σ2 E2 w2 => h σ2 E2 (w2.trans w')
      · exact h.elim
theorem jg_tup {bs : List Bnd} {k : Nat} (hK : X.K = G.K) (hc : X.calm = true) (h : JGs G X es bs vs) (hn : (assignEach es X.env).length = bs.length := by rfl) (hst : (assignEach es X.env).findIdx? (·.1) = none := by rfl) : JG G X (.Tuple es k pos) (bdT bs) vs := by
  obtain ⟨t, pt, jt⟩ := h
  refine ⟨_, pg_tup hc pt hn hst, fun H0 Hf H env σ p v Q s E r h => ?_⟩
  unfold bdT at h
  cases r with
  | tup ht hr =>
    rename_i l a ws
    simp only at h
    by_cases hl : l.length = bs.length
    · rw [if_pos hl] at h
      exact ⟨a, ws, rfl, by rw [hK]; exact Bp.seqT s ht, by rw [← hr.length]; exact hl, jt H0 Hf H env σ l ws Q s E hr hl h⟩
    · rw [if_neg hl] at h
      exact h.elim
  | _ => exact h.elim
/-! iterators -/
def asL (p : PV) : R (List PV) := match p with | .lst l => .ok l | .tup l => .ok l | _ => .bad
def itE (d : Env → R PV) (env : Env) : R (List PV) := (d env).bind asL
theorem items_list {G : Gb} {l : List PV} {vs : List V} {a : Addr} (h : SqL G.K Hf a vs) (r : Reps G Hf l vs) : Items G Hf Hf l (Itl G.K a) :=
  ⟨_, _, r.length ▸ walk_list, fun Hf2 H2 s1 s2 => (s1.trans s2).seq h, fun i Hf2 H2 x H3 hi s1 s2 ⟨e, ex⟩ => by
    subst e
    obtain ⟨p, ep, rp⟩ := r.get' ex
    exact ⟨Hf2, Gr.refl s2, p, ep, rp.mono s1⟩⟩
theorem items_tup {G : Gb} {l : List PV} {vs : List V} {a : Addr} (h : SqT G.K Hf a vs) (r : Reps G Hf l vs) : Items G Hf Hf l (Itt G.K a) :=
  ⟨_, _, r.length ▸ walk_tup, fun Hf2 H2 s1 s2 => Bp.seqT (s1.trans s2) h, fun i Hf2 H2 x H3 hi s1 s2 ⟨e, ex⟩ => by
    subst e
    obtain ⟨p, ep, rp⟩ := r.get' ex
    exact ⟨Hf2, Gr.refl s2, p, ep, rp.mono s1⟩⟩
def asLst (p : PV) : R (List PV) := match p with | .lst l => .ok l | _ => .bad
def asTup (p : PV) : R (List PV) := match p with | .tup l => .ok l | _ => .bad
/-- over a list; over a tuple -/
theorem ji_list (hK : X.K = G.K) (h : JE G X W iter d) : JI G X W tg iter (fun env => (d env).bind asLst) := by
  obtain ⟨t, pt, jt⟩ := h
  refine ⟨_, pi_list pt, fun H0 Hf H env σ R s E h => jt H0 Hf H env σ _ s E (PostG.bind h fun p v Hf1 H1 _ g1 r1 h1 => ?_)⟩
  cases r1 with
  | lst ht hr => exact ⟨_, rfl, ⟨_, by rw [hK]; exact g1.sub.seq ht⟩, by rw [hK]; exact h1 _ Hf1 H1 (Gr.refl g1.sub) (items_list ht hr)⟩
  | _ => exact h1.elim
theorem ji_tup (hK : X.K = G.K) (h : JE G X W iter d) : JI G X W tg iter (fun env => (d env).bind asTup) := by
  obtain ⟨t, pt, jt⟩ := h
  refine ⟨_, pi_tup pt, fun H0 Hf H env σ R s E h => jt H0 Hf H env σ _ s E (PostG.bind h fun p v Hf1 H1 _ g1 r1 h1 => ?_)⟩
  cases r1 with
  | tup ht hr => exact ⟨_, rfl, ⟨_, by rw [hK]; exact Bp.seqT g1.sub ht⟩, by rw [hK]; exact h1 _ Hf1 H1 (Gr.refl g1.sub) (items_tup ht hr)⟩
  | _ => exact h1.elim
/-- over a list or a tuple, whatever comes -/
theorem pi_seq {te : TE} (h : PE X iter te) : PI X tg iter (fun σ H R => te σ H fun x H1 => ∃ a, x = .ref a ∧ (((∃ xs, SqL X.K H1 a xs) ∧ R (Itl X.K a) H1) ∨ ((∃ xs, SqT X.K H1 a xs) ∧ R (Itt X.K a) H1))) := by
  refine ⟨fun pins s σ H R I hq => ?_⟩
  refine thn (h.run pins s σ H _ I hq) fun v s1 ⟨x, H1, I1, r1, a, e, q1⟩ => ?_
  subst e
  cases r1
  rcases q1 with ⟨⟨xs, hq⟩, q⟩ | ⟨⟨xs, hq⟩, q⟩
  · obtain ⟨its, rv, p, hz⟩ := I1.list hq
    refine wpAny_pyIter_list p.isList ?_
    refine ⟨s1.heap.objs.size, [s1.heap.objs.size], _, _, H1, rfl, I1.kept (t' := s1.toks) fun b o e => Heap.get?_push_of_some _ e, turn_list a _, ⟨_, Heap.get?_push_size _ rfl, rfl, rfl⟩, fun b hb => ?_, q⟩
    have e : b = s1.heap.objs.size := by simpa using hb
    subst e
    exact I1.fpOk (Nat.le_refl _) (I1.hok.fresh (Nat.le_refl _))
  · obtain ⟨its, rv, p, hz⟩ := I1.tuple hq
    refine wpAny_pyIter_tuple (show s1.heap.IsTuple a its.toArray from p) ?_
    refine ⟨s1.heap.objs.size, [s1.heap.objs.size], _, _, H1, rfl, I1.kept (t' := s1.toks) fun b o e => Heap.get?_push_of_some _ e, turn_tuple a _, ⟨_, Heap.get?_push_size _ rfl, rfl, rfl⟩, fun b hb => ?_, q⟩
    have e : b = s1.heap.objs.size := by simpa using hb
    subst e
    exact I1.fpOk (Nat.le_refl _) (I1.hok.fresh (Nat.le_refl _))
theorem ji_seq (hK : X.K = G.K) (h : JE G X W iter d) : JI G X W tg iter (itE d) := by
  obtain ⟨t, pt, jt⟩ := h
  refine ⟨_, pi_seq pt, fun H0 Hf H env σ R s E h => jt H0 Hf H env σ _ s E (PostG.bind h fun p v Hf1 H1 _ g1 r1 h1 => ?_)⟩
  cases r1 with
  | tup ht hr => exact ⟨_, rfl, .inr ⟨⟨_, by rw [hK]; exact Bp.seqT g1.sub ht⟩, by rw [hK]; exact h1 _ Hf1 H1 (Gr.refl g1.sub) (items_tup ht hr)⟩⟩
  | lst ht hr => exact ⟨_, rfl, .inl ⟨⟨_, by rw [hK]; exact g1.sub.seq ht⟩, by rw [hK]; exact h1 _ Hf1 H1 (Gr.refl g1.sub) (items_list ht hr)⟩⟩
  | _ => exact h1.elim
/-- range -/
def rngL (lo : Int) (n : Nat) : List PV := (List.range n).map fun (i : Nat) => PV.int (lo + (i : Int))
noncomputable def rng1 (l : List PV) : R (List PV) := match l with | [.int j] => (open Classical in if -(2 ^ 62) ≤ j ∧ j < 2 ^ 62 then .ok (rngL 0 j.toNat) else .bad) | _ => .bad
noncomputable def rng2 (l : List PV) : R (List PV) := match l with | [.int i, .int j] => (open Classical in if -(2 ^ 62) ≤ i ∧ i < 2 ^ 62 ∧ -(2 ^ 62) ≤ j ∧ j < 2 ^ 62 then .ok (rngL i (j - i).toNat) else .bad) | _ => .bad
theorem items_rng {G : Gb} {lo : Int} {n : Nat} : Items G Hf Hf (rngL lo n) (Itr lo n) := by
  have l : (rngL lo n).length = n := by unfold rngL; simp
  refine ⟨fun _ => True, YFn fun i => .int (lo + i), l.symm ▸ walk_range, fun _ _ _ _ => trivial, fun i Hf2 H2 x H3 hi s1 s2 ⟨e, ex⟩ => ?_⟩
  subst e
  subst ex
  exact ⟨Hf2, Gr.refl s2, .int (lo + i), by unfold rngL; rw [l] at hi; simp [hi], .int _⟩
theorem ji_rng1 {p : Pos} (hm : X.mg "range" = none) (ha : JA G X W [a] dl) (hg : Gl X "range" := by rfl) (hs : starEach [a] X.env = [(false, eval a X.env)] := by rfl) : JI G X W tg (.Call (.Name "range" p) [a] [] pos) (fun env => (dl env).bind rng1) := by
  obtain ⟨t, pt, jt⟩ := ha
  refine ⟨_, pi_range1 hg hm pt hs, fun H0 Hf H env σ R s E h => jt H0 Hf H env σ _ s E (PostG.bind h fun l vs Hf1 H1 _ g1 r1 h1 => ?_)⟩
  unfold rng1 at h1
  split at h1
  · rename_i j _
    cases r1 with
    | cons r2 r3 =>
      cases r3
      cases r2
      by_cases c : -(2 ^ 62) ≤ j ∧ j < 2 ^ 62
      · rw [if_pos c] at h1
        exact ⟨j, rfl, c.1, c.2, h1 _ Hf1 H1 (Gr.refl g1.sub) items_rng⟩
      · rw [if_neg c] at h1
        exact h1.elim
  · exact h1.elim
theorem ji_rng2 {p : Pos} (hm : X.mg "range" = none) (ha : JA G X W [a, b] dl) (hg : Gl X "range" := by rfl) (hs : starEach [a, b] X.env = [(false, eval a X.env), (false, eval b X.env)] := by rfl) (hs2 : starEach [b] X.env = [(false, eval b X.env)] := by rfl) : JI G X W tg (.Call (.Name "range" p) [a, b] [] pos) (fun env => (dl env).bind rng2) := by
  obtain ⟨t, pt, jt⟩ := ha
  refine ⟨_, pi_range2 hg hm pt hs hs2, fun H0 Hf H env σ R s E h => jt H0 Hf H env σ _ s E (PostG.bind h fun l vs Hf1 H1 _ g1 r1 h1 => ?_)⟩
  unfold rng2 at h1
  split at h1
  · rename_i i j _
    cases r1 with
    | cons r2 r3 =>
      cases r3 with
      | cons r3 r4 =>
        cases r4
        cases r2
        cases r3
        by_cases c : -(2 ^ 62) ≤ i ∧ i < 2 ^ 62 ∧ -(2 ^ 62) ≤ j ∧ j < 2 ^ 62
        · rw [if_pos c] at h1
          exact ⟨i, j, rfl, c, h1 _ Hf1 H1 (Gr.refl g1.sub) items_rng⟩
        · rw [if_neg c] at h1
          exact h1.elim
  · exact h1.elim
/-- zip of two lists, of two tuples -/
def zip2 (l : List PV) : R (List PV) := match l with
  | [.lst a, .lst b] => .ok (List.zipWith (fun x y => .tup [x, y]) a b)
  | [.tup a, .tup b] => if a.length = b.length then .ok (List.zipWith (fun x y => .tup [x, y]) a b) else .bad
  | _ => .bad
theorem pair_item {G : Gb} {i : Nat} {l m : List PV} {xs ys : List V} {Hf2 H2 H3 : Hp} {x : V} (rl : Reps G Hf l xs) (rm : Reps G Hf m ys) (s1 : Same Hf Hf2) (s2 : Same Hf2 H2) (h : YPair (fun i => xs[i]?) (fun i => ys[i]?) i H2 x H3) :
    ∃ Hf3, Gr Hf2 H2 Hf3 H3 ∧ ∃ p, (List.zipWith (fun x y => PV.tup [x, y]) l m)[i]? = some p ∧ Rep G Hf3 p x := by
  obtain ⟨T, u, v, ex, nT, e3, eu, ev⟩ := h
  subst ex
  subst e3
  obtain ⟨p, ep, rp⟩ := rl.get' eu
  obtain ⟨q, eq, rq⟩ := rm.get' ev
  have nf := none_back s2 nT
  refine ⟨_, Gr.one (o := .tup [u, v]) s2 nT, .tup [p, q], by rw [List.getElem?_zipWith, ep, eq], .tup (SqT.of upd_same) (.cons ((rp.mono s1).mono (Same.new nf)) (.cons ((rq.mono s1).mono (Same.new nf)) .nil))⟩
theorem ji_zip {p tpos : Pos} {elts : List Expr} {kk : Nat} (hK : X.K = G.K) (hm : X.mg "zip" = none) (ha : JA G X W [e, e2] dl) (hg : Gl X "zip" := by rfl) (hs : starEach [e, e2] X.env = (false, eval e X.env) :: starEach [e2] X.env := by rfl) (hpl : (backTo pos (starEach [e2] X.env)).any (·.1) = false := by rfl) :
    JI G X W (.Tuple elts kk tpos) (.Call (.Name "zip" p) [e, e2] [] pos) (fun env => (dl env).bind zip2) := by
  obtain ⟨t, pt, jt⟩ := ha
  refine ⟨_, pi_zipA hg hm pt hs hpl, fun H0 Hf H env σ R s E h => jt H0 Hf H env σ _ s E (PostG.bind h fun l vs Hf1 H1 _ g1 r1 h1 => ?_)⟩
  unfold zip2 at h1
  split at h1
  · rename_i l m _
    cases r1 with
    | cons r2 r3 =>
      cases r3 with
      | cons r3 r4 =>
        cases r4
        cases r2 with
        | lst t2 r2 =>
          cases r3 with
          | lst t3 r3 =>
            rename_i a xs b ys
            refine ⟨a, b, xs, ys, rfl, .inl ⟨by rw [hK]; exact g1.sub.seq t2, by rw [hK]; exact g1.sub.seq t3, ?_⟩⟩
            rw [hK]
            refine h1 _ Hf1 H1 (Gr.refl g1.sub) ⟨_, _, walk_zip (by rw [List.length_zipWith, r2.length, r3.length]), fun Hf2 H2 s1 s2 => ⟨(s1.trans s2).seq t2, (s1.trans s2).seq t3⟩, fun i Hf2 H2 x H3 hi s1 s2 y => pair_item r2 r3 s1 s2 y⟩
  · rename_i l m _
    cases r1 with
    | cons r2 r3 =>
      cases r3 with
      | cons r3 r4 =>
        cases r4
        cases r2 with
        | tup t2 r2 =>
          cases r3 with
          | tup t3 r3 =>
            rename_i a xs b ys
            by_cases hl : l.length = m.length
            · rw [if_pos hl] at h1
              refine ⟨a, b, xs, ys, rfl, .inr ⟨by rw [hK]; exact Bp.seqT g1.sub t2, by rw [hK]; exact Bp.seqT g1.sub t3, ?_⟩⟩
              rw [hK]
              have l1 := r2.length
              have l2 := r3.length
              refine h1 _ Hf1 H1 (Gr.refl g1.sub) ⟨_, _, Bp.walk_zipT (n := (List.zipWith (fun x y => PV.tup [x, y]) l m).length) (by rw [List.length_zipWith]; omega) (by rw [List.length_zipWith]; omega), fun Hf2 H2 s1 s2 => ⟨Bp.seqT (s1.trans s2) t2, Bp.seqT (s1.trans s2) t3⟩, fun i Hf2 H2 x H3 hi s1 s2 y => pair_item r2 r3 s1 s2 y⟩
            · rw [if_neg hl] at h1
              exact h1.elim
  · exact h1.elim
/-- enumerate of a list -/
def enum1 (l : List PV) : R (List PV) := match l with
  | [.lst a] => .ok (List.zipWith (fun x y => .tup [x, y]) (rngL 0 a.length) a)
  | _ => .bad
/-! ### for -/
def forP (bn : Bnd) (body : Env → F) : List PV → Env → F
  | [], env => .nx env
  | p :: l, env => match bn p env with
    | none => .bad
    | some e => match body e with
      | .nx e => forP bn body l e
      | .ct e => forP bn body l e
      | .bk e => .nx e
      | .rt v => .rt v
      | .er e c fs => .er e c fs
      | .bad => .bad
def forE (di : Env → R (List PV)) (bn : Bnd) (body : Env → F) (env : Env) : F := match di env with | .ok l => forP bn body l env | .er c fs => .er env c fs | .bad => .bad
theorem js_for (hp : PassesOwn (model X.prog X.w) X.A X.env X.xe) (hc : X.calm = true) (hi : JI G X W tg iter dl) (hg : JG G X tg bn vs) (hb : JSs G X W sts f) (hs : ∀ x, foldedSetIterable iter X.env x = pure x := by intro _; rfl) :
    JS G X W (.For tg iter sts [] pos) (forE dl bn f) := by
  obtain ⟨wi, pi, ji⟩ := hi
  obtain ⟨g, pg, jg⟩ := hg
  obtain ⟨tb, pb, jb⟩ := hb
  refine ⟨_, ps_for hp hc pi pg pb hs, fun Hf0 H0 Hf H env σ D S h => ji H0 Hf H env σ _ S.gr.sub S.env ?_⟩
  unfold forE at h
  cases e : dl env with
  | bad => rw [e] at h; exact h.elim
  | er c fs =>
    rw [e] at h
    exact fun Hf' H' d g r => h σ Hf' H' d (S.grow g) g.fz r
  | ok l =>
    rw [e] at h
    rintro J Hf1 H1 g1 ⟨GG, Y, w, hG, hY⟩
    refine for_it w (fun i σ H2 => ∃ Hf2 env2, StOk G Hf0 H0 Hf2 H2 env2 σ ∧ Same Hf1 Hf2 ∧ PostS G W D Hf0 H0 Hf2 (forP bn f (l.drop i) env2)) ⟨Hf1, env, S.grow g1, fun _ _ h => h, h.step g1.fz⟩
      (fun i σ H2 _ ⟨Hf2, env2, S2, s2, _⟩ => hG Hf2 H2 s2 S2.gr.sub) ?_ ?_
    · rintro i x σ2 H2 H3 hi ⟨Hf2, env2, S2, s2, k⟩ y
      obtain ⟨Hf3, g3, p, ep, rp⟩ := hY i Hf2 H2 x H3 hi s2 S2.gr.sub y
      have dr : l.drop i = p :: l.drop (i + 1) := by
        rw [List.drop_eq_getElem_cons hi]
        have : l[i] = p := by
          have := List.getElem?_eq_getElem hi
          rw [ep] at this
          exact (Option.some.inj this).symm
        rw [this]
      rw [dr] at k
      unfold forP at k
      have S3 := S2.grow g3
      have k3 := k.step g3.fz
      refine jg H0 Hf3 H3 env2 σ2 p x _ g3.sub S3.env rp ?_
      cases eb : bn p env2 with
      | none => rw [eb] at k; exact k.elim
      | some env3 =>
        rw [eb] at k3
        simp only at k3
        refine fun σ' E' _ => jb Hf0 H0 Hf3 H3 env3 σ' _ ⟨S3.gr, E'⟩ ?_
        have sm := s2.trans g3.fz
        cases ef : f env3 with
        | nx e4 => rw [ef] at k3; exact fun σ4 Hf4 H4 S4 s4 => ⟨Hf4, e4, S4, sm.trans s4, PostS.step k3 s4⟩
        | ct e4 => rw [ef] at k3; exact fun σ4 Hf4 H4 S4 s4 => ⟨Hf4, e4, S4, sm.trans s4, PostS.step k3 s4⟩
        | bk e4 => rw [ef] at k3; exact k3
        | rt v => rw [ef] at k3; exact k3
        | er e4 c fs => rw [ef] at k3; exact k3
        | bad => rw [ef] at k3; exact k3.elim
    · rintro σ2 H2 ⟨Hf2, env2, S2, s2, k⟩
      rw [List.drop_length] at k
      exact k σ2 Hf2 H2 S2 (fun _ _ h => h)
/-! ### while -/
def whileP (c : Env → R Bool) (body : Env → F) : Nat → Env → F
  | 0, _ => .bad
  | n + 1, env => match c env with
    | .ok true => (match body env with
      | .nx e => whileP c body n e
      | .ct e => whileP c body n e
      | .bk e => .nx e
      | .rt v => .rt v
      | .er e c fs => .er e c fs
      | .bad => .bad)
    | .ok false => .nx env
    | .er k fs => .er env k fs
    | .bad => .bad
def whileE (fuel : Env → Nat) (c : Env → R Bool) (body : Env → F) (env : Env) : F := whileP c body (fuel env) env
theorem js_while (fuel : Env → Nat) (hp : PassesOwn (model X.prog X.w) X.A X.env X.xe) (ht : JT G X W c p) (hb : JSs G X W sts f) : JS G X W (.While c sts [] pos) (whileE fuel p f) := by
  obtain ⟨tc, pc, jc⟩ := ht
  obtain ⟨tb, pb, jb⟩ := hb
  refine ⟨_, ps_while hp pc pb, fun Hf0 H0 Hf H env σ D S h => ?_⟩
  refine ⟨fun m σ H2 => ∃ Hf2 env2, StOk G Hf0 H0 Hf2 H2 env2 σ ∧ PostS G W D Hf0 H0 Hf2 (whileP p f m env2), ⟨fuel env, Hf, env, S, h⟩, ?_⟩
  rintro m σ2 H2 ⟨Hf2, env2, S2, k⟩
  cases m with
  | zero => exact k.elim
  | succ m =>
    unfold whileP at k
    refine jc H0 Hf2 H2 env2 σ2 _ S2.gr.sub S2.env ?_
    cases e : p env2 with
    | bad => rw [e] at k; exact k.elim
    | er c fs =>
      rw [e] at k
      exact fun Hf' H' d g r => k σ2 Hf' H' d (S2.grow g) g.fz r
    | ok b =>
      rw [e] at k
      rintro v Hf3 H3 g3 rfl
      cases v with
      | false =>
        rw [if_neg Bool.false_ne_true]
        exact k σ2 Hf3 H3 (S2.grow g3) g3.fz
      | true =>
        rw [if_pos rfl]
        simp only at k
        refine ⟨fun σ' H' => ∃ Hf4 env4, StOk G Hf0 H0 Hf4 H' env4 σ' ∧ PostS G W D Hf0 H0 Hf4 (whileP p f m env4), fun σ' H' q => ⟨m, Nat.lt_succ_self _, q⟩, ?_⟩
        refine jb Hf0 H0 Hf3 H3 env2 σ2 _ (S2.grow g3) ?_
        cases ef : f env2 with
        | nx e4 => rw [ef] at k; exact fun σ4 Hf4 H4 S4 s4 => ⟨Hf4, e4, S4, PostS.step k (g3.fz.trans s4)⟩
        | ct e4 => rw [ef] at k; exact fun σ4 Hf4 H4 S4 s4 => ⟨Hf4, e4, S4, PostS.step k (g3.fz.trans s4)⟩
        | bk e4 => rw [ef] at k; exact PostS.step (f := .nx e4) k g3.fz
        | rt v => rw [ef] at k; exact PostS.step (f := .rt v) k g3.fz
        | er e4 c fs => rw [ef] at k; exact PostS.step (f := .er e4 c fs) k g3.fz
        | bad => rw [ef] at k; exact k.elim
end
end J

namespace J
open PySem.Spec PySem PyProof.Rows
open L2 hiding St Takes XE CX takes_of PMk MkP ps_raise mk_of ps_try_as ps_try_many pmk_own passAt passes_call takes0 passL
open L2N hiding St

/-! ### comprehensions -/
def mapFR (t : PV → R Bool) (f : PV → R PV) : List PV → R (List PV)
  | [] => .ok []
  | p :: l => (t p).bind fun b => if b = true then (f p).bind fun q => (mapFR t f l).bind fun r => .ok (q :: r) else mapFR t f l
theorem mapFR_snoc (t : PV → R Bool) (f : PV → R PV) : ∀ (l : List PV) (p : PV) (r : List PV), mapFR t f (l ++ [p]) = .ok r → ∃ r0, mapFR t f l = .ok r0 ∧ ∃ b, t p = .ok b ∧ (b = true → ∃ q, f p = .ok q ∧ r = r0 ++ [q]) ∧ (b = false → r = r0)
  | [], p, r, h => by
    simp only [List.nil_append, mapFR] at h
    refine ⟨[], rfl, ?_⟩
    cases e : t p with
    | ok b =>
      rw [e] at h
      refine ⟨b, rfl, fun z => ?_, fun z => ?_⟩
      · subst z
        simp only [R.bind_ok, if_true] at h
        cases e2 : f p with
        | ok q => rw [e2] at h; simp only [R.bind_ok] at h; cases h; exact ⟨q, rfl, rfl⟩
        | er c fs => rw [e2] at h; cases h
        | bad => rw [e2] at h; cases h
      · subst z
        simp only [R.bind_ok, Bool.false_eq_true, if_false] at h
        cases h
        rfl
    | er c fs => rw [e] at h; cases h
    | bad => rw [e] at h; cases h
  | u :: l, p, r, h => by
    simp only [List.cons_append, mapFR] at h
    cases e : t u with
    | ok b =>
      rw [e] at h
      simp only [R.bind_ok] at h
      cases b with
      | true =>
        simp only [if_true] at h
        cases e2 : f u with
        | ok q =>
          rw [e2] at h
          simp only [R.bind_ok] at h
          cases e3 : mapFR t f (l ++ [p]) with
          | ok r1 =>
            rw [e3] at h
            simp only [R.bind_ok] at h
            cases h
            obtain ⟨r0, e0, b, eb, hb1, hb2⟩ := mapFR_snoc t f l p r1 e3
            refine ⟨q :: r0, by simp [mapFR, e, e2, e0], b, eb, fun z => ?_, fun z => by rw [hb2 z]⟩
            obtain ⟨q', f1, f2⟩ := hb1 z
            exact ⟨q', f1, by rw [f2]; rfl⟩
          | er c fs => rw [e3] at h; cases h
          | bad => rw [e3] at h; cases h
        | er c fs => rw [e2] at h; cases h
        | bad => rw [e2] at h; cases h
      | false =>
        simp only [Bool.false_eq_true, if_false] at h
        obtain ⟨r0, e0, b, eb, hb1, hb2⟩ := mapFR_snoc t f l p r h
        exact ⟨r0, by simp [mapFR, e, e0], b, eb, hb1, hb2⟩
    | er c fs => rw [e] at h; cases h
    | bad => rw [e] at h; cases h
theorem mapFR_pre (t : PV → R Bool) (f : PV → R PV) : ∀ (m l : List PV) (r : List PV), mapFR t f (l ++ m) = .ok r → ∃ r0, mapFR t f l = .ok r0 ∧ r0.length ≤ r.length
  | [], l, r, h => ⟨r, by simpa using h, Nat.le_refl _⟩
  | p :: m, l, r, h => by
    have e : l ++ p :: m = (l ++ [p]) ++ m := by simp
    rw [e] at h
    obtain ⟨r1, e1, l1⟩ := mapFR_pre t f m (l ++ [p]) r h
    obtain ⟨r0, e0, b, _, hb1, hb2⟩ := mapFR_snoc t f l p r1 e1
    refine ⟨r0, e0, Nat.le_trans ?_ l1⟩
    cases b with
    | true =>
      obtain ⟨q, _, e2⟩ := hb1 rfl
      rw [e2]
      simp
    | false => rw [hb2 rfl]; exact Nat.le_refl _
/-- errors within a comprehension are not told of -/
def noE {α : Type} (r : R α) : R α := match r with | .ok a => .ok a | _ => .bad
theorem wipe_wipe {σ : L2.St} {vs : List Nat} : wipe (wipe σ vs) vs = wipe σ vs := by
  apply List.ext_getElem?
  intro j
  rw [wipe_get, wipe_length, wipe_get]
  by_cases c : j ∈ vs ∧ j < σ.length
  · rw [if_pos c, if_pos c]
  · rw [if_neg c]
def lcE (vs : List Nat) (di : Env → R (List PV)) (bn : Bnd) (t : Env → R Bool) (d : Env → R PV) (env : Env) : R PV := (di env).bind fun l =>
  (noE (mapFR (fun p => match bn p (wipeE env vs) with | some e => noE (t e) | none => .bad) (fun p => match bn p (wipeE env vs) with | some e => noE (d e) | none => .bad) l)).bind fun r => if r.length ≤ 1000 then .ok (.lst r) else .bad
def yesT (_ : Env) : R Bool := .ok true
abbrev W0 : WX := fun _ _ _ _ => False
section
variable {G : Ga} {X : Cx} {W : WX} {Hf0 H0 Hf H Hf' H' : Hp} {env : Env} {σ : L2.St} {i : Nat} {x : Str} {pos pos2 : Pos} {e e2 a b c tg iter elt : Expr} {d da db dc : Env → R PV} {es ifs : List Expr} {st : Stmt} {sts : List Stmt} {f g : Env → F} {p q t : Env → R Bool} {dl : Env → R (List PV)} {vs : List Nat} {bn : Bnd}
structure JTs (G : Ga) (X : Cx) (W : WX) (es : List Expr) (d : Env → R Bool) : Prop where
  ex : ∃ tt, PTs X es tt ∧ TJT G W tt d
theorem jts_nil : JTs G X W [] yesT := ⟨_, pts_nil, fun H0 Hf H env σ Q s E h => h true Hf H (Gr.refl s) rfl⟩
theorem jts_one (h : JT G X W a p) : JTs G X W [a] p := let ⟨t, pt, jt⟩ := h.ex; ⟨_, pts_one pt, jt⟩
theorem postG_noE {α β : Type} {G : Gb} {Rl : Hp → α → β → Prop} {r : R α} {a : α} {Q : β → Hp → Prop} (h : noE r = .ok a) (k : ∀ v Hf' H', Gr Hf H Hf' H' → Rl Hf' a v → Q v H') : PostG G W0 Rl Hf H σ r Q := by
  cases r with
  | ok b => cases h; exact k
  | er c fs => cases h
  | bad => cases h
theorem tj_lc {wi : TI} {g : TG} {tt : TT} {te : TE} (ji : TJI G W wi dl) (jg : TJG G g bn vs) (jt : TJT G W0 tt t) (je : TJ G W0 te d) : TJ G W (tLc wi g tt te vs) (lcE vs dl bn t d) := fun H0 Hf H env σ Q s E h => by
  refine ji H0 Hf H env σ _ s E (PostG.bind h fun l J Hf1 H1 _ g1 ⟨GG, Y, w, hG, hY⟩ h1 => ?_)
  intro D hD
  cases em : mapFR (fun p => match bn p (wipeE env vs) with | some e => noE (t e) | none => .bad) (fun p => match bn p (wipeE env vs) with | some e => noE (d e) | none => .bad) l with
  | er c fs => rw [em] at h1; exact h1.elim
  | bad => rw [em] at h1; exact h1.elim
  | ok r =>
    rw [em] at h1
    simp only [noE, R.bind_ok] at h1
    by_cases hl : r.length ≤ 1000
    · rw [if_pos hl] at h1
      have nf1 := none_back g1.sub hD
      refine lc_it w (fun i H2 => ∃ Hf2 acc ri, Gr Hf1 H1 Hf2 H2 ∧ H2 D = some (.lst acc) ∧ Hf2 D = none ∧ mapFR (fun p => match bn p (wipeE env vs) with | some e => noE (t e) | none => .bad) (fun p => match bn p (wipeE env vs) with | some e => noE (d e) | none => .bad) (l.take i) = .ok ri ∧ Reps G Hf2 ri acc)
        ⟨Hf1, [], [], Gr.up g1.sub (Same.new hD), upd_same, nf1, rfl, .nil⟩ (fun i H2 _ ⟨Hf2, _, _, g2, _⟩ => hG Hf2 H2 g2.fz g2.sub) ?_ ?_
      · rintro i x H2 H3 hi ⟨Hf2, acc, ri, g2, hacc, hfD, eri, ra⟩ y
        obtain ⟨Hf3, g3, p, ep, rp⟩ := hY i Hf2 H2 x H3 hi g2.fz g2.sub y
        have tk : l.take (i + 1) = l.take i ++ [p] := by
          rw [List.take_succ, ep]
          rfl
        have pre := mapFR_pre _ _ (l.drop (i + 1)) (l.take (i + 1)) r (by rw [List.take_append_drop]; exact em)
        obtain ⟨r1, er1, lr1⟩ := pre
        have er1' := er1
        rw [tk] at er1'
        obtain ⟨r0, e0, b, eb, hb1, hb2⟩ := mapFR_snoc _ _ _ _ _ er1'
        rw [eri] at e0
        cases e0
        have E3 : EnvOk G H0 Hf3 H3 (wipeE env vs) (wipe σ vs) := (((E.grow g1).grow g2).grow g3).wipe vs
        have n3 : Hf3 D = none := by
          cases e : Hf3 D with
          | none => rfl
          | some o =>
            rcases g3.new D o e with z | z
            · rw [hfD] at z; cases z
            · rw [hacc] at z; cases z
        refine jg H0 Hf3 H3 _ _ p x _ g3.sub E3 rp ?_
        cases ebn : bn p (wipeE env vs) with
        | none => simp only [ebn] at eb; cases eb
        | some e4 =>
          simp only [ebn] at eb hb1
          intro σ4 E4 w4
          refine ⟨by rw [w4]; exact wipe_wipe, ?_⟩
          refine jt H0 Hf3 H3 e4 σ4 _ g3.sub E4 (postG_noE eb fun v Hf5 H5 g5 rv => ?_)
          subst rv
          have g15 := (g2.trans g3).trans g5
          have hacc5 := g5.hp _ _ (g3.hp _ _ hacc)
          have n5 : Hf5 D = none := by
            cases e : Hf5 D with
            | none => rfl
            | some o =>
              rcases g5.new D o e with z | z
              · rw [n3] at z; cases z
              · rw [g3.hp _ _ hacc] at z; cases z
          cases v with
          | false =>
            rw [if_neg Bool.false_ne_true]
            exact ⟨Hf5, acc, r1, g15, hacc5, n5, er1, by rw [hb2 rfl]; exact (ra.mono g3.fz).mono g5.fz⟩
          | true =>
            rw [if_pos rfl]
            obtain ⟨q, eq, er⟩ := hb1 rfl
            refine je H0 Hf5 H5 e4 σ4 _ g5.sub (E4.grow g5) (postG_noE eq fun v Hf6 H6 g6 rv => ?_)
            have hacc6 := g6.hp _ _ hacc5
            have n6 : Hf6 D = none := by
              cases e : Hf6 D with
              | none => rfl
              | some o =>
                rcases g6.new D o e with z | z
                · rw [n5] at z; cases z
                · rw [hacc5] at z; cases z
            have ra6 := ((ra.mono g3.fz).mono g5.fz).mono g6.fz
            have lacc : acc.length = ri.length := ra.length.symm
            have g16 := g15.trans g6
            refine ⟨acc, hacc6, ?_, Hf6, acc ++ [v], r1, ⟨g16.fz, fun b o hb => ?_, fun b o hb => ?_, g16.new⟩, upd_same, n6, er1, by rw [er]; exact ra6.append (.cons rv .nil)⟩
            · have : acc.length ≤ 1000 := by
                rw [lacc]
                have : ri.length ≤ r1.length := by rw [er]; simp
                omega
              exact Nat.lt_of_le_of_lt this (by decide)
            · rw [upd_ne (ne_of_none hb hD)]
              exact g16.hp _ _ hb
            · rw [upd_ne (ne_of_none hb n6)]
              exact g16.sub _ _ hb
      · rintro H2 ⟨Hf2, acc, ri, g2, hacc, hfD, eri, ra⟩
        rw [List.take_length, em] at eri
        cases eri
        exact h1 _ _ H2 (g2.frz hD hfD hacc) (.lst (SqL.of upd_same) (ra.mono (Same.new hfD)))
    · rw [if_neg hl] at h1
      exact h1.elim

variable {scope : Scope} {own : List (Str × Nat)}
/-! ### the reading that d itself gives -/
def teOf (G : Ga) (W : WX) (d : Env → R PV) : TE := fun σ H Q => ∃ H0 Hf env, Same Hf H ∧ EnvOk G H0 Hf H env σ ∧ Post G W Hf H σ (d env) Q
def ttOf (G : Ga) (W : WX) (d : Env → R Bool) : TT := fun σ H Q => ∃ H0 Hf env, Same Hf H ∧ EnvOk G H0 Hf H env σ ∧ PostT G W Hf H σ (d env) Q
def tsOf (G : Ga) (W : WX) (d : Env → F) : TS := fun D σ H => ∃ Hf0 H0 Hf env, StOk G Hf0 H0 Hf H env σ ∧ PostS G W D Hf0 H0 Hf (d env)
def tgOf (G : Ga) (b : Bnd) (vs : List Nat) : TG := fun v σ H Q => ∃ H0 Hf env p, Same Hf H ∧ EnvOk G H0 Hf H env σ ∧ Rep G Hf p v ∧ (match b p env with | some e => ∀ σ', EnvOk G H0 Hf H e σ' → wipe σ' vs = wipe σ vs → Q σ' H | none => False)
theorem JE.pe (h : JE G X W e d) : PE X e (teOf G W d) := let ⟨te, pe, je⟩ := h.ex; ⟨fun pins s σ H Q I ⟨H0, Hf, env, sb, E, k⟩ => pe.run pins s σ H Q I (je H0 Hf H env σ Q sb E k)⟩
theorem JTs.pts (h : JTs G X W es t) : PTs X es (ttOf G W t) := let ⟨te, pe, je⟩ := h.ex; ⟨fun pins s σ H Q I ⟨H0, Hf, env, sb, E, k⟩ => pe.run pins s σ H Q I (je H0 Hf H env σ Q sb E k)⟩
theorem JSs.pss (h : JSs G X W sts f) : PSs X sts (tsOf G W f) := let ⟨te, pe, je⟩ := h.ex; ⟨fun pins s σ H D I ⟨Hf0, H0, Hf, env, S, k⟩ => pe.run pins s σ H D I (je Hf0 H0 Hf H env σ D S k)⟩
theorem JG.pg (h : JG G X tg bn vs) : PG X tg (tgOf G bn vs) := let ⟨te, pe, je⟩ := h.ex; ⟨fun pins s σ H v u Q I r ⟨H0, Hf, env, p, sb, E, rp, k⟩ => pe.run pins s σ H v u Q I r (je H0 Hf H env σ p v Q sb E rp k)⟩
theorem tj_of : TJ G W (teOf G W d) d := fun H0 Hf H env σ Q s E h => ⟨H0, Hf, env, s, E, h⟩
theorem tjt_of : TJT G W (ttOf G W t) t := fun H0 Hf H env σ Q s E h => ⟨H0, Hf, env, s, E, h⟩
theorem tjg_of : TJG G (tgOf G bn vs) bn vs := fun H0 Hf H env σ p v Q s E r h => ⟨H0, Hf, env, p, s, E, r, h⟩
theorem tsj_of : TSJ G W (tsOf G W f) f := fun Hf0 H0 Hf H env σ D S h => ⟨Hf0, H0, Hf, env, S, h⟩
theorem je_lc (own : List (Str × Nat)) (nd : X.N.Nodup) (hi : JI G X W tg iter dl) (ok : blkC X.N X.env.scope scope own = true)
    (hg : ∀ (s : Shared) (H : Hp) (C : Addr) (cl : List (Str × Addr)) (fp : List Addr), JG G (X.blk s H scope (compEnvC scope cl C X.env) fp) tg bn (own.map (·.2)))
    (ht : ∀ (s : Shared) (H : Hp) (C : Addr) (cl : List (Str × Addr)) (fp : List Addr), JTs G (X.blk s H scope (compEnvC scope cl C X.env) fp) W0 ifs t)
    (he : ∀ (s : Shared) (H : Hp) (C : Addr) (cl : List (Str × Addr)) (fp : List Addr), JE G (X.blk s H scope (compEnvC scope cl C X.env) fp) W0 elt d)
    (hc : X.calm = true := by rfl) (hs : ∀ x, foldedSetIterable iter X.env x = pure x := by intro _; rfl) : JE G X W (.ListComp elt [⟨tg, iter, ifs, 0⟩] scope pos) (lcE (own.map (·.2)) dl bn t d) := by
  obtain ⟨wi, pi, ji⟩ := hi
  exact ⟨_, pe_lc hc nd pi (blkOk_by ok) (fun s H C cl fp => (hg s H C cl fp).pg) (fun s H C cl fp => (ht s H C cl fp).pts) (fun s H C cl fp => (he s H C cl fp).pe) hs, tj_lc ji tjg_of tjt_of tj_of⟩
/-- y = [..] -/
theorem js_setLc {y : Str} {py spos : Pos} (i : Nat) (own : List (Str × Nat)) (nd : X.N.Nodup) (hi : JI G X W tg iter dl) (ok : blkC X.N X.env.scope scope own = true)
    (hg : ∀ (s : Shared) (H : Hp) (C : Addr) (cl : List (Str × Addr)) (fp : List Addr), JG G (X.blk s H scope (compEnvC scope cl C X.env) fp) tg bn (own.map (·.2)))
    (ht : ∀ (s : Shared) (H : Hp) (C : Addr) (cl : List (Str × Addr)) (fp : List Addr), JTs G (X.blk s H scope (compEnvC scope cl C X.env) fp) W0 ifs t)
    (he : ∀ (s : Shared) (H : Hp) (C : Addr) (cl : List (Str × Addr)) (fp : List Addr), JE G (X.blk s H scope (compEnvC scope cl C X.env) fp) W0 elt d)
    (hsw : swapsWith (.ListComp elt [⟨tg, iter, ifs, 0⟩] scope pos) (some (.Name y py)) spos.line X.env = pure true) (hy : X.N[i]? = some y := by rfl) (hyl : X.env.scope.names.lookup y = some .local := by rfl)
    (hc : X.calm = true := by rfl) (hs : ∀ x, foldedSetIterable iter X.env x = pure x := by intro _; rfl) : JS G X W (.Assign [.Name y py] (.ListComp elt [⟨tg, iter, ifs, 0⟩] scope pos) spos) (setF i (lcE (own.map (·.2)) dl bn t d)) := by
  obtain ⟨wi, pi, ji⟩ := hi
  exact ⟨_, ps_setLc hc nd hy hyl hsw pi (blkOk_by ok) (fun s H C cl fp => (hg s H C cl fp).pg) (fun s H C cl fp => (ht s H C cl fp).pts) (fun s H C cl fp => (he s H C cl fp).pe) hs,
    fun Hf0 H0 Hf H env σ D S h => tj_lc ji tjg_of tjt_of tj_of H0 Hf H env σ _ S.gr.sub S.env (post_lift S h fun p v Hf' H' g S' r k => k _ Hf' H' ⟨S'.gr, S'.env.setV r⟩ (fun _ _ h => h))⟩
end
/-! ### defs -/
def env0 (n : Nat) (l : List PV) : Env := l.map .val ++ List.replicate (n - l.length) .no
/-- what a body comes to, as a def's answer -/
def ansF (f : F) : R PV := match f with | .rt p => .ok p | .nx _ => .ok .non | .er _ c fs => .er c fs | _ => .bad
def fnJ (np nn : Nat) (d : Env → F) (l : List PV) : R PV := if l.length = np then ansF (d (env0 nn l)) else .bad
section
variable {G : Gb} {Hf H : Hp}
theorem env0_ok {N : List Str} {l : List PV} {vs : List V} (r : Reps G Hf l vs) : EnvOk ⟨G, none, none⟩ H Hf H (env0 N.length l) (L2.start N vs) := by
  have hl := r.length
  refine ⟨by unfold env0 L2.start; simp [hl], fun i => ?_, fun i j a hi => ?_⟩
  · unfold env0 L2.start Env.at
    rw [List.getD_eq_getElem?_getD]
    by_cases h : i < l.length
    · rw [List.getElem?_append_left (by simpa using h), List.getElem?_append_left (by simpa using hl ▸ h), List.getElem?_map, List.getElem?_map]
      have e : l[i]? = some l[i] := List.getElem?_eq_getElem h
      obtain ⟨v, ev, rv⟩ := r.get e
      rw [e, ev]
      exact ⟨v, rfl, rv⟩
    · rw [List.getElem?_append_right (by simpa using Nat.le_of_not_lt h)]
      have : ((List.replicate (N.length - l.length) Sl.no)[i - (l.map Sl.val).length]?).getD Sl.no = .no := by
        rw [List.getElem?_replicate]
        split <;> rfl
      rw [this]
      trivial
  · exfalso
    unfold env0 Env.at at hi
    rw [List.getD_eq_getElem?_getD] at hi
    by_cases h : i < l.length
    · rw [List.getElem?_append_left (by simpa using h), List.getElem?_map, List.getElem?_eq_getElem h] at hi
      cases hi
    · rw [List.getElem?_append_right (by simpa using Nat.le_of_not_lt h), List.getElem?_replicate] at hi
      split at hi <;> cases hi
variable {P : Program} {w : World} {K : PySem.W.Frag} {mg : Str → Option Value} {base : Heap}
abbrev WD (E : XK) : WX := fun cls d _ H => E cls d H
theorem body_ok {X : Cx} {E : XK} {sts : List Stmt} {d : Env → F} {N ps : List Str} {vs : List V} {Q : VK} (h : JSs ⟨G, none, none⟩ X (WD E) sts d) (q : spJ G (fnJ ps.length N.length d) vs H Q E) :
    ∃ t, PSs X sts t ∧ t { nx := fun _ H' => Q .non H', rt := Q } (L2.start N vs) H := by
  obtain ⟨t, pt, jt⟩ := h
  obtain ⟨Hf, l, s, r, q⟩ := q
  refine ⟨t, pt, jt Hf H Hf H _ _ _ ⟨Gr.refl s, env0_ok (N := N) r⟩ ?_⟩
  unfold fnJ at q
  by_cases hl : l.length = ps.length
  · rw [if_pos hl] at q
    unfold ansF at q
    cases e : d (env0 N.length l) with
    | rt p => rw [e] at q; exact fun v Hf' H' g _ rp => q v Hf' H' g rp
    | nx e' => rw [e] at q; exact fun σ' Hf' H' S _ => q .non Hf' H' S.gr .non
    | er e' c fs => rw [e] at q; exact fun σ' Hf' H' d S _ ed => q Hf' H' d S.gr ed
    | bk e' => rw [e] at q; exact q.elim
    | ct e' => rw [e] at q; exact q.elim
    | bad => rw [e] at q; exact q.elim
  · rw [if_neg hl] at q
    exact q.elim
theorem len_ok {ps : List Str} {n : Nat} {d : Env → F} : ∀ vs H Q E, spJ G (fnJ ps.length n d) vs H Q E → vs.length = ps.length := fun vs H Q E ⟨Hf, l, s, r, q⟩ => by
  unfold fnJ at q
  by_cases hl : l.length = ps.length
  · rw [← r.length, hl]
  · rw [if_neg hl] at q
    exact q.elim
theorem jdef {x : Str} {st : Stmt} {ps N : List Str} {k : Nat} {d : Env → F} (F : Bp.GFun K mg x st ps) (S : FnScope N ps (defScope st))
    (h : ∀ (f : Addr) (cdv : Value) (A : Around) (outer : List PySem.Env) (s : Shared) (H : Hp) (E : XK), Room k (A.deeper (envOfC x (defScope st) s.heap.objs.size f cdv)) → JSs ⟨G, none, none⟩ (cxOf (L2N.CX P w) P w K mg base N x (defScope st) f cdv A outer s H E) (WD E) (defBody st) d) :
    Bp.Def P w K mg base (k + 1) x ps (spJ G (fnJ ps.length N.length d)) := F.ok S len_ok fun f cdv A outer s H vs Q E hr q => body_ok (h f cdv A outer s H E hr) q
theorem jmeth {m qual : Str} {C : Addr} {st : Stmt} {ps N : List Str} {k : Nat} {d : Env → F} (F : Bp.MFun K C m qual st ps) (S : FnScope N ps (defScope st))
    (h : ∀ (f : Addr) (cdv : Value) (A : Around) (outer : List PySem.Env) (s : Shared) (H : Hp) (E : XK), Room k (A.deeper (envOfC qual (defScope st) s.heap.objs.size f cdv)) → JSs ⟨G, none, none⟩ (cxOf (L2N.CX P w) P w K mg base N qual (defScope st) f cdv A outer s H E) (WD E) (defBody st) d) :
    Bp.MDef P w K mg base (k + 1) C m ps (spJ G (fnJ ps.length N.length d)) := F.ok S len_ok fun f cdv A outer s H vs Q E hr q => body_ok (h f cdv A outer s H E hr) q
end
end J

namespace J
open PySem.Spec PySem PyProof.Rows
open L2 hiding St Takes XE CX takes_of PMk MkP ps_raise mk_of ps_try_as ps_try_many pmk_own passAt passes_call takes0 passL
open L2N hiding St
open Bp (OpS R2S)

section
variable {G : Gb} {X : Cx} {W : WX} {Hf H : Hp} {σ : L2.St}
/-! ### ints -/
def iOp0 (g : Int → Int → PV) (a b : PV) : R PV := match a, b with | .int i, .int j => .ok (g i j) | _, _ => .bad
noncomputable def iOp (c : Int → Int → Prop) (g : Int → Int → PV) (a b : PV) : R PV := match a, b with | .int i, .int j => (open Classical in if c i j then .ok (g i j) else .bad) | _, _ => .bad
theorem opj_int0 {f : Value → Value → Sem Value} {gV : Int → Int → V} {g : Int → Int → PV} (ho : OpR X f (rI0 gV)) (hg : ∀ Hf i j, Rep G Hf (g i j) (gV i j)) : OpJ G X W f (iOp0 g) :=
  ⟨_, OpS.of ho, fun Hf H σ x y a b Q s ra rb h => by
    unfold iOp0 at h
    split at h
    · rename_i i j
      exact ⟨i, j, ra.of_int, rb.of_int, h _ Hf H (Gr.refl s) (hg Hf i j)⟩
    · exact h.elim⟩
theorem opj_int {f : Value → Value → Sem Value} {cV c : Int → Int → Prop} {gV : Int → Int → V} {g : Int → Int → PV} (ho : OpR X f (rI cV gV)) (hc : ∀ i j, c i j → cV i j) (hg : ∀ Hf i j, Rep G Hf (g i j) (gV i j)) : OpJ G X W f (iOp c g) :=
  ⟨_, OpS.of ho, fun Hf H σ x y a b Q s ra rb h => by
    unfold iOp at h
    split at h
    · rename_i i j
      by_cases k : c i j
      · rw [if_pos k] at h
        exact ⟨i, j, ra.of_int, rb.of_int, hc i j k, h _ Hf H (Gr.refl s) (hg Hf i j)⟩
      · rw [if_neg k] at h
        exact h.elim
    · exact h.elim⟩
def addI : PV → PV → R PV := iOp0 fun i j => .int (i + j)
def subI : PV → PV → R PV := iOp0 fun i j => .int (i - j)
noncomputable def mulI : PV → PV → R PV := iOp (fun i j => Bd 400000 i ∧ Bd 400000 j) fun i j => .int (i * j)
noncomputable def fdivI : PV → PV → R PV := iOp (fun _ j => 0 < j ∧ Bd 8999 j) fun i j => .int (i / j)
noncomputable def modI : PV → PV → R PV := iOp (fun _ j => 0 < j) fun i j => .int (i % j)
noncomputable def powI : PV → PV → R PV := iOp (fun i j => 0 ≤ j ∧ j ≤ 1000 ∧ Bd 63 i) fun i j => .int (i ^ j.toNat)
def ltI : PV → PV → R PV := iOp0 fun i j => .bl (decide (i < j))
def leI : PV → PV → R PV := iOp0 fun i j => .bl (decide (i ≤ j))
def gtI : PV → PV → R PV := iOp0 fun i j => .bl (decide (j < i))
def geI : PV → PV → R PV := iOp0 fun i j => .bl (decide (j ≤ i))
theorem o_add : OpJ G X W (binaryOp .Add) addI := opj_int0 op_add fun _ _ _ => .int _
theorem o_sub : OpJ G X W (binaryOp .Sub) subI := opj_int0 op_sub fun _ _ _ => .int _
theorem o_mul : OpJ G X W (binaryOp .Mult) mulI := opj_int op_mulW (fun i j h => by
  have h1 := h.1.log (by decide)
  have h2 := h.2.log (by decide)
  show _ < 1000000
  omega) fun _ _ _ => .int _
theorem o_fdiv : OpJ G X W (binaryOp .FloorDiv) fdivI := opj_int op_fdivW (fun i j h => ⟨h.1, Nat.lt_trans (h.2.log (by decide)) (by decide)⟩) fun _ _ _ => .int _
theorem o_mod : OpJ G X W (binaryOp .Mod) modI := opj_int op_mod (fun i j h => h) fun _ _ _ => .int _
theorem o_pow : OpJ G X W (binaryOp .Pow) powI := opj_int op_pow (fun i j h => ⟨h.1, by omega, Nat.lt_trans h.2.2.lt (Nat.pow_lt_pow_right (by decide) (by decide))⟩) fun _ _ _ => .int _
theorem o_lt : OpJ G X W (compareOp .Lt) ltI := opj_int0 op_lt fun _ _ _ => .bl _
theorem o_le : OpJ G X W (compareOp .LtE) leI := opj_int0 op_le fun _ _ _ => .bl _
theorem o_gt : OpJ G X W (compareOp .Gt) gtI := opj_int0 op_gt fun _ _ _ => .bl _
theorem o_ge : OpJ G X W (compareOp .GtE) geI := opj_int0 op_ge fun _ _ _ => .bl _
def negI (a : PV) : R PV := match a with | .int i => .ok (.int (-i)) | _ => .bad
theorem u_neg : UnJ G X (unaryOp .USub) negI := ⟨_, un_neg, fun W Hf H σ x a Q s r h => by
  cases r with
  | int i => exact ⟨i, rfl, h _ Hf H (Gr.refl s) (.int _)⟩
  | _ => exact h.elim⟩
/-! ### == of flat values, is None -/
def scV (p : PV) : Option V := match p with | .non => some .non | .bl b => some (.bl b) | .int i => some (.int i) | .str x => some (.str x) | _ => none
theorem scV_rep {p : PV} {v x : V} (h : scV p = some x) (r : Rep G Hf p v) : v = x := by
  cases r <;> cases h <;> rfl
def eqS (a b : PV) : R PV := match scV a, scV b with | some x, some y => if scal x y = true then .ok (.bl (decide (x = y))) else .bad | _, _ => .bad
def neS (a b : PV) : R PV := match scV a, scV b with | some x, some y => if scal x y = true then .ok (.bl (!decide (x = y))) else .bad | _, _ => .bad
@[simp] theorem eqS_int (i j : Int) : eqS (.int i) (.int j) = .ok (.bl (decide (i = j))) := by simp [eqS, scV, scal]
@[simp] theorem eqS_str (i j : Str) : eqS (.str i) (.str j) = .ok (.bl (decide (i = j))) := by simp [eqS, scV, scal]
@[simp] theorem eqS_bl (i j : Bool) : eqS (.bl i) (.bl j) = .ok (.bl (decide (i = j))) := by simp [eqS, scV, scal]
@[simp] theorem neS_int (i j : Int) : neS (.int i) (.int j) = .ok (.bl (!decide (i = j))) := by simp [neS, scV, scal]
@[simp] theorem neS_str (i j : Str) : neS (.str i) (.str j) = .ok (.bl (!decide (i = j))) := by simp [neS, scV, scal]
@[simp] theorem neS_bl (i j : Bool) : neS (.bl i) (.bl j) = .ok (.bl (!decide (i = j))) := by simp [neS, scV, scal]
theorem o_eq : OpJ G X W (compareOp .Eq) eqS := ⟨_, OpS.of op_eq, fun Hf H σ x y a b Q s ra rb h => by
  unfold eqS at h
  split at h
  · rename_i u v eu ev
    have e1 := scV_rep eu ra
    have e2 := scV_rep ev rb
    subst e1 e2
    by_cases k : scal x y = true
    · rw [if_pos k] at h
      exact ⟨k, h _ Hf H (Gr.refl s) (.bl _)⟩
    · rw [if_neg k] at h
      exact h.elim
  · exact h.elim⟩
theorem o_ne : OpJ G X W (compareOp .NotEq) neS := ⟨_, OpS.of op_ne, fun Hf H σ x y a b Q s ra rb h => by
  unfold neS at h
  split at h
  · rename_i u v eu ev
    have e1 := scV_rep eu ra
    have e2 := scV_rep ev rb
    subst e1 e2
    by_cases k : scal x y = true
    · rw [if_pos k] at h
      exact ⟨k, h _ Hf H (Gr.refl s) (.bl _)⟩
    · rw [if_neg k] at h
      exact h.elim
  · exact h.elim⟩
def isNon (p : PV) : Bool := match p with | .non => true | _ => false
theorem isNon_rep {p : PV} {v : V} (r : Rep G Hf p v) : decide (v = .non) = isNon p := by cases r <;> rfl
def isNP (a b : PV) : R PV := match b with | .non => .ok (.bl (isNon a)) | _ => .bad
def notNP (a b : PV) : R PV := match b with | .non => .ok (.bl (!isNon a)) | _ => .bad
theorem o_isN : OpJ G X W (compareOp .Is) isNP := ⟨_, OpS.of op_isN, fun Hf H σ x y a b Q s ra rb h => by
  cases rb with
  | non => exact ⟨rfl, by rw [isNon_rep ra]; exact h _ Hf H (Gr.refl s) (.bl _)⟩
  | _ => exact h.elim⟩
theorem o_notN : OpJ G X W (compareOp .IsNot) notNP := ⟨_, OpS.of op_notN, fun Hf H σ x y a b Q s ra rb h => by
  cases rb with
  | non => exact ⟨rfl, by rw [isNon_rep ra]; exact h _ Hf H (Gr.refl s) (.bl _)⟩
  | _ => exact h.elim⟩
/-! ### built-ins -/
def lenB (l : List PV) : R PV := match l with
  | [.lst m] => .ok (.int m.length)
  | [.tup m] => .ok (.int m.length)
  | [.str x] => if x.length ≤ sizeLine then .ok (.int x.length) else .bad
  | _ => .bad
theorem b_len (hK : X.K = G.K) : CallJ G X (.builtin "len") lenB := ⟨_, call_len, fun W Hf H σ vs l Q s r h => by
  unfold lenB at h
  split at h
  · rename_i m
    cases r with
    | cons r1 r2 =>
      cases r2
      cases r1 with
      | lst ht hr => exact ⟨_, m.length, rfl, by rw [hK]; exact .inl ⟨_, s.seq ht, hr.length⟩, h _ Hf H (Gr.refl s) (.int _)⟩
  · rename_i m
    cases r with
    | cons r1 r2 =>
      cases r2
      cases r1 with
      | tup ht hr => exact ⟨_, m.length, rfl, by rw [hK]; exact .inr ⟨_, Bp.seqT s ht, hr.length⟩, h _ Hf H (Gr.refl s) (.int _)⟩
  · rename_i x
    cases r with
    | cons r1 r2 =>
      cases r2
      cases r1
      by_cases k : x.length ≤ sizeLine
      · rw [if_pos k] at h
        exact ⟨_, x.length, rfl, ⟨k, rfl⟩, h _ Hf H (Gr.refl s) (.int _)⟩
      · rw [if_neg k] at h
        exact h.elim
  · exact h.elim⟩
def absB (l : List PV) : R PV := match l with | [.int i] => .ok (.int (if i < 0 then -i else i)) | _ => .bad
theorem b_abs : CallJ G X (.builtin "abs") absB := ⟨_, call_abs, fun W Hf H σ vs l Q s r h => by
  unfold absB at h
  split at h
  · rename_i i
    cases r with
    | cons r1 r2 =>
      cases r2
      cases r1
      exact ⟨i, rfl, h _ Hf H (Gr.refl s) (.int _)⟩
  · exact h.elim⟩
def intB (l : List PV) : R PV := match l with | [.int i] => .ok (.int i) | [.bl b] => .ok (.int (if b then 1 else 0)) | _ => .bad
theorem b_int : CallJ G X (.type "int") intB := ⟨_, call_int1, fun W Hf H σ vs l Q s r h => by
  unfold intB at h
  split at h
  · rename_i i
    cases r with
    | cons r1 r2 =>
      cases r2
      cases r1
      exact .inl ⟨i, rfl, h _ Hf H (Gr.refl s) (.int _)⟩
  · rename_i b
    cases r with
    | cons r1 r2 =>
      cases r2
      cases r1
      exact .inr ⟨b, rfl, h _ Hf H (Gr.refl s) (.int _)⟩
  · exact h.elim⟩
def boolB (l : List PV) : R PV := match l with | [.int i] => .ok (.bl (i != 0)) | [.bl b] => .ok (.bl b) | _ => .bad
theorem b_bool : CallJ G X (.type "bool") boolB := ⟨_, call_bool1, fun W Hf H σ vs l Q s r h => by
  unfold boolB at h
  split at h
  · rename_i i
    cases r with
    | cons r1 r2 =>
      cases r2
      cases r1
      exact .inl ⟨i, rfl, h _ Hf H (Gr.refl s) (.bl _)⟩
  · rename_i b
    cases r with
    | cons r1 r2 =>
      cases r2
      cases r1
      exact .inr ⟨b, rfl, h _ Hf H (Gr.refl s) (.bl _)⟩
  · exact h.elim⟩
def tupB (l : List PV) : R PV := match l with | [.lst m] => .ok (.tup m) | [.tup m] => .ok (.tup m) | _ => .bad
theorem b_tuple (hK : X.K = G.K) : CallJ G X (.type "tuple") tupB := ⟨_, call_tuple_of, fun W Hf H σ vs l Q s r h => by
  unfold tupB at h
  split at h
  · rename_i m
    cases r with
    | cons r1 r2 =>
      cases r2
      cases r1 with
      | lst ht hr =>
        rename_i a ws
        exact ⟨a, ws, rfl, .inl ⟨by rw [hK]; exact s.seq ht, fun p hp => h _ _ _ (Gr.one (o := .tup ws) s hp) (.tup (SqT.of upd_same) (hr.mono (Same.new (none_back s hp))))⟩⟩
  · rename_i m
    cases r with
    | cons r1 r2 =>
      cases r2
      cases r1 with
      | tup ht hr =>
        rename_i a ws
        exact ⟨a, ws, rfl, .inr ⟨by rw [hK]; exact Bp.seqT s ht, h _ Hf H (Gr.refl s) (.tup ht hr)⟩⟩
  · exact h.elim⟩
def allB (l : List PV) : R PV := match l with | [.lst m] => (match m.mapM (fun p => match p with | .bl b => some b | _ => none) with | some bs => .ok (.bl (bs.all id)) | none => .bad) | _ => .bad
/-! ### lists and tuples put together -/
def catT (a b : PV) : R PV := match a, b with
  | .tup l, .tup m => if l ≠ [] ∧ l.length + m.length ≤ 1000 then .ok (.tup (l ++ m)) else .bad
  | _, _ => .bad
theorem o_catT (hK : X.K = G.K) : OpJ G X W (binaryOp .Add) catT := ⟨_, OpS.of op_catT, fun Hf H σ x y a b Q s ra rb h => by
  unfold catT at h
  split at h
  · rename_i l m
    by_cases k : l ≠ [] ∧ l.length + m.length ≤ 1000
    · rw [if_pos k] at h
      cases ra with
      | tup t1 r1 =>
        cases rb with
        | tup t2 r2 =>
          rename_i a xs b ys
          refine ⟨a, b, xs, ys, rfl, rfl, by rw [hK]; exact Bp.seqT s t1, by rw [hK]; exact Bp.seqT s t2, fun z => ?_, ?_, fun z => ?_, fun z p hp => ?_⟩
          · subst z
            cases r1
            exact k.1 rfl
          · rw [← r1.length, ← r2.length]
            exact line1000 k.2
          · subst z
            cases r2
            rw [List.append_nil] at h
            exact h _ Hf H (Gr.refl s) (.tup t1 r1)
          · exact h _ _ _ (Gr.one (o := .tup (xs ++ ys)) s hp) (.tup (SqT.of upd_same) ((r1.mono (Same.new (none_back s hp))).append (r2.mono (Same.new (none_back s hp)))))
    · rw [if_neg k] at h
      exact h.elim
  · exact h.elim⟩
end
/-! ### slices of lists -/
def cutP (l : List PV) (lo hi : Option Int) : List PV := (l.drop (HT.sIx l.length 0 lo)).take (HT.sIx l.length l.length hi - HT.sIx l.length 0 lo)
def asI (p : PV) : R Int := match p with | .int i => .ok i | _ => .bad
def noB (_ : Env) : R (Option Int) := .ok none
def someB (d : Env → R PV) (env : Env) : R (Option Int) := ((d env).bind asI).bind fun i => .ok (some i)
def sliceE (d : Env → R PV) (lo hi : Env → R (Option Int)) (env : Env) : R PV := (d env).bind fun p => (lo env).bind fun l => (hi env).bind fun h => match p with
  | .lst m => .ok (.lst (cutP m l h))
  | _ => .bad
section
variable {G : Ga} {X : Cx} {W : WX} {e a b : Expr} {elo ehi : Option Expr} {d : Env → R PV} {lo hi : Env → R (Option Int)} {pos p2 : Pos} {dl : Env → R (List PV)} {x : Str} {es : List Expr}
structure JO (G : Ga) (X : Cx) (W : WX) (e : Option Expr) (d : Env → R (Option Int)) : Prop where
  ex : ∃ t, PO X e t ∧ ∀ (H0 Hf H : Hp) (env : Env) (σ : L2.St) (Q : Option Int → Hp → Prop), Same Hf H → EnvOk G H0 Hf H env σ → PostG G W (fun _ a b => b = a) Hf H σ (d env) Q → t σ H Q
theorem jo_none : JO G X W none noB := ⟨_, po_none, fun H0 Hf H env σ Q s E h => h none Hf H (Gr.refl s) rfl⟩
theorem jo_some (h : JE G X W e d) : JO G X W (some e) (someB d) := by
  obtain ⟨t, pt, jt⟩ := h
  refine ⟨_, po_some pt, fun H0 Hf H env σ Q s E h => jt H0 Hf H env σ _ s E ?_⟩
  unfold someB at h
  cases ed : d env with
  | ok p =>
    rw [ed] at h
    intro v Hf' H' g r
    cases r with
    | int i => exact ⟨i, rfl, h _ Hf' H' g rfl⟩
    | _ => exact h.elim
  | er c fs => rw [ed] at h; exact h
  | bad => rw [ed] at h; exact h.elim
theorem cut_reps {G : Gb} {Hf : Hp} {l : List PV} {vs : List V} (r : Reps G Hf l vs) (lo hi : Option Int) : Reps G Hf (cutP l lo hi) (cutV vs lo hi) := by
  unfold cutP cutV
  rw [r.length]
  exact (r.drop _).take _
theorem je_slice (hK : X.K = G.K) (h : JE G X W e d) (hl : JO G X W elo lo) (hh : JO G X W ehi hi) : JE G X W (.Subscript e (.Slice elo ehi none p2) pos) (sliceE d lo hi) := by
  obtain ⟨t, pt, jt⟩ := h
  obtain ⟨u, pu, ju⟩ := hl
  obtain ⟨w, pw, jw⟩ := hh
  refine ⟨_, pe_slice sl_list pt pu pw, fun H0 Hf H env σ Q s E h => jt H0 Hf H env σ _ s E (PostG.bind h fun p v Hf1 H1 _ g1 r1 h1 => ?_)⟩
  refine ju H0 Hf1 H1 env σ _ g1.sub (E.grow g1) (PostG.bind h1 fun l lv Hf2 H2 _ g2 r2 h2 => ?_)
  refine jw H0 Hf2 H2 env σ _ g2.sub ((E.grow g1).grow g2) (PostG.bind h2 fun m mv Hf3 H3 _ g3 r3 h3 => ?_)
  subst r2 r3
  have r1' := (r1.mono g2.fz).mono g3.fz
  cases r1' with
  | lst ht hr =>
    rename_i q a vs _
    exact ⟨a, vs, rfl, by rw [hK]; exact g3.sub.seq ht, fun p hp => h3 _ _ _ (Gr.one (o := .lst (cutV vs lv mv)) g3.sub hp) (.lst (SqL.of upd_same) ((cut_reps hr _ _).mono (Same.new (none_back g3.sub hp))))⟩
  | _ => exact h3.elim
/-! ### isinstance -/
inductive Kd where
  | non | bl | int | str | tup | lst | obj (c : Nat)
  deriving DecidableEq
def kdP (p : PV) : Option Kd := match p with | .non => some .non | .bl _ => some .bl | .int _ => some .int | .str _ => some .str | .tup _ => some .tup | .lst _ => some .lst | .fr _ => some (.obj 0) | .obj c _ => some (.obj c) | _ => none
def kdV (G : Gb) (k : Kd) : Value := match k with | .non => .type "NoneType" | .bl => .type "bool" | .int => .type "int" | .str => .type "str" | .tup => .type "tuple" | .lst => .type "list" | .obj c => .ref (G.cm c)
/-- what isinstance asks of an own class -/
structure InC (K : PySem.W.Frag) (C : Addr) : Prop where
  cl : Cls K C
  ca : PySem.W.findIn K (.ref C) "__class__" = some (some (.builtin "object.__class__"))
  cn : PySem.W.specialIn K (.builtin "object.__class__") "__get__" = some (some (.builtin "getset_descriptor.__get__"))
  ct : PySem.W.takesIn K (.builtin "object.__class__") = some true
  cm : PySem.W.mroIn K C (.type "object") = some true
def isiP (tb : Kd → Option Bool) (p : PV) : R PV := match kdP p with | some k => (match tb k with | some b => .ok (.bl b) | none => .bad) | none => .bad
structure IsT (G : Gb) (u : Value) (tb : Kd → Option Bool) : Prop where
  kit : ∀ k b, tb k = some b → PySem.W.kitOne G.K (kdV G k) u = some b
  own : ∀ c b, tb (.obj c) = some b → InC G.K (G.cm c)
structure IsTs (G : Gb) (us : List Value) (tb : Kd → Option Bool) : Prop where
  kit : ∀ k b, tb k = some b → PySem.W.kitAny G.K (kdV G k) us = some b
  own : ∀ c b, tb (.obj c) = some b → InC G.K (G.cm c)
theorem kd_ty {G : Gb} {Hf H : Hp} {p : PV} {v : V} {k : Kd} (own : ∀ c, k = .obj c → InC G.K (G.cm c)) (s : Same Hf H) (r : Rep G Hf p v) (h : kdP p = some k) : TyX G.K H v (kdV G k) := by
  cases r with
  | non => cases h; exact .base .non
  | bl b => cases h; exact .base (.bl b)
  | int i => cases h; exact .base (.int i)
  | str x => cases h; exact .base (.str x)
  | fr ho =>
    cases h
    have q := own 0 rfl
    exact .base (.ins (s _ _ ho) q.cl q.ca q.cn q.ct q.cm)
  | tup ht hr =>
    cases h
    rcases Bp.seqT s ht with (z | ⟨o, z⟩) | ⟨o, its, n, hk, hc, _⟩
    · exact .base (.tup z)
    · exact .fTuple z
    · exact .kTuple hk hc
  | lst ht hr =>
    cases h
    rcases s.seq ht with (z | ⟨o, z⟩) | ⟨o, its, n, hk, hc, _⟩
    · exact .base (.lst z)
    · exact .base (.frz z)
    · exact .kList hk hc
  | obj ho hf =>
    cases h
    have q := own _ rfl
    exact .base (.ins (s _ _ ho) q.cl q.ca q.cn q.ct q.cm)
  | cls c => cases h
  | typ n => cases h
variable {p0 : Pos}
theorem je_isi {u : Value} {cv : V} {tb : Kd → Option Bool} (T : IsT G u tb) (hK : X.K = G.K) (hm : X.mg "isinstance" = none) (h : JE G X W a d) (hc : PE X b (tC cv)) (k : ClsV cv u) (hg : Gl X "isinstance" := by rfl)
    (s1 : starEach [a, b] X.env = (false, eval a X.env) :: starEach [b] X.env := by rfl) (s2 : starEach [b] X.env = (false, eval b X.env) :: starEach [] X.env := by rfl) (hpl : (backTo pos (starEach [b] X.env)).any (·.1) = false := by rfl) :
    JE G X W (.Call (.Name "isinstance" p0) [a, b] [] pos) (un1 (isiP tb) d) := by
  obtain ⟨t, pt, jt⟩ := h
  refine ⟨_, pe_callB call_isi hg hm (by decide +kernel) (pa_cons pt (pa_cons hc pa_nil s2) s1) (by decide) (by decide) s1 hpl, fun H0 Hf H env σ Q s E h => jt H0 Hf H env σ _ s E (PostG.bind h fun p v Hf1 H1 _ g1 r1 h1 => ?_)⟩
  unfold isiP at h1
  cases ek : kdP p with
  | none => simp only [ek] at h1; exact h1.elim
  | some kk =>
    simp only [ek] at h1
    cases et : tb kk with
    | none => simp only [et] at h1; exact h1.elim
    | some b' =>
      simp only [et] at h1
      refine ⟨v, cv, _, u, b', rfl, k, by rw [hK]; exact kd_ty (fun c e => T.own c b' (e ▸ et)) g1.sub r1 ek, by rw [hK]; exact T.kit kk b' et, h1 _ Hf1 H1 (Gr.refl g1.sub) (.bl _)⟩
theorem je_isi2 {u u' : Value} {cv cv' : V} {tb : Kd → Option Bool} {c1 c2 : Expr} {x1} {tp : Pos} (T : IsTs G [u, u'] tb) (hK : X.K = G.K) (hm : X.mg "isinstance" = none) (h : JE G X W a d) (hc : PE X c1 (tC cv)) (hc' : PE X c2 (tC cv')) (k : ClsV cv u) (k' : ClsV cv' u') (hg : Gl X "isinstance" := by rfl)
    (s1 : starEach [a, .Tuple [c1, c2] x1 tp] X.env = (false, eval a X.env) :: starEach [.Tuple [c1, c2] x1 tp] X.env := by rfl) (s2 : starEach [.Tuple [c1, c2] x1 tp] X.env = (false, eval (.Tuple [c1, c2] x1 tp) X.env) :: starEach [] X.env := by rfl)
    (s3 : starEach [c1, c2] X.env = (false, eval c1 X.env) :: starEach [c2] X.env := by rfl) (s4 : starEach [c2] X.env = (false, eval c2 X.env) :: starEach [] X.env := by rfl) (hpl : (backTo pos (starEach [.Tuple [c1, c2] x1 tp] X.env)).any (·.1) = false := by rfl) :
    JE G X W (.Call (.Name "isinstance" p0) [a, .Tuple [c1, c2] x1 tp] [] pos) (un1 (isiP tb) d) := by
  obtain ⟨t, pt, jt⟩ := h
  refine ⟨_, pe_callB call_isiT hg hm (by decide +kernel) (pa_cons pt (pa_cons (pe_tup (pa_cons hc (pa_cons hc' pa_nil s4) s3)) pa_nil s2) s1) (by decide) (by decide) s1 hpl, fun H0 Hf H env σ Q s E h => jt H0 Hf H env σ _ s E (PostG.bind h fun p v Hf1 H1 _ g1 r1 h1 => ?_)⟩
  refine ⟨by show 2 ≤ sizeLine; decide, fun tp htp => ?_⟩
  unfold isiP at h1
  cases ek : kdP p with
  | none => simp only [ek] at h1; exact h1.elim
  | some kk =>
    simp only [ek] at h1
    cases et : tb kk with
    | none => simp only [et] at h1; exact h1.elim
    | some b' =>
      simp only [et] at h1
      have s2 : Same Hf1 (upd H1 tp (.tup [cv, cv'])) := g1.sub.trans (Same.new htp)
      refine ⟨v, tp, _, _, _, b', rfl, upd_same, .cons k (.cons k' .nil), by rw [hK]; exact kd_ty (fun c e => T.own c b' (e ▸ et)) s2 r1 ek, by rw [hK]; exact T.kit kk b' et, h1 _ Hf1 _ (Gr.up g1.sub (Same.new htp)) (.bl _)⟩
end
end J

namespace J
open PySem.Spec PySem PyProof.Rows
open L2 hiding St Takes XE CX takes_of PMk MkP ps_raise mk_of ps_try_as ps_try_many pmk_own passAt passes_call takes0 passL
open L2N hiding St
open Bp (takes0 passL)
open L2H (FnH RoomH HotC Hot1 cxH fn_ofH pe_callH)

/-! ### raise X(..), X with its own __init__ of fields -/
section
variable {X : Cx} {C fI : Addr} {k : Nat} {fd : FuncData} {ps : List Str} {sp : Sp} {x : Str} {e : Expr} {es : List Expr} {ta : TA} {p pos : Pos}
/-- C(e, ..) where nothing is handled -/
theorem pmk_fields (T : OexC X.K C) (iC : PySem.W.findIn X.K (.ref C) "__init__" = some (some (.ref fI))) (tI : PySem.W.typeIn X.K (.ref fI) = some (.type "function"))
    (F1 : FnOk X.prog X.w X.K X.mg X.base (L2N.CX X.prog X.w) k fI fd ps sp) (hr : Room (k + 1) X.A) (hb : Binds X.K fd ps []) (hm : X.mg x = some (.ref C)) (ha : PA X (e :: es) ta) (hg : Gl X x := by rfl)
    (hdb : (x == ("__debug__" : Str)) = false := by decide) (he : starEach (e :: es) X.env = (false, eval e X.env) :: starEach es X.env := by rfl) (hpl : (backTo pos (starEach es X.env)).any (·.1) = false := by rfl) :
    L2N.PMk X (.Call (.Name x p) (e :: es) [] pos) (tMkO C sp [] ta) := by
  intro pl s σ H Q I hq
  obtain ⟨_, _, _, _, bm, _, _, _, _, _, _, _, _, _, _, hC, hbm⟩ := T.cls
  refine wpAny_Call_Name_kw (ld_glob I hg hm ?_ hdb)
  refine PySem.W.callWith_K (h₀ := X.base) I.ok.mod.kin T.kC (thn (ha.run pos pl s σ H _ I hq) fun us s1 ⟨vs, H1, I1, r1, hz, q1⟩ => ⟨I1.kIn, ?_⟩) he hpl
  obtain ⟨hp, g, dr, tk, os⟩ := s1
  have z1 : hp.objs.size ≤ hp.objs.size + 1 := Nat.le_succ _
  have z2 := q1 (hp.objs.size + 1) (I1.hok.fresh z1)
  have z3 : ∀ b o, hp.get? b = some o → ((hp.push (PySem.W.kdv_tup us)).push (PySem.HandSPX.excO C hp.objs.size)).get? b = some o := fun b o w => Heap.get?_push_of_some _ (Heap.get?_push_of_some _ w)
  have z4 : ((hp.push (PySem.W.kdv_tup us)).push (PySem.HandSPX.excO C hp.objs.size)).get? (hp.objs.size + 1) = some (PySem.HandSPX.excO C hp.objs.size) := by heap_get
  have J2 : Inv X pl σ (upd H1 (hp.objs.size + 1) (exo (hp.objs.size + 1) C none)) ⟨(hp.push (PySem.W.kdv_tup us)).push (PySem.HandSPX.excO C hp.objs.size), g, dr, tk, os⟩ :=
    I1.laid (t' := tk) z3 z1 (exo_ok z4)
  rw [List.append_nil] at z2
  have rr : Vals (V.ref (hp.objs.size + 1) :: vs) (Value.ref (hp.objs.size + 1) :: us) := .cons rfl r1
  have ll : (Value.ref (hp.objs.size + 1) :: us).length = ps.length := rr.length.symm.trans (F1.len _ _ _ _ z2)
  have lu : us.length ≤ sizeLine := by
    rw [← r1.length, sizeLine_eq]
    omega
  have bb := hb _ (Value.ref (hp.objs.size + 1) :: us) J2.kIn (by rw [List.append_nil]; exact ll)
  rw [List.append_nil] at bb
  refine wpAny_call (PySem.HandSPX.call_own F.excBase_ValueError (fun Y => PySem.HandSPX.refsVE_contains Y bm hbm) (I1.kIn _ _ hC) (PySem.W.looks_findIn I1.kIn iC) (fun me => PySem.W.bind_fn I1.kIn me tI) lu
    (codeAny_mono (F1.run _ X.stack _ _ ⟨Value.ref (hp.objs.size + 1) :: us, []⟩ _ _ _ E0 (hr.make C us []) (J2.env0.make C us []) bb rr z2) fun r s' w => ?_))
  cases r with
  | error er => exact passL pl σ _ _ er s' J2 w
  | ok fl =>
    cases fl with
    | ret u =>
      obtain ⟨v, H2, os2, ba, un2, ok2, rv, ev, d, fs, ea, ed, nd, q2⟩ := w
      subst ev
      obtain ⟨h2, g2, d2, t2, o2⟩ := s'
      obtain ⟨t0, Gh, J, kG, ge, hoe, na⟩ := mk_end0 (d2 := d2) (t2 := t2) I1 z1 z3 un2 ok2 os2 ba ea ed nd
      exact ⟨rv, hp.objs.size + 1, _, _, ⟨Gh, g2, d2, t2, o2⟩, _, .ref C, some d, rfl, J, kG, ge, hoe, ⟨rfl, rfl, fun ws hw => by cases hw; rfl⟩, rfl, rfl, na, rfl, ba, raises_own T.exC T.tyC, q2⟩
    | next => exact w.elim
    | brk => exact w.elim
    | cont => exact w.elim
theorem pmk_plain {bmB : List Value} {B newId initId : String} (F : ExcBaseFacts B newId initId bmB) (q : PySem.W.excIn X.K C bmB newId = true) (gC : X.mg x = some (.ref C)) (kC : PySem.W.keepIn X.K (.ref C) = true) (r : Raises X (.ref C)) (hg : Gl X x := by rfl)
    (hdb : (x == ("__debug__" : Str)) = false := by decide) : L2N.PMk X (.Call (.Name x p) [] [] pos) (fun _ H Q => Q (.ref C) none H) := Bp.pmk_own0 F q gC kC r hg hdb
end
/-- what the __init__ of such an error promises: the fields ns -/
def spX (C : Addr) (ns : List Str) : Sp := fun vs H Q _ => ∃ a xs, vs = .ref a :: xs ∧ xs.length = ns.length ∧ H a = some (exo a C none) ∧
  ∀ dx H2, H2 a = some (exo a C (some dx)) → H2 dx = some (exd dx (ns.zip xs).reverse) → H dx = none → (∀ b o, b ≠ a → H b = some o → H2 b = some o) → Q .non H2
section
variable {P : Program} {w : World} {K : PySem.W.Frag} {mg : Str → Option Value} {base : Heap}
structure EDef (P : Program) (w : World) (K : PySem.W.Frag) (mg : Str → Option Value) (base : Heap) (k : Nat) (x : Str) (C : Addr) (ns : List Str) : Prop where
  ex : ∃ f fd ps, mg x = some (.ref C) ∧ OexC K C ∧ PySem.W.findIn K (.ref C) "__init__" = some (some (.ref f)) ∧ PySem.W.typeIn K (.ref f) = some (.type "function") ∧ L2.Binds K fd ps [] ∧ FnOk P w K mg base (L2N.CX P w) k f fd ps (spX C ns)
end
section
variable {G : Ga} {X : Cx} {W : WX} {k : Nat} {x : Str} {c : Nat} {ns : List Str} {e : Expr} {es : List Expr} {p pos pos2 : Pos} {dl : Env → R (List PV)}
def zipF (ns : List Str) (l : List PV) : List (Str × PV) := (ns.zip l).reverse
theorem repF_zip {G : Gb} {Hf : Hp} : ∀ {ns : List Str} {l : List PV} {vs : List V}, Reps G Hf l vs → RepF G Hf (ns.zip l) (ns.zip vs)
  | [], _, _, _ => .nil
  | _ :: _, _, _, .nil => .nil
  | _ :: ns, _, _, .cons h r => .cons h (repF_zip r)
theorem repF_app {G : Gb} {Hf : Hp} : ∀ {l m : List (Str × PV)} {vs ws : List (Str × V)}, RepF G Hf l vs → RepF G Hf m ws → RepF G Hf (l ++ m) (vs ++ ws)
  | _, _, _, _, .nil, h => h
  | _, _, _, _, .cons h r, s => .cons h (repF_app r s)
theorem repF_rev {G : Gb} {Hf : Hp} : ∀ {l : List (Str × PV)} {vs : List (Str × V)}, RepF G Hf l vs → RepF G Hf l.reverse vs.reverse
  | _, _, .nil => .nil
  | _, _, .cons h r => by
    rw [List.reverse_cons, List.reverse_cons]
    exact repF_app (repF_rev r) (.cons h .nil)
def raiseF (c : Nat) (ns : List Str) (dl : Env → R (List PV)) (env : Env) : F := match dl env with
  | .ok l => if l.length = ns.length ∧ l ≠ [] ∧ ns ≠ [] ∧ ns.length ≤ 9 then .er env c (zipF ns l) else .bad
  | .er c fs => .er env c fs
  | .bad => .bad
theorem js_raise {C : Addr} (D : EDef X.prog X.w X.K X.mg X.base k x C ns) (hC : C = G.cm c) (hr : Room (k + 1) X.A) (tk : Takes X W) (ha : JA G X W (e :: es) dl) (hc : X.calm = true := by rfl) (hg : Gl X x := by rfl)
    (hdb : (x == ("__debug__" : Str)) = false := by decide) (he : starEach (e :: es) X.env = (false, eval e X.env) :: starEach es X.env := by rfl) (hpl : (backTo pos (starEach es X.env)).any (·.1) = false := by rfl) :
    JS G X W (.Raise (some (.Call (.Name x p) (e :: es) [] pos)) none pos2) (raiseF c ns dl) := by
  obtain ⟨f, fd, ps, hm, T, iC, tI, hb, F1⟩ := D.ex
  obtain ⟨t, pt, jt⟩ := ha
  subst hC
  refine ⟨_, L2N.ps_raise hc tk (pmk_fields T iC tI F1 hr hb hm pt hg hdb he hpl), fun Hf0 H0 Hf H env σ D S h => ?_⟩
  refine jt H0 Hf H env σ _ S.gr.sub S.env ?_
  unfold raiseF at h
  cases ed : dl env with
  | bad => rw [ed] at h; exact h.elim
  | er c' fs =>
    rw [ed] at h
    exact fun Hf' H' d g r => h σ Hf' H' d (S.grow g) g.fz r
  | ok l =>
    rw [ed] at h
    intro vs Hf1 H1 g1 r1
    by_cases z : l.length = ns.length ∧ l ≠ [] ∧ ns ≠ [] ∧ ns.length ≤ 9
    · simp only [if_pos z] at h
      have hl : vs.length = ns.length := by rw [← r1.length]; exact z.1
      have S1 := S.grow g1
      refine ⟨by have := z.2.2.2; omega, fun a ha => ⟨a, vs, by rw [List.append_nil], hl, upd_same, fun dx H2 h2 h3 nd kp => ?_⟩⟩
      have nda : dx ≠ a := fun y => by
        rw [y, upd_same] at nd
        cases nd
      have n1 : H1 dx = none := by rw [upd_ne nda] at nd; exact nd
      have sm : Same H1 (upd (del H2 a) dx (.xd (ns.zip vs).reverse)) := fun b o hb => by
        have nba : b ≠ a := ne_of_none hb ha
        rw [upd_ne (ne_of_none hb n1), L2.del_ne nba]
        exact kp b o nba (by rw [upd_ne nba]; exact hb)
      refine ⟨rfl, dx, _, h2, h3, n1, ?_⟩
      refine h σ Hf1 _ (some dx) (S1.grow (Gr.up g1.sub sm)) g1.fz ?_
      have rf := repF_rev (repF_zip (ns := ns) r1)
      unfold zipF
      cases ef : (ns.zip l).reverse with
      | nil =>
        exfalso
        have y : ns.zip l = [] := by simpa using ef
        cases ns with
        | nil => exact z.2.2.1 rfl
        | cons n1 nr =>
          cases l with
          | nil => exact z.2.1 rfl
          | cons l1 lr => cases y
      | cons u us => exact ⟨dx, _, rfl, upd_same, by rw [← ef]; exact rf⟩
    · simp only [if_neg z] at h
      exact h.elim
/-- raise X() of a class without fields -/
theorem js_raise0 {C : Addr} (hC : C = G.cm c) (q : PySem.W.excIn X.K C [.type "ValueError", .type "Exception", .type "BaseException", .type "object"] "ValueError.__new__" = true) (gC : X.mg x = some (.ref C)) (kC : PySem.W.keepIn X.K (.ref C) = true) (r : Raises X (.ref C)) (tk : Takes X W) (hc : X.calm = true := by rfl) (hg : Gl X x := by rfl)
    (hdb : (x == ("__debug__" : Str)) = false := by decide) : JS G X W (.Raise (some (.Call (.Name x p) [] [] pos)) none pos2) (fun env => .er env c []) := by
  subst hC
  exact ⟨_, L2N.ps_raise hc tk (pmk_plain PySem.F.excBase_ValueError q gC kC r hg hdb), fun Hf0 H0 Hf H env σ D S h => h σ Hf H none S (fun _ _ h => h) rfl⟩
end
end J

namespace J
open PySem.Spec PySem PyProof.Rows
open L2 hiding St Takes XE CX takes_of PMk MkP ps_raise mk_of ps_try_as ps_try_many pmk_own passAt passes_call takes0 passL
open L2N hiding St
open Bp (takes0 passL)
open L2H (FnH RoomH HotC Hot1 cxH fn_ofH pe_callH)

/-! ### an error caught, as a thing -/
def noExc (e : Env) : Bool := e.all fun s => match s with | .exc _ _ => false | _ => true
/-- behind the suite: the name is gone -/
def outF (i : Nat) (f : F) : F := match f with
  | .nx e => if noExc (e.set i .no) = true then .nx (e.set i .no) else .bad
  | .bk e => if noExc (e.set i .no) = true then .bk (e.set i .no) else .bad
  | .ct e => if noExc (e.set i .no) = true then .ct (e.set i .no) else .bad
  | .rt p => .rt p
  | _ => .bad
def tryF (cat : Nat → Option Bool) (i : Nat) (fb fs : Env → F) (env : Env) : F := match fb env with
  | .er e c l => (match cat c with
    | some true => outF i (fs (e.set i (.exc c l)))
    | some false => .er e c l
    | none => .bad)
  | .nx e => .nx e | .rt p => .rt p | .bk e => .bk e | .ct e => .ct e | .bad => .bad
section
variable {G : Ga} {X : Cx} {W : WX} {Hf0 H0 Hf H : Hp} {env : Env} {σ : L2.St} {i : Nat} {x n : Str} {body suite : List Stmt} {b₀ : Stmt} {np pos pos' : Pos} {fb fs : Env → F} {cv : Value} {cat : Nat → Option Bool}
theorem sl_swap {G' : Ga} {s : Sl} {o : Option (Option V)} (hG : G'.toGb = G.toGb) (hs : G'.sa = G.sa) (hn : ∀ c l, s ≠ .exc c l) (h : SlOk G H0 Hf H s o) : SlOk G' H0 Hf H s o := by
  obtain ⟨B, xi, sa⟩ := G
  obtain ⟨B', xi', sa'⟩ := G'
  cases hG
  cases hs
  cases s with
  | exc c l => exact absurd rfl (hn c l)
  | no => trivial
  | val p => exact h
  | own l => exact h
  | oob c fs => exact h
  | slf c fs => exact h
theorem noExc_at {e : Env} (h : noExc e = true) (j : Nat) : ∀ c l, e.at j ≠ .exc c l := fun c l z => by
  unfold Env.at at z
  rw [List.getD_eq_getElem?_getD] at z
  cases q : e[j]? with
  | none => rw [q] at z; cases z
  | some s =>
    rw [q] at z
    have : s = .exc c l := z
    subst this
    have m := List.mem_of_getElem? q
    have := List.all_eq_true.mp h _ m
    cases this
theorem env_noX (hx : G.xi = none) (E : EnvOk G H0 Hf H env σ) (j : Nat) : ∀ c l, env.at j ≠ .exc c l := fun c l z => by
  have q := E.get j
  rw [z] at q
  obtain ⟨a, d, _, y, _⟩ := q
  rw [hx] at y
  cases y
/-- into the suite -/
theorem env_in {a : Addr} {c : Nat} {d : Option Addr} {l : List (Str × PV)} (hx : G.xi = none) (E : EnvOk G H0 Hf H env σ) (ed : ErD G Hf H l d) : EnvOk { G with xi := some (a, .ref (G.cm c), d) } H0 Hf H (env.set i (.exc c l)) (σ.set i (some (.ref a))) := by
  have E' : EnvOk { G with xi := some (a, .ref (G.cm c), d) } H0 Hf H env σ := ⟨E.len, fun j => sl_swap (G := G) rfl rfl (env_noX hx E j) (E.get j), E.dis⟩
  exact E'.set ⟨a, d, rfl, rfl, ed⟩ fun z => nomatch z
/-- out of the suite -/
theorem env_out {G' : Ga} (hG : G'.toGb = G.toGb) (hs : G'.sa = G.sa) (h : noExc (env.set i .no) = true) (E : EnvOk G' H0 Hf H env σ) : EnvOk G H0 Hf H (env.set i .no) (σ.set i none) := by
  have E' := E.drop i
  exact ⟨E'.len, fun j => sl_swap hG.symm hs.symm (noExc_at h j) (E'.get j), E'.dis⟩
theorem js_try (i : Nat) (hx : G.xi = none) (hs : X.stack = X.env :: X.outer) (hf : X.env.frame = some X.env.locals) (nd : X.N.Nodup) (hc : Names X x cv) (tk : Takes X W) (hcat : ∀ c b, cat c = some b → PySem.W.exmOne X.K (.ref (G.cm c)) cv = some b)
    (hb : ∀ (W' : WX) (pn : List (Addr × Obj)) (xe : Value → Shared → Prop), Takes (X.tr pn xe) W' → PassesOwn (model X.prog X.w) X.A X.env xe → JSs G (X.tr pn xe) W' body fb)
    (hsu : ∀ (a : Addr) (oe : Obj) (cls : Value) (d : Option Addr) (pn : List (Addr × Obj)), Zn cls d oe → (∃ vs, oe.data = .fields vs) → JSs { G with xi := some (a, cls, d) } (X.suite a ((a, oe) :: pn)) W0 (b₀ :: suite) fs)
    (hi : X.N[i]? = some n := by rfl) (hln : X.env.kindOf n = some .local := by rfl) :
    JS G X W (.Try body [.ExceptHandler (some (.Name x np)) (some n) (b₀ :: suite) pos'] [] [] pos) (tryF cat i fb fs) := by
  refine ⟨_, L2N.ps_try_as (tb := fun W' => tsOf G W' fb) (ts := fun a cls d => tsOf { G with xi := some (a, cls, d) } W0 fs) (Wout := W) hs hf nd hi hln hc tk (fun W' pn xe t p => (hb W' pn xe t p).pss) (fun a oe cls d pn z y => (hsu a oe cls d pn z y).pss), fun Hf0 H0 Hf H env σ D S h => ?_⟩
  refine ⟨Hf0, H0, Hf, env, S, ?_⟩
  unfold tryF at h
  cases e : fb env with
  | nx e' => rw [e] at h; exact h
  | rt p => rw [e] at h; exact h
  | bk e' => rw [e] at h; exact h
  | ct e' => rw [e] at h; exact h
  | bad => rw [e] at h; exact h.elim
  | er e' c l =>
    rw [e] at h
    simp only at h
    intro σ' Hf' H' d S' s' ed
    cases ec : cat c with
    | none => rw [ec] at h; exact h.elim
    | some b =>
      rw [ec] at h
      refine ⟨b, hcat c b ec, fun hb' a ha => ?_, fun hb' => ?_⟩
      · subst hb'
        simp only at h
        refine ⟨Hf0, H0, Hf', e'.set i (.exc c l), ⟨S'.gr, env_in hx S'.env ed⟩, ?_⟩
        unfold outF at h
        cases ef : fs (e'.set i (.exc c l)) with
        | nx e2 =>
          rw [ef] at h
          by_cases y : noExc (e2.set i .no) = true
          · simp only [if_pos y] at h
            exact fun σ2 Hf2 H2 S2 s2 => h _ Hf2 H2 ⟨S2.gr, env_out (G' := { G with xi := some (a, .ref (G.cm c), d) }) rfl rfl y S2.env⟩ (s'.trans s2)
          · simp only [if_neg y] at h
            exact h.elim
        | bk e2 =>
          rw [ef] at h
          by_cases y : noExc (e2.set i .no) = true
          · simp only [if_pos y] at h
            exact fun σ2 Hf2 H2 S2 s2 => h _ Hf2 H2 ⟨S2.gr, env_out (G' := { G with xi := some (a, .ref (G.cm c), d) }) rfl rfl y S2.env⟩ (s'.trans s2)
          · simp only [if_neg y] at h
            exact h.elim
        | ct e2 =>
          rw [ef] at h
          by_cases y : noExc (e2.set i .no) = true
          · simp only [if_pos y] at h
            exact fun σ2 Hf2 H2 S2 s2 => h _ Hf2 H2 ⟨S2.gr, env_out (G' := { G with xi := some (a, .ref (G.cm c), d) }) rfl rfl y S2.env⟩ (s'.trans s2)
          · simp only [if_neg y] at h
            exact h.elim
        | rt p => rw [ef] at h; exact fun v Hf2 H2 g2 s2 r => h v Hf2 H2 g2 (s'.trans s2) r
        | er e2 c2 l2 => rw [ef] at h; exact h.elim
        | bad => rw [ef] at h; exact h.elim
      · subst hb'
        exact h σ' Hf' H' d S' s' ed
/-- try: body / except ..: .., where the body raises nothing -/
def thruF (fb : Env → F) (env : Env) : F := match fb env with | .er _ _ _ => .bad | .nx e => .nx e | .rt p => .rt p | .bk e => .bk e | .ct e => .ct e | .bad => .bad
theorem js_thru {h₀ : ExceptHandler} {hs : List ExceptHandler} (hb : JSs G X.nox W0 body fb) : JS G X W (.Try body (h₀ :: hs) [] [] pos) (thruF fb) := by
  obtain ⟨t, pt, jt⟩ := hb
  refine ⟨_, ps_try_thru0 pt, fun Hf0 H0 Hf H env σ D S h => jt Hf0 H0 Hf H env σ D S ?_⟩
  unfold thruF at h
  cases e : fb env with
  | er a b c => rw [e] at h; exact h.elim
  | nx e' => rw [e] at h; exact h
  | rt p => rw [e] at h; exact h
  | bk e' => rw [e] at h; exact h
  | ct e' => rw [e] at h; exact h
  | bad => rw [e] at h; exact h.elim
end
/-! ### in the suite -/
def rIsEx (K : PySem.W.Frag) (a : Addr) (cls : Value) (d : Option Addr) : List V → Hp → VK → Prop := fun xs H Q => ∃ (D : Addr) (c : V) (cv : Value) (b : Bool), cls = .ref D ∧ ExcC K D ∧ (d = none ∨ ∃ dd fs, d = some dd ∧ H dd = some (.xd fs)) ∧
  xs = [.ref a, c] ∧ (∀ u, RelV c u → u = cv) ∧ PySem.W.kitOne K (.ref D) cv = some b ∧ Q (.bl b) H
theorem any_some' {K : PySem.W.Frag} {D : Addr} (h : PySem.W.hasDictIn K D = true) : (PySem.W.clsIn K D).isSome = true := by
  obtain ⟨cd, hc, _⟩ := PySem.W.any_some h
  rw [hc]
  rfl
theorem call_isEx {X : Cx} {a : Addr} {oe : Obj} {cls : Value} {d : Option Addr} {pn : List (Addr × Obj)} (hz : Zn cls d oe) (hf : ∃ vs, oe.data = .fields vs) : CallR (X.suite a ((a, oe) :: pn)) (.builtin "isinstance") (rIsEx X.K a cls d) := by
  intro pins s σ H xs us Q I r h
  obtain ⟨D, c, cv, b, rfl, T, hd, rfl, hcv, e, q⟩ := h
  obtain ⟨u1, u2, rfl, r1, r2⟩ := vals2 r
  cases (show u1 = Value.ref a from r1)
  cases hcv _ r2
  obtain ⟨hg, _⟩ := I.pin (a, oe) (List.mem_append.mpr (.inl List.mem_cons_self))
  obtain ⟨vs, hv⟩ := hf
  obtain ⟨oc, od, oda, osl⟩ := oe
  obtain ⟨h1, h2, _⟩ := hz
  dsimp only at h1 h2 hv
  subst h1 h2 hv
  have J : ∃ od', PySem.W.InstAt s.heap a ⟨.ref D, od, .fields vs, osl⟩ D od' := by
    rcases hd with rfl | ⟨dd, fs, rfl, hdd⟩
    · exact ⟨none, hg, rfl, rfl, trivial⟩
    · obtain ⟨mA, hns, _⟩ := (show ObjOk X.prog X.w H s.heap dd (.xd fs) from I.hok dd _ hdd)
      obtain ⟨o2, ho, _⟩ := lookIn_ns hns
      exact ⟨some o2, hg, rfl, rfl, ho⟩
  obtain ⟨od', J⟩ := J
  exact PySem.W.kia_one (PySem.W.kitx_exc (any_some' T.hd) T.hg T.hk T.hs T.ha T.hn T.ht T.hm) I.kIn J e (fun z => nomatch z) fun tk => ⟨.bl b, H, I.kept (t' := tk) fun _ _ z => z, rfl, q⟩
section
variable {G : Ga} {X : Cx} {W : WX} {a : Addr} {oe : Obj} {cls : Value} {d : Option Addr} {pn : List (Addr × Obj)} {i : Nat} {x n m : Str} {b e : Expr} {es : List Expr} {p0 p1 pos : Pos} {tb : Nat → Option Bool} {dl : Env → R (List PV)}
/-- isinstance(e, C) of the caught error -/
def isxP (tb : Nat → Option Bool) (i : Nat) (env : Env) : R PV := match env.at i with | .exc c _ => (match tb c with | some b => .ok (.bl b) | none => .bad) | _ => .bad
theorem je_isx {u : Value} {cv : V} (i : Nat) (hz : Zn cls d oe) (hf : ∃ vs, oe.data = .fields vs) (T : ∀ c b, tb c = some b → ExcC G.K (G.cm c) ∧ PySem.W.kitOne G.K (.ref (G.cm c)) u = some b) (hK : X.K = G.K) (hm : X.mg "isinstance" = none) (hc : PE (X.suite a ((a, oe) :: pn)) b (tC cv)) (k : ClsV cv u)
    (hi : X.N[i]? = some n := by rfl) (hv : Vis X.env.scope n := by first | exact Or.inl rfl | exact Or.inr (Or.inl rfl)) (hg : Gl X "isinstance" := by rfl) (hd : (n == ("__debug__" : Str)) = false := by decide) (hcd : (n == ("__classdict__" : Str)) = false := by decide)
    (s1 : starEach [.Name n p1, b] X.env = (false, eval (.Name n p1) X.env) :: starEach [b] X.env := by rfl) (s2 : starEach [b] X.env = (false, eval b X.env) :: starEach [] X.env := by rfl) (hpl : (backTo pos (starEach [b] X.env)).any (·.1) = false := by rfl) :
    JE { G with xi := some (a, cls, d) } (X.suite a ((a, oe) :: pn)) W (.Call (.Name "isinstance" p0) [.Name n p1, b] [] pos) (isxP tb i) := by
  refine ⟨_, pe_callB (call_isEx hz hf) hg hm (by decide +kernel) (pa_cons (pe_var hi hv hd hcd) (pa_cons hc pa_nil s2) s1) (by decide) (by decide) s1 hpl, fun H0 Hf H env σ Q s E h => ?_⟩
  unfold isxP at h
  have q := E.get i
  cases e : env.at i with
  | exc c l =>
    rw [e] at h q
    obtain ⟨a', d', ea, xi, ed⟩ := q
    simp only [Option.some.injEq, Prod.mk.injEq] at xi
    obtain ⟨rfl, rfl, rfl⟩ := xi
    simp only at h
    cases et : tb c with
    | none => simp only [et] at h; exact h.elim
    | some b' =>
      simp only [et] at h
      obtain ⟨t1, t2⟩ := T c b' et
      refine ⟨_, ea, _, cv, u, b', rfl, hK ▸ t1, ?_, rfl, fun w r => k.eq r, hK ▸ t2, h _ Hf H (Gr.refl s) (.bl _)⟩
      cases l with
      | nil => exact .inl ed
      | cons f fs =>
        obtain ⟨dd, vfs, ed1, ed2, _⟩ := ed
        exact .inr ⟨dd, vfs, ed1, ed2⟩
  | _ => rw [e] at h; exact h.elim
/-- e.f of the caught error -/
def fldx (cs : List Nat) (m : Str) (i : Nat) (env : Env) : R PV := match env.at i with
  | .exc c l => if c ∈ cs then (match l.lookup m with | some q => .ok q | none => .bad) else .bad
  | _ => .bad
theorem je_fldx {cs : List Nat} (i : Nat) (hz : Zn cls d oe) (hf : ∃ vs, oe.data = .fields vs) (hK : X.K = G.K) (T : ∀ c ∈ cs, XfC G.K (G.cm c) ∧ PySem.W.findIn G.K (.ref (G.cm c)) m = some none)
    (hi : X.N[i]? = some n := by rfl) (hv : Vis X.env.scope n := by first | exact Or.inl rfl | exact Or.inr (Or.inl rfl)) (hd : (n == ("__debug__" : Str)) = false := by decide) (hcd : (n == ("__classdict__" : Str)) = false := by decide) (hb : attributeBase (.Name n p1) m X.env (eval (.Name n p1) X.env) = eval (.Name n p1) X.env := by rfl) :
    JE { G with xi := some (a, cls, d) } (X.suite a ((a, oe) :: pn)) W (.Attribute (.Name n p1) m pos) (fldx cs m i) := by
  refine ⟨fun σ H Q => ∃ c ∈ cs, tXf a cls d (G.cm c) m (tVar i) σ H Q, ⟨fun pins s σ H Q I ⟨c, hc, h⟩ => ?_⟩, fun H0 Hf H env σ Q s E h => ?_⟩
  · obtain ⟨t1, t2⟩ := T c hc
    exact (pe_xf (C := G.cm c) (by rw [hK]; exact t1) (by rw [hK]; exact t2) hz.zc hf (pe_var hi hv hd hcd) hb).run pins s σ H Q I h
  · unfold fldx at h
    have q := E.get i
    cases e : env.at i with
    | exc c l =>
      rw [e] at h q
      obtain ⟨a', d', ea, xi, ed⟩ := q
      simp only [Option.some.injEq, Prod.mk.injEq] at xi
      obtain ⟨rfl, rfl, rfl⟩ := xi
      simp only at h
      by_cases hc : c ∈ cs
      · simp only [if_pos hc] at h
        cases el : l.lookup m with
        | none => simp only [el] at h; exact h.elim
        | some q =>
          simp only [el] at h
          cases l with
          | nil => cases el
          | cons f fs =>
            obtain ⟨dd, vfs, ed1, ed2, ed3⟩ := ed
            obtain ⟨v, ev, rv⟩ := ed3.lookup el
            exact ⟨c, hc, _, ea, rfl, rfl, dd, vfs, v, ed1, ed2, ev, h v Hf H (Gr.refl s) rv⟩
      · simp only [if_neg hc] at h
        exact h.elim
    | _ => rw [e] at h; exact h.elim
end
/-! ### defs called where an error is handled -/
structure DefH (P : Program) (w : World) (K : PySem.W.Frag) (mg : Str → Option Value) (base : Heap) (k : Nat) (x : Str) (ps : List Str) (sp : Sp) : Prop where
  ex : ∃ f fd, mg x = some (.ref f) ∧ PySem.W.keepIn K (.ref f) = true ∧ L2.Binds K fd ps [] ∧ FnH P w K mg base (L2N.CX P w) k f fd ps sp
theorem hot_suite {X : Cx} {a : Addr} {oe : Obj} {cls : Value} {d : Option Addr} {pn : List (Addr × Obj)} (hz : Zn cls d oe) (hf : ∃ vs, oe.data = .fields vs) : HotC (X.suite a ((a, oe) :: pn)) := by
  obtain ⟨vs, hv⟩ := hf
  exact ⟨(a, oe), ⟨rfl, vs, hv, hz.2.2 vs hv⟩, List.mem_cons_self⟩
section
variable {G : Ga} {X : Cx} {W : WX} {x : Str} {e : Expr} {es : List Expr} {p0 pos : Pos} {dl : Env → R (List PV)} {f : List PV → R PV} {k : Nat} {ps : List Str}
theorem je_callH (D : DefH X.prog X.w X.K X.mg X.base k x ps (spJ G f)) (hr : RoomH k X.A) (hh : HotC X) (tk : Takes X W) (ha : JA G X W (e :: es) dl) (hg : Gl X x := by rfl) (hdb : (x == ("__debug__" : Str)) = false := by decide)
    (he : starEach (e :: es) X.env = (false, eval e X.env) :: starEach es X.env := by rfl) (hpl : (backTo pos (starEach es X.env)).any (·.1) = false := by rfl) : JE G X W (.Call (.Name x p0) (e :: es) [] pos) (callE f dl) := by
  obtain ⟨f', fd, g, kp, b, F⟩ := D.ex
  obtain ⟨t, pt, jt⟩ := ha
  exact ⟨_, pe_callH F hr hh hg g kp b (fun σ => passAt tk σ) pt hdb he hpl, fun H0 Hf H env σ Q s E h => jt H0 Hf H env σ _ s E (PostG.bind h fun l vs Hf1 H1 _ g1 r1 h1 => ⟨Hf1, l, g1.sub, r1, post_E (E := WE W) h1⟩)⟩
end
section
variable {P : Program} {w : World} {K : PySem.W.Frag} {mg : Str → Option Value} {base : Heap} {G : Gb}
theorem jdefH {x : Str} {st : Stmt} {ps N : List Str} {k : Nat} {d : Env → F} (F : Bp.GFun K mg x st ps) (S : FnScope N ps (defScope st))
    (h : ∀ (f : Addr) (cdv : Value) (A : Around) (outer : List PySem.Env) (s : Shared) (H : Hp) (E : XK) (p : Addr × Obj), Hot1 A p → RoomH k (A.deeper (envOfC x (defScope st) s.heap.objs.size f cdv)) → JSs ⟨G, none, none⟩ (cxH (L2N.CX P w) P w K mg base N x (defScope st) f cdv A outer s H E p) (WD E) (defBody st) d) :
    DefH P w K mg base (k + 1) x ps (spJ G (fnJ ps.length N.length d)) := by
  obtain ⟨f, fd, Fn, g, b⟩ := F.ex
  refine ⟨f, fd, g, Fn.kp, b, ?_⟩
  obtain ⟨_, _, _, _, _, _, c, _, _, e, hk, hc⟩ := Fn.ex
  subst e
  exact fn_ofH hk hc S len_ok fun A outer s H vs Q E p hot hr q => body_ok (h f c A outer s H E p hot hr) q
end
end J

namespace J
open PySem.Spec PySem PyProof.Rows
open L2 hiding St Takes XE CX takes_of PMk MkP ps_raise mk_of ps_try_as ps_try_many pmk_own passAt passes_call takes0 passL
open L2N hiding St
open Bp (takes0 passL)

/-! ### an owned thing is changed -/
theorem EnvOk.upd {G : Ga} {H0 Hf H : Hp} {env : Env} {σ : L2.St} {i : Nat} {a : Addr} {s : Sl} {o u : HO} (E : EnvOk G H0 Hf H env σ) (hi : (env.at i).isOwn = true) (ea : σ[i]? = some (some (.ref a))) (af : Hf a = none) (ah : H a = some u) (nu : ∀ fs, u ≠ .xd fs)
    (hs : SlOk G H0 Hf (upd H a o) s (some (some (.ref a)))) : EnvOk G H0 Hf (upd H a o) (env.set i s) σ := by
  have away : ∀ j b, j ≠ i → (env.at j).isOwn = true → σ[j]? = some (some (.ref b)) → b ≠ a := fun j b nj hj ej z => by
    subst z
    exact nj (E.dis j i b hj hi ej ea)
  have hl : i < σ.length := by
    by_cases l : i < σ.length
    · exact l
    · rw [List.getElem?_eq_none (by omega)] at ea
      cases ea
  refine ⟨by simp [E.len], fun j => ?_, fun j k b hj hk ej ek => ?_⟩
  · rw [Env.at_set]
    by_cases e : i = j ∧ j < env.length
    · obtain ⟨rfl, _⟩ := e
      rw [if_pos ⟨rfl, by rw [E.len]; exact hl⟩, ea]
      exact hs
    · rw [if_neg e]
      have nj : j ≠ i := fun z => e ⟨z.symm, by rw [z, E.len]; exact hl⟩
      have q := E.get j
      cases ej : env.at j with
      | no => trivial
      | val p => rw [ej] at q; exact q
      | slf c fs => rw [ej] at q; exact q
      | own m =>
        rw [ej] at q
        obtain ⟨b, ws, eb, b0, bf, bh, rr⟩ := q
        exact ⟨b, ws, eb, b0, bf, by rw [upd_ne (away j b nj (by rw [ej]; rfl) eb)]; exact bh, rr⟩
      | oob c fs =>
        rw [ej] at q
        obtain ⟨b, dx, ws, eb, z, b0, bf, bh, rr⟩ := q
        exact ⟨b, dx, ws, eb, z, b0, bf, by rw [upd_ne (away j b nj (by rw [ej]; rfl) eb)]; exact bh, rr⟩
      | exc c fs =>
        rw [ej] at q
        obtain ⟨b, d, eb, xi, rr⟩ := q
        refine ⟨b, d, eb, xi, ?_⟩
        cases fs with
        | nil => exact rr
        | cons v us =>
          obtain ⟨x, vfs, e1, e2, e3⟩ := rr
          refine ⟨x, vfs, e1, ?_, e3⟩
          rw [upd_ne]
          · exact e2
          · intro z
            subst z
            rw [ah] at e2
            cases e2
            exact nu _ rfl
  · rw [Env.at_set] at hj hk
    have red : ∀ m, (if i = m ∧ m < env.length then s else env.at m).isOwn = true → σ[m]? = some (some (.ref b)) → (m = i ∧ a = b) ∨ (m ≠ i ∧ b ≠ a ∧ (env.at m).isOwn = true) := fun m hm em => by
      by_cases e : i = m ∧ m < env.length
      · obtain ⟨rfl, _⟩ := e
        rw [ea] at em
        cases em
        exact .inl ⟨rfl, rfl⟩
      · rw [if_neg e] at hm
        have nm : m ≠ i := fun z => e ⟨z.symm, by rw [z, E.len]; exact hl⟩
        exact .inr ⟨nm, away m b nm hm em, hm⟩
    rcases red j hj ej with ⟨rfl, rfl⟩ | ⟨nj, nb, hj'⟩
    · rcases red k hk ek with ⟨rfl, _⟩ | ⟨_, nb, _⟩
      · rfl
      · exact absurd rfl nb
    · rcases red k hk ek with ⟨rfl, rfl⟩ | ⟨_, _, hk'⟩
      · exact absurd rfl nb
      · exact E.dis j k b hj' hk' ej ek
theorem StOk.upd {G : Ga} {Hf0 H0 Hf H : Hp} {env : Env} {σ : L2.St} {i : Nat} {a : Addr} {s : Sl} {o u : HO} (S : StOk G Hf0 H0 Hf H env σ) (hi : (env.at i).isOwn = true) (ea : σ[i]? = some (some (.ref a))) (a0 : H0 a = none) (af : Hf a = none) (ah : H a = some u) (nu : ∀ fs, u ≠ .xd fs)
    (hs : SlOk G H0 Hf (L2.upd H a o) s (some (some (.ref a)))) : StOk G Hf0 H0 Hf (L2.upd H a o) (env.set i s) σ :=
  ⟨⟨S.gr.fz, fun b w hb => by rw [upd_ne (ne_of_none hb a0)]; exact S.gr.hp _ _ hb, fun b w hb => by rw [upd_ne (ne_of_none hb af)]; exact S.gr.sub _ _ hb, S.gr.new⟩, S.env.upd hi ea af ah nu hs⟩
section
variable {G : Ga} {X : Cx} {W : WX} {e b : Expr} {d db : Env → R PV} {i : Nat} {x m : Str} {pos p1 p2 : Pos} {cs : List Nat}
/-! ### self.f = e in an __init__ -/
def fldF (cs : List Nat) (i : Nat) (m : Str) (d : Env → R PV) (env : Env) : F := match env.at i with
  | .oob c fs => liftF (d env) env fun p => if c ∈ cs ∧ fs.length < 900 then .nx (env.set i (.oob c (putP m p fs))) else .bad
  | _ => .bad
theorem js_fld (i : Nat) (hK : X.K = G.K) (hc : ∀ c ∈ cs, Cls G.K (G.cm c) ∧ NoAttr G.K (G.cm c) m) (h : JE G X W e d) (hi : X.N[i]? = some x := by rfl) (hv : Vis X.env.scope x := by first | exact Or.inl rfl | exact Or.inr (Or.inl rfl) | exact Or.inr (Or.inr rfl)) (hd : (x == ("__debug__" : Str)) = false := by decide) (hcd : (x == ("__classdict__" : Str)) = false := by decide)
    (hs : swapsWith e (some (.Attribute (.Name x p1) m p2)) pos.line X.env = pure false := by rfl) : JS G X W (.Assign [.Attribute (.Name x p1) m p2] e pos) (fldF cs i m d) := by
  obtain ⟨t, pt, jt⟩ := h
  refine ⟨_, ps_fld (pe_var hi hv hd hcd) pt hs, fun Hf0 H0 Hf H env σ D S h => ?_⟩
  unfold fldF at h
  cases el : env.at i with
  | oob c fs =>
    rw [el] at h
    simp only at h
    refine jt H0 Hf H env σ _ S.gr.sub S.env (post_lift S h fun p v Hf' H' g S' rp k => ?_)
    have q := S'.env.get i
    rw [el] at q
    obtain ⟨a, dx, vfs, ea, z, a0, af, ah, rr⟩ := q
    by_cases y : c ∈ cs ∧ fs.length < 900
    · rw [if_pos y] at k
      obtain ⟨c1, c2⟩ := hc c y.1
      refine ⟨.ref a, ea, a, _, dx, vfs, rfl, ah, hK ▸ c1, hK ▸ c2, by rw [← rr.length]; omega, ?_⟩
      exact k σ Hf' _ (S'.upd (by rw [el]; rfl) ea a0 af ah (fun _ w => nomatch w) ⟨a, dx, _, rfl, z, a0, af, upd_same, rr.put rp⟩) (fun _ _ h => h)
    · rw [if_neg y] at k
      exact k.elim
  | _ => rw [el] at h; exact h.elim
/-- self.f read while self is still owned -/
def ofld (i : Nat) (cs : List Nat) (m : Str) (env : Env) : R PV := match env.at i with
  | .oob c fs => if c ∈ cs then (match fs.lookup m with | some q => .ok q | none => .bad) else .bad
  | .slf c fs => if c ∈ cs then (match fs.lookup m with | some q => .ok q | none => .bad) else .bad
  | _ => .bad
theorem je_ofld (i : Nat) (hK : X.K = G.K) (hc : ∀ c ∈ cs, Cls G.K (G.cm c) ∧ NoAttr G.K (G.cm c) m) (hi : X.N[i]? = some x := by rfl) (hv : Vis X.env.scope x := by first | exact Or.inl rfl | exact Or.inr (Or.inl rfl) | exact Or.inr (Or.inr rfl)) (hd : (x == ("__debug__" : Str)) = false := by decide) (hcd : (x == ("__classdict__" : Str)) = false := by decide)
    (hb : attributeBase (.Name x p1) m X.env (eval (.Name x p1) X.env) = eval (.Name x p1) X.env := by rfl) : JE G X W (.Attribute (.Name x p1) m pos) (ofld i cs m) := by
  refine ⟨_, pe_fld (pe_var hi hv hd hcd) hb, fun H0 Hf H env σ Q s E h => ?_⟩
  unfold ofld at h
  have q := E.get i
  cases el : env.at i with
  | oob c fs =>
    rw [el] at h q
    obtain ⟨a, dx, vfs, ea, _, _, _, ah, rr⟩ := q
    by_cases y : c ∈ cs
    · simp only [if_pos y] at h
      cases e : fs.lookup m with
      | none => simp only [e] at h; exact h.elim
      | some q =>
        simp only [e] at h
        obtain ⟨u, eu, ru⟩ := rr.lookup e
        obtain ⟨c1, c2⟩ := hc c y
        exact ⟨_, ea, a, _, dx, vfs, u, rfl, ah, hK ▸ c1, hK ▸ c2, eu, h u Hf H (Gr.refl s) ru⟩
    · simp only [if_neg y] at h
      exact h.elim
  | slf c fs =>
    rw [el] at h q
    obtain ⟨a, ea, _, ro⟩ := q
    obtain ⟨a', dx, vfs, ee, ah, rr⟩ := ro.of_obj
    cases ee
    by_cases y : c ∈ cs
    · simp only [if_pos y] at h
      cases e : fs.lookup m with
      | none => simp only [e] at h; exact h.elim
      | some q =>
        simp only [e] at h
        obtain ⟨u, eu, ru⟩ := rr.lookup e
        obtain ⟨c1, c2⟩ := hc c y
        exact ⟨_, ea, a, _, dx, vfs, u, rfl, s _ _ ah, hK ▸ c1, hK ▸ c2, eu, h u Hf H (Gr.refl s) ru⟩
    · simp only [if_neg y] at h
      exact h.elim
  | _ => rw [el] at h; exact h.elim
/-! ### xs[k] = e of an owned list -/
def setI (i : Nat) (dk d : Env → R PV) (env : Env) : F := match env.at i with
  | .own l => liftF (d env) env fun p => liftF (dk env) env fun k => match k with
    | .int j => (match ixN l.length j with | some n => .nx (env.set i (.own (l.set n p))) | none => .bad)
    | _ => .bad
  | _ => .bad
end
/-! ### an __init__ -/
def spI (G : Gb) (c : Nat) (f : List PV → R PV) : Sp := fun vs H Q E => ∃ Hf l a dx ws, vs = .ref a :: ws ∧ Hf a = none ∧ H a = some (.ins (G.cm c) dx []) ∧ Same Hf H ∧ Reps G Hf l ws ∧ (match f l with
  | .ok p => ∀ Hf' H', Gr Hf (del H a) Hf' H' → Rep G Hf' p (.ref a) → Q .non H'
  | .er c fs => ∀ Hf' H' d, Gr Hf (del H a) Hf' H' → ErD G Hf' H' fs d → E (.ref (G.cm c)) d H'
  | .bad => False)
def ansI (f : F) : R PV := match f with
  | .nx e => (match (frz 0 e).at 0 with | .slf c fs => .ok (.obj c fs) | _ => .bad)
  | .er _ c fs => .er c fs
  | _ => .bad
def fnI (np nn c : Nat) (d : Env → F) (l : List PV) : R PV := if l.length + 1 = np then ansI (d (.oob c [] :: env0 (nn - 1) l)) else .bad
section
variable {G : Gb} {P : Program} {w : World} {K : PySem.W.Frag} {mg : Str → Option Value} {base : Heap}
theorem same_del {Hf H : Hp} {a : Addr} (s : Same Hf H) (h : Hf a = none) : Same Hf (del H a) := fun b o hb => by
  rw [L2.del_ne (ne_of_none hb h)]
  exact s _ _ hb
theorem init_body {X : Cx} {E : XK} {sts : List Stmt} {d : Env → F} {N ps : List Str} {vs : List V} {Q : VK} {H : Hp} {c : Nat} (hN : 0 < N.length) (h : ∀ a, JSs ⟨G, none, some a⟩ X (WD E) sts d) (q : spI G c (fnI ps.length N.length c d) vs H Q E) :
    ∃ t, PSs X sts t ∧ t { nx := fun _ H' => Q .non H', rt := Q } (L2.start N vs) H := by
  obtain ⟨Hf, l, a, dx, ws, rfl, af, ah, s, r, q⟩ := q
  obtain ⟨t, pt, jt⟩ := h a
  refine ⟨t, pt, ?_⟩
  have e0 : L2.start N (.ref a :: ws) = some (.ref a) :: (ws.map some ++ List.replicate ((N.length - 1) - ws.length) none) := by
    unfold L2.start
    rw [List.map_cons, List.cons_append, List.length_cons, show N.length - (ws.length + 1) = N.length - 1 - ws.length by omega]
  have hl := r.length
  have g0 : Gr Hf (del H a) Hf H := ⟨fun _ _ h => h, fun b o hb => by
    by_cases e : b = a
    · subst e; rw [L2.del_same] at hb; cases hb
    · rw [L2.del_ne e] at hb; exact hb, s, fun _ _ h => .inl h⟩
  have en : EnvOk ⟨G, none, some a⟩ (del H a) Hf H (.oob c [] :: env0 (N.length - 1) l) (L2.start N (.ref a :: ws)) := by
    have E1 : EnvOk ⟨G, none, none⟩ H Hf H (env0 (List.replicate (N.length - 1) ("" : Str)).length l) (L2.start (List.replicate (N.length - 1) ("" : Str)) ws) := env0_ok r
    rw [List.length_replicate] at E1
    have e1 : L2.start (List.replicate (N.length - 1) ("" : Str)) ws = ws.map some ++ List.replicate ((N.length - 1) - ws.length) none := by
      unfold L2.start
      rw [List.length_replicate]
    rw [e1] at E1
    rw [e0]
    have nown : ∀ j, ((env0 (N.length - 1) l).at j).isOwn = false := fun j => by
      unfold env0 Env.at
      rw [List.getD_eq_getElem?_getD]
      by_cases hj : j < l.length
      · rw [List.getElem?_append_left (by simpa using hj), List.getElem?_map, List.getElem?_eq_getElem hj]
        rfl
      · rw [List.getElem?_append_right (by simpa using Nat.le_of_not_lt hj), List.getElem?_replicate]
        split <;> rfl
    refine ⟨by simp [E1.len], fun j => ?_, fun j k b hj hk ej ek => ?_⟩
    · cases j with
      | zero => exact ⟨a, dx, [], rfl, fun b hb => Option.some.inj hb, L2.del_same, af, ah, .nil⟩
      | succ j =>
        have q := E1.get j
        show SlOk _ _ _ _ ((env0 (N.length - 1) l).at j) _
        have nn := nown j
        cases ej : (env0 (N.length - 1) l).at j with
        | no => trivial
        | val p => rw [ej] at q; exact q
        | own m => rw [ej] at nn; cases nn
        | oob c fs => rw [ej] at nn; cases nn
        | slf c fs =>
          exfalso
          unfold env0 Env.at at ej
          rw [List.getD_eq_getElem?_getD] at ej
          by_cases hj : j < l.length
          · rw [List.getElem?_append_left (by simpa using hj), List.getElem?_map, List.getElem?_eq_getElem hj] at ej
            cases ej
          · rw [List.getElem?_append_right (by simpa using Nat.le_of_not_lt hj), List.getElem?_replicate] at ej
            split at ej <;> cases ej
        | exc c fs =>
          exfalso
          unfold env0 Env.at at ej
          rw [List.getD_eq_getElem?_getD] at ej
          by_cases hj : j < l.length
          · rw [List.getElem?_append_left (by simpa using hj), List.getElem?_map, List.getElem?_eq_getElem hj] at ej
            cases ej
          · rw [List.getElem?_append_right (by simpa using Nat.le_of_not_lt hj), List.getElem?_replicate] at ej
            split at ej <;> cases ej
    · cases j with
      | zero =>
        cases k with
        | zero => rfl
        | succ k =>
          have : ((env0 (N.length - 1) l).at k).isOwn = true := hk
          rw [nown] at this
          cases this
      | succ j =>
        have : ((env0 (N.length - 1) l).at j).isOwn = true := hj
        rw [nown] at this
        cases this
  refine jt Hf (del H a) Hf H _ _ _ ⟨g0, en⟩ ?_
  unfold fnI at q
  by_cases hp : l.length + 1 = ps.length
  · rw [if_pos hp] at q
    unfold ansI at q
    cases e : d (.oob c [] :: env0 (N.length - 1) l) with
    | nx e' =>
      rw [e] at q
      simp only at q
      intro σ' Hf' H' S _
      obtain ⟨Hf2, s2, S2⟩ := S.frz 0
      cases es : (frz 0 e').at 0 with
      | slf c' fs =>
        simp only [es] at q
        have z := S2.env.get 0
        rw [es] at z
        obtain ⟨b, eb, hb, rb⟩ := z
        have := hb a rfl
        subst this
        exact q Hf2 H' S2.gr rb
      | _ => simp only [es] at q
    | er e' c' fs => rw [e] at q; exact fun σ' Hf' H' d S _ ed => q Hf' H' d S.gr ed
    | rt p => rw [e] at q; exact q.elim
    | bk e' => rw [e] at q; exact q.elim
    | ct e' => rw [e] at q; exact q.elim
    | bad => rw [e] at q; exact q.elim
  · rw [if_neg hp] at q
    exact q.elim
theorem init_len {ps : List Str} {n c : Nat} {d : Env → F} : ∀ vs H Q E, spI G c (fnI ps.length n c d) vs H Q E → vs.length = ps.length := fun vs H Q E ⟨Hf, l, a, dx, ws, e, _, _, _, r, q⟩ => by
  subst e
  unfold fnI at q
  by_cases hp : l.length + 1 = ps.length
  · rw [List.length_cons, ← r.length, hp]
  · rw [if_neg hp] at q
    exact q.elim
/-- an __init__ without defaults -/
theorem jinit {qual : Str} {st : Stmt} {f : Addr} {fd : FuncData} {ps N : List Str} {k c : Nat} {d : Env → F} (F : L2.Fun K "__init__" qual st f fd) (S : FnScope N ps (defScope st)) (hN : 0 < N.length)
    (h : ∀ (cdv : Value) (A : Around) (outer : List PySem.Env) (s : Shared) (H : Hp) (E : XK) (a : Addr), Room k (A.deeper (envOfC qual (defScope st) s.heap.objs.size f cdv)) → JSs ⟨G, none, some a⟩ (cxOf (L2N.CX P w) P w K mg base N qual (defScope st) f cdv A outer s H E) (WD E) (defBody st) d) :
    FnOk P w K mg base (L2N.CX P w) (k + 1) f fd ps (spI G c (fnI ps.length N.length c d)) := Bp.okN F S init_len fun cdv A outer s H vs Q E hr q => init_body hN (fun a => h cdv A outer s H E a hr) q
/-- .. with defaults -/
theorem jinitD {qual : Str} {params : Arguments} {body : List Stmt} {scope : Scope} {dvs : List V} {kws : List (Str × V)} {f : Addr} {fd : FuncData} {ps N : List Str} {k c : Nat} {d : Env → F} (F : FunD K "__init__" qual params body scope dvs kws f fd) (S : FnScope N ps scope) (hN : 0 < N.length)
    (h : ∀ (cdv : Value) (A : Around) (outer : List PySem.Env) (s : Shared) (H : Hp) (E : XK) (a : Addr), Room k (A.deeper (envOfC qual scope s.heap.objs.size f cdv)) → JSs ⟨G, none, some a⟩ (cxOf (L2N.CX P w) P w K mg base N qual scope f cdv A outer s H E) (WD E) body d) :
    FnOk P w K mg base (L2N.CX P w) (k + 1) f fd ps (spI G c (fnI ps.length N.length c d)) := F.ok S init_len fun cdv A outer s H vs Q E hr q => init_body hN (fun a => h cdv A outer s H E a hr) q
end
/-! ### C(..) -/
def makeE (f : List PV → R PV) (ds : List PV) (dl : Env → R (List PV)) (env : Env) : R PV := (dl env).bind fun l => f (l ++ ds)
section
variable {G : Ga} {X : Cx} {W : WX} {e : Expr} {es : List Expr} {x : Str} {p0 pos : Pos} {dl : Env → R (List PV)} {f : List PV → R PV} {k c : Nat} {C : Addr} {dvs : List V} {ds : List PV}
theorem tj_make {ta : TA} (hC : C = G.cm c) (hd : ∀ Hf, Reps G Hf ds dvs) (ja : TJA G W ta dl) : TJ G W (Bp.tMakeS C (spI G c f) dvs (WE W) ta) (makeE f ds dl) := fun H0 Hf H env σ Q s E h =>
  ja H0 Hf H env σ _ s E (PostG.bind h fun l vs Hf1 H1 _ g1 r1 h1 => by
    subst hC
    intro x dx hx hdx ne
    have f1 := none_back g1.sub hx
    have f2 := none_back g1.sub hdx
    have eH : del (upd (upd H1 dx (.own x)) x (.ins (G.cm c) dx [])) x = upd H1 dx (.own x) := by
      funext b
      by_cases e : b = x
      · subst e
        rw [L2.del_same, upd_ne (Ne.symm ne)]
        exact hx.symm
      · rw [L2.del_ne e, upd_ne e]
    have s1 : Same H1 (upd H1 dx (.own x)) := Same.new hdx
    have s2 : Same Hf1 (upd (upd H1 dx (.own x)) x (.ins (G.cm c) dx [])) := fun b o hb => by
      rw [upd_ne (ne_of_none hb f1), upd_ne (ne_of_none hb f2)]
      exact g1.sub _ _ hb
    have low : ∀ {Hf' H'}, Gr Hf1 (upd H1 dx (.own x)) Hf' H' → Gr Hf1 H1 Hf' H' := fun g => ⟨g.fz, s1.trans g.hp, g.sub, fun b o hb => (g.new b o hb).elim .inl fun z => .inr (none_back s1 z)⟩
    refine ⟨Hf1, l ++ ds, x, dx, vs ++ dvs, rfl, f1, upd_same, s2, r1.append (hd Hf1), ?_⟩
    rw [eH]
    cases e : f (l ++ ds) with
    | ok p => rw [e] at h1; exact fun Hf' H' g rp => ⟨rfl, h1 _ Hf' H' (low g) rp⟩
    | er c fs => rw [e] at h1; exact fun Hf' H' d g ed => h1 Hf' H' d (low g) ed
    | bad => rw [e] at h1; exact h1.elim)
theorem je_make (D : Bp.CDef X.prog X.w X.K X.mg X.base k x C (spI G c f) dvs) (hC : C = G.cm c) (hd : ∀ Hf, Reps G Hf ds dvs) (hr : Room (k + 1) X.A) (tk : Takes X W) (ha : JA G X W (e :: es) dl) (hg : Gl X x := by rfl) (hdb : (x == ("__debug__" : Str)) = false := by decide)
    (he : starEach (e :: es) X.env = (false, eval e X.env) :: starEach es X.env := by rfl) (hpl : (backTo pos (starEach es X.env)).any (·.1) = false := by rfl) : JE G X W (.Call (.Name x p0) (e :: es) [] pos) (makeE f ds dl) := by
  obtain ⟨t, pt, jt⟩ := ha
  exact ⟨_, Bp.pe_makeD D hr tk pt hg hdb he hpl, tj_make hC hd jt⟩
end
end J

namespace J
open PySem.Spec PySem PyProof.Rows
open L2 hiding St Takes XE CX takes_of PMk MkP ps_raise mk_of ps_try_as ps_try_many pmk_own passAt passes_call takes0 passL
open L2N hiding St
open Bp (takes0 passL OpS R2S IsI rOwn rRef rDecl NoNum rOth rORf IntT IntC FnNI)

/-! ### instances of own classes -/
def isC (c : Nat) (p : PV) : Bool := match p with | .fr _ => c == 0 | .obj c' _ => c' == c | _ => false
def isInt (p : PV) : Bool := match p with | .int _ => true | _ => false
def isNS (p : PV) : Bool := match p with | .non => true | .str _ => true | _ => false
section
variable {G : Gb} {Hf H : Hp} {p : PV} {v : V} {c : Nat}
theorem rep_isC (h : isC c p = true) (r : Rep G Hf p v) (s : Same Hf H) : IsI (G.cm c) H v := by
  cases r with
  | fr ho =>
    have : c = 0 := by simpa [isC] using h
    subst this
    exact ⟨_, _, _, rfl, s _ _ ho⟩
  | obj ho hf =>
    rename_i c' fs a dx vfs
    have : c' = c := by simpa [isC] using h
    subst this
    exact ⟨_, _, _, rfl, s _ _ ho⟩
  | _ => cases h
theorem rep_isInt (h : isInt p = true) (r : Rep G Hf p v) : ∃ j, v = .int j := by
  cases r with
  | int i => exact ⟨i, rfl⟩
  | _ => cases h
theorem rep_isNS (h : isNS p = true) (r : Rep G Hf p v) : NoNum v := by
  cases r with
  | non => exact .inl rfl
  | str x => exact .inr ⟨x, rfl⟩
  | _ => cases h
end
/-- what the text says of an own class -/
structure OwT (K : PySem.W.Frag) (C : Addr) : Prop where
  self : PySem.W.selfFirst K C = true
  subI : PySem.W.subIn K (.type "int") (.ref C) = some false
  subN : PySem.W.subIn K (.type "NoneType") (.ref C) = some false
  subS : PySem.W.subIn K (.type "str") (.ref C) = some false
  subC : PySem.W.subIn K (.ref C) (.type "int") = some false
/-- and of its operator nm -/
structure OpF (K : PySem.W.Frag) (C : Addr) (nm : String) : Prop where
  hr : ∃ rc, PySem.W.findIn K (.ref C) (dunderR nm) = some rc ∧ (rc = none ∨ ∃ g : Addr, rc = some (.ref g))
  h1 : ∃ fo, PySem.W.findIn K (.type "int") (PySem.dunder nm) = some fo
  h2 : ∃ ro, PySem.W.findIn K (.type "int") (dunderR nm) = some ro
def ownL (c : Nat) (f : List PV → R PV) (a b : PV) : R PV := if (isC c a && (isC c b || isInt b)) = true then f [a, b] else .bad
def ownR (c : Nat) (f : List PV → R PV) (a b : PV) : R PV := if (isInt a && isC c b) = true then f [b, a] else .bad
def ownN (c : Nat) (f : List PV → R PV) (a b : PV) : R PV := if (isC c a && isNS b) = true then f [a, b] else .bad
def othL (c c2 : Nat) (f : List PV → R PV) (a b : PV) : R PV := if (isC c a && isC c2 b) = true then f [a, b] else .bad
def othR (c c2 : Nat) (pre : List PV → Bool) (f : List PV → R PV) (a b : PV) : R PV := if (isC c a && isC c2 b && pre [a, b]) = true then f [b, a] else .bad
def declF (c : Nat) (pre : List PV → Bool) (a b : PV) : R PV := if (isC c a && isNS b && pre [a, b]) = true then .ok (.bl false) else .bad
/-- an own def hands back NotImplemented where pre holds -/
def preJ (G : Gb) (pre : List PV → Bool) : List V → Hp → Prop := fun vs H => ∃ Hf l, Same Hf H ∧ Reps G Hf l vs ∧ pre l = true
structure NDef (P : Program) (w : World) (K : PySem.W.Frag) (mg : Str → Option Value) (base : Heap) (k : Nat) (C : Addr) (m : Str) (ps : List Str) (pre : List V → Hp → Prop) : Prop where
  ex : ∃ f fd, Meth K C m f ∧ L2.Binds K fd ps [] ∧ FnNI P w K mg base k f fd ps pre
def niP (np nn : Nat) (d : Env → R Bool) (l : List PV) : Bool := if l.length = np then (match d (env0 nn l) with | .ok b => b | _ => false) else false
section
variable {P : Program} {w : World} {K : PySem.W.Frag} {mg : Str → Option Value} {base : Heap} {G : Gb}
theorem jni {m qual : Str} {C : Addr} {st : Stmt} {ps N : List Str} {k : Nat} {d : Env → R Bool} {c : Expr} {p1 p2 p3 : Pos} {rest : List Stmt} (F : Bp.MFun K C m qual st ps) (S : FnScope N ps (defScope st)) (hN : mg "NotImplemented" = none) (hb : defBody st = .If c [.Return (some (.Name "NotImplemented" p1)) p2] [] p3 :: rest)
    (h : ∀ (f : Addr) (cdv : Value) (A : Around) (outer : List PySem.Env) (s : Shared) (H : Hp), Room k (A.deeper (envOfC qual (defScope st) s.heap.objs.size f cdv)) → JT ⟨G, none, none⟩ (cxOf CX0 P w K mg base N qual (defScope st) f cdv A outer s H E0) W0 c d)
    (hg : (defScope st).names.lookup ("NotImplemented" : Str) = some NameKind.globalImplicit := by rfl) :
    NDef P w K mg base (k + 1) C m ps (preJ G (niP ps.length N.length d)) := by
  obtain ⟨f, fd, Fn, hm, b⟩ := F.ex
  refine ⟨f, fd, hm, b, Bp.ni_of Fn S (fun vs H ⟨Hf, l, s, r, q⟩ => ?_) hb hN (fun X e => ?_) fun cdv A outer s H vs hr ⟨Hf, l, sm, r, q⟩ => ?_⟩
  · unfold niP at q
    by_cases hl : l.length = ps.length
    · rw [← r.length, hl]
    · rw [if_neg hl] at q; cases q
  · show X.env.scope.names.lookup _ = _
    rw [e]
    exact hg
  · obtain ⟨t, pt, jt⟩ := h f cdv A outer s H hr
    refine ⟨t, pt, jt H Hf H _ _ _ sm (env0_ok (N := N) r) ?_⟩
    unfold niP at q
    by_cases hl : l.length = ps.length
    · rw [if_pos hl] at q
      cases e : d (env0 N.length l) with
      | ok b' =>
        rw [e] at q
        simp only at q
        subst q
        rintro v Hf' H' g rfl
        exact ⟨rfl, g.hp⟩
      | er _ _ => rw [e] at q; cases q
      | bad => rw [e] at q; cases q
    · rw [if_neg hl] at q; cases q
end
section
variable {G : Ga} {X : Cx} {W : WX} {k c c2 : Nat} {C C2 : Addr} {m : Str} {ps : List Str} {f : List PV → R PV} {pre : List PV → Bool}
theorem post_sp {Hf H : Hp} {σ : L2.St} {Q : VK} {l : List PV} {vs : List V} {f : List PV → R PV} (s : Same Hf H) (rl : Reps G Hf l vs) (h : Post G W Hf H σ (f l) Q) : spJ G f vs H Q (WE W σ) := ⟨Hf, l, s, rl, post_E (E := WE W) h⟩
theorem o_ownL {op : Operator} (T : OwT X.K C) (O : OpF X.K C op.info.2) (D : Bp.MDef X.prog X.w X.K X.mg X.base k C m ps (spJ G f)) (hC : C = G.cm c) (hr : Room k X.A) (tk : Takes X W) (hnm : m = PySem.dunder op.info.2 := by rfl) : OpJ G X W (binaryOp op) (ownL c f) := by
  subst hC
  refine ⟨_, Bp.op_ownD hnm T.self O.hr O.h1 O.h2 T.subI T.subC D hr tk, fun Hf H σ x y a b Q s ra rb h => ?_⟩
  unfold ownL at h
  by_cases z : (isC c a && (isC c b || isInt b)) = true
  · rw [if_pos z] at h
    rw [Bool.and_eq_true, Bool.or_eq_true] at z
    exact ⟨rep_isC z.1 ra s, z.2.elim (fun q => .inl (rep_isC q rb s)) fun q => .inr (rep_isInt q rb), post_sp s (.cons ra (.cons rb .nil)) h⟩
  · rw [if_neg z] at h
    exact h.elim
theorem o_ownR {op : Operator} {idl : String} {k' : Nat} {m' : Str} {ps' : List Str} {sp' : Sp} (T : OwT X.K C) (O : OpF X.K C op.info.2) (L : IntT op.info.2 idl) (D' : Bp.MDef X.prog X.w X.K X.mg X.base k' C m' ps' sp') (D : Bp.MDef X.prog X.w X.K X.mg X.base k C m ps (spJ G f)) (hC : C = G.cm c) (hr : Room k X.A) (tk : Takes X W)
    (hn' : m' = PySem.dunder op.info.2 := by rfl) (hnm : m = dunderR op.info.2 := by rfl) : OpJ G X W (binaryOp op) (ownR c f) := by
  obtain ⟨f1, fd1, hm1, b1, F1⟩ := D'.ex
  obtain ⟨f2, fd2, hm2, b2, F2⟩ := D.ex
  subst hC hn' hnm
  refine ⟨_, Bp.op_ref L ⟨T.self, hm1.at_, hm1.fn, O.hr, O.h1, O.h2, T.subI, T.subC⟩ hm2.at_ hm2.fn F2 hr b2 (fun σ => passAt tk σ), fun Hf H σ x y a b Q s ra rb h => ?_⟩
  unfold ownR at h
  by_cases z : (isInt a && isC c b) = true
  · rw [if_pos z] at h
    rw [Bool.and_eq_true] at z
    exact ⟨rep_isInt z.1 ra, rep_isC z.2 rb s, post_sp s (.cons rb (.cons ra .nil)) h⟩
  · rw [if_neg z] at h
    exact h.elim
theorem o_othL {op : Operator} {k' : Nat} {m' : Str} (T : OwT X.K C) (T2 : OwT X.K C2) (O : OpF X.K C op.info.2) (O2 : OpF X.K C2 op.info.2) (hs2 : ∃ f2 : Addr, PySem.W.findIn X.K (.ref C2) (PySem.dunder op.info.2) = some (some (.ref f2))) (ne : C ≠ C2) (sub : PySem.W.subIn X.K (.ref C2) (.ref C) = some false)
    (D : Bp.MDef X.prog X.w X.K X.mg X.base k C m ps (spJ G f)) (hC : C = G.cm c) (hC2 : C2 = G.cm c2) (hr : Room k X.A) (tk : Takes X W) (hnm : m = PySem.dunder op.info.2 := by rfl) : OpJ G X W (binaryOp op) (othL c c2 f) := by
  obtain ⟨f1, fd1, hm1, b1, F1⟩ := D.ex
  subst hC hC2 hnm
  refine ⟨_, Bp.op_oth ⟨T.self, T2.self, hm1.at_, hm1.fn, O.hr, hs2, O2.hr, ne, sub⟩ F1 hr b1 (fun σ => passAt tk σ), fun Hf H σ x y a b Q s ra rb h => ?_⟩
  unfold othL at h
  by_cases z : (isC c a && isC c2 b) = true
  · rw [if_pos z] at h
    rw [Bool.and_eq_true] at z
    exact ⟨rep_isC z.1 ra s, rep_isC z.2 rb s, post_sp s (.cons ra (.cons rb .nil)) h⟩
  · rw [if_neg z] at h
    exact h.elim
theorem o_othR {op : Operator} {k' : Nat} {m' : Str} {ps' : List Str} (T : OwT X.K C) (T2 : OwT X.K C2) (O : OpF X.K C op.info.2) (O2 : OpF X.K C2 op.info.2) (hs2 : ∃ f2 : Addr, PySem.W.findIn X.K (.ref C2) (PySem.dunder op.info.2) = some (some (.ref f2))) (ne : C ≠ C2) (sub : PySem.W.subIn X.K (.ref C2) (.ref C) = some false)
    (N : NDef X.prog X.w X.K X.mg X.base k' C m' ps' (preJ G pre)) (D : Bp.MDef X.prog X.w X.K X.mg X.base k C2 m ps (spJ G f)) (hC : C = G.cm c) (hC2 : C2 = G.cm c2) (hr : Room k X.A) (hr' : Room k' X.A) (tk : Takes X W) (hn' : m' = PySem.dunder op.info.2 := by rfl) (hnm : m = dunderR op.info.2 := by rfl) : OpJ G X W (binaryOp op) (othR c c2 pre f) := by
  obtain ⟨f1, fd1, hm1, b1, F1⟩ := N.ex
  obtain ⟨f2, fd2, hm2, b2, F2⟩ := D.ex
  subst hC hC2 hn' hnm
  refine ⟨_, Bp.op_oref ⟨T.self, T2.self, hm1.at_, hm1.fn, O.hr, hs2, O2.hr, ne, sub⟩ F1 hr' b1 hm2.at_ hm2.fn F2 hr b2 (fun σ => passAt tk σ), fun Hf H σ x y a b Q s ra rb h => ?_⟩
  unfold othR at h
  by_cases z : (isC c a && isC c2 b && pre [a, b]) = true
  · rw [if_pos z] at h
    rw [Bool.and_eq_true, Bool.and_eq_true] at z
    exact ⟨rep_isC z.1.1 ra s, rep_isC z.1.2 rb s, ⟨Hf, [a, b], s, .cons ra (.cons rb .nil), z.2⟩, fun H' s' => post_sp (s.trans s') (.cons rb (.cons ra .nil)) (PostG.grow h (Gr.up s s'))⟩
  · rw [if_neg z] at h
    exact h.elim
/-! comparisons -/
theorem c_ownL {op : CmpOp} (T : OwT X.K C) (D : Bp.MDef X.prog X.w X.K X.mg X.base k C m ps (spJ G f)) (hC : C = G.cm c) (hr : Room k X.A) (tk : Takes X W) (hop : ∀ a b, compareOp op a b = richCompare op a b := by intro _ _; rfl) (hnm : m = (cmpInfo op).2.1 := by rfl) : OpJ G X W (compareOp op) (ownL c f) := by
  obtain ⟨f1, fd1, hm1, b1, F1⟩ := D.ex
  subst hC hnm
  refine ⟨_, Bp.cmp_own hop hm1.at_ hm1.fn T.subI F1 hr b1 (fun σ => passAt tk σ), fun Hf H σ x y a b Q s ra rb h => ?_⟩
  unfold ownL at h
  by_cases z : (isC c a && (isC c b || isInt b)) = true
  · rw [if_pos z] at h
    rw [Bool.and_eq_true, Bool.or_eq_true] at z
    exact ⟨rep_isC z.1 ra s, z.2.elim (fun q => .inl (rep_isC q rb s)) fun q => .inr (rep_isInt q rb), post_sp s (.cons ra (.cons rb .nil)) h⟩
  · rw [if_neg z] at h
    exact h.elim
theorem c_ownR {op : CmpOp} {idl : String} (T : OwT X.K C) (L : IntC op idl) (D : Bp.MDef X.prog X.w X.K X.mg X.base k C m ps (spJ G f)) (hC : C = G.cm c) (hr : Room k X.A) (tk : Takes X W) (hop : ∀ a b, compareOp op a b = richCompare op a b := by intro _ _; rfl) (hnm : m = (cmpInfo op).2.2 := by rfl) : OpJ G X W (compareOp op) (ownR c f) := by
  obtain ⟨f1, fd1, hm1, b1, F1⟩ := D.ex
  subst hC hnm
  refine ⟨_, Bp.cmp_ref hop L hm1.at_ hm1.fn T.subC F1 hr b1 (fun σ => passAt tk σ), fun Hf H σ x y a b Q s ra rb h => ?_⟩
  unfold ownR at h
  by_cases z : (isInt a && isC c b) = true
  · rw [if_pos z] at h
    rw [Bool.and_eq_true] at z
    exact ⟨rep_isInt z.1 ra, rep_isC z.2 rb s, post_sp s (.cons rb (.cons ra .nil)) h⟩
  · rw [if_neg z] at h
    exact h.elim
theorem c_decl (T : OwT X.K C) (N : NDef X.prog X.w X.K X.mg X.base k C "__eq__" ps (preJ G pre)) (hC : C = G.cm c) (hr : Room k X.A) : OpJ G X W (compareOp .Eq) (declF c pre) := by
  obtain ⟨f1, fd1, hm1, b1, F1⟩ := N.ex
  subst hC
  refine ⟨_, Bp.eq_decl hm1.at_ hm1.fn T.subN T.subS F1 hr b1, fun Hf H σ x y a b Q s ra rb h => ?_⟩
  unfold declF at h
  by_cases z : (isC c a && isNS b && pre [a, b]) = true
  · rw [if_pos z] at h
    rw [Bool.and_eq_true, Bool.and_eq_true] at z
    exact ⟨rep_isC z.1.1 ra s, rep_isNS z.1.2 rb, ⟨Hf, [a, b], s, .cons ra (.cons rb .nil), z.2⟩, fun H' s' => h _ Hf H' (Gr.up s s') (.bl _)⟩
  · rw [if_neg z] at h
    exact h.elim
/-- an own comparison with None or a text -/
def rOwnN (C : Addr) (sp : Sp) (E : L2.St → XK) : R2S := fun σ x y H Q => IsI C H x ∧ NoNum y ∧ sp [x, y] H Q (E σ)
theorem cmp_ownNS {op : CmpOp} {fa : Addr} {fd : FuncData} {sp : Sp} {CXt : CXT} {E : L2.St → XK} (hop : ∀ a b, compareOp op a b = richCompare op a b) (hs : PySem.W.findIn X.K (.ref C) (cmpInfo op).2.1 = some (some (.ref fa))) (hf : PySem.W.isFn X.K (.ref fa) = true) (T : OwT X.K C)
    (F : FnOk X.prog X.w X.K X.mg X.base CXt k fa fd ps sp) (hr : Room k X.A) (hb : L2.Binds X.K fd ps []) (hx : ∀ σ, PassesAt CXt X σ (E σ)) : OpS X (compareOp op) (rOwnN C sp E) := by
  intro pins s σ H x y v u Q I rx ry h
  obtain ⟨⟨a, dx, fs, rfl, ha⟩, hy, q⟩ := h
  cases (show v = Value.ref a from rx)
  obtain ⟨_, od, Ja⟩ := Bp.inst_of I ha
  obtain ⟨_, hF⟩ := I.fr
  rw [hop]
  have hn : ∀ {tb : Value}, PySem.W.subIn X.K tb (.ref C) = some false → PySem.W.notFirst X.K C tb = true := fun {tb} e => by
    unfold PySem.W.notFirst
    rw [e, beq_self_eq_true, Bool.or_true]
  rcases hy with rfl | ⟨z, rfl⟩
  · cases (show u = Value.none from ry)
    exact PySem.W.cmp_K (tb := .type "NoneType") hr.units0 hF I.ok.mod.kin Ja (.of_pure rfl) (hn T.subN) hs hf (Bp.callBack (us := [.ref a, .none]) (vs := [.ref a, .non]) F hr hb hx I (.cons rfl (.cons rfl .nil)) q)
  · obtain ⟨t, rfl⟩ := (show ∃ t, u = Value.str z t from ry)
    exact PySem.W.cmp_K (tb := .type "str") hr.units0 hF I.ok.mod.kin Ja (.of_pure rfl) (hn T.subS) hs hf (Bp.callBack (us := [.ref a, .str z t]) (vs := [.ref a, .str z]) F hr hb hx I (.cons rfl (.cons ⟨t, rfl⟩ .nil)) q)
theorem c_ownN {op : CmpOp} (T : OwT X.K C) (D : Bp.MDef X.prog X.w X.K X.mg X.base k C m ps (spJ G f)) (hC : C = G.cm c) (hr : Room k X.A) (tk : Takes X W) (hop : ∀ a b, compareOp op a b = richCompare op a b := by intro _ _; rfl) (hnm : m = (cmpInfo op).2.1 := by rfl) : OpJ G X W (compareOp op) (ownN c f) := by
  obtain ⟨f1, fd1, hm1, b1, F1⟩ := D.ex
  subst hC hnm
  refine ⟨_, cmp_ownNS hop hm1.at_ hm1.fn T F1 hr b1 (fun σ => passAt tk σ), fun Hf H σ x y a b Q s ra rb h => ?_⟩
  unfold ownN at h
  by_cases z : (isC c a && isNS b) = true
  · rw [if_pos z] at h
    rw [Bool.and_eq_true] at z
    exact ⟨rep_isC z.1 ra s, rep_isNS z.2 rb, post_sp s (.cons ra (.cons rb .nil)) h⟩
  · rw [if_neg z] at h
    exact h.elim
/-! -x; truth -/
def unO (c : Nat) (f : List PV → R PV) (a : PV) : R PV := if isC c a = true then (match f [a] with | .ok p => .ok p | _ => .bad) else .bad
theorem post_e0 {Hf H : Hp} {σ : L2.St} {Q : VK} {l : List PV} {vs : List V} {f : List PV → R PV} {W' : WX} (s : Same Hf H) (rl : Reps G Hf l vs) (h : Post G W' Hf H σ (match f l with | .ok p => .ok p | _ => .bad) Q) : spJ G f vs H Q E0 := by
  refine ⟨Hf, l, s, rl, ?_⟩
  cases e : f l with
  | ok p => rw [e] at h; exact h
  | er c fs => rw [e] at h; exact h.elim
  | bad => rw [e] at h; exact h.elim
theorem u_own (D : Bp.MDef X.prog X.w X.K X.mg X.base k C "__neg__" ps (spJ G f)) (hC : C = G.cm c) (hr : Room k X.A) : UnJ G X (unaryOp .USub) (unO c f) := by
  obtain ⟨f1, fd1, hm1, b1, F1⟩ := D.ex
  subst hC
  refine ⟨_, Bp.un_own hm1.at_ hm1.fn F1 hr b1 (E := E0) (fun σ => fun pins H s e s' I h => passL pins σ H s e s' I h), fun W' Hf H σ x a Q s ra h => ?_⟩
  unfold unO at h
  by_cases z : isC c a = true
  · rw [if_pos z] at h
    exact ⟨rep_isC z ra s, post_e0 s (.cons ra .nil) h⟩
  · rw [if_neg z] at h
    exact h.elim
def altU (f g : PV → R PV) (a : PV) : R PV := match f a with | .bad => g a | .ok p => .ok p | .er c fs => .er c fs
theorem UnJ.alt {g : Value → Sem Value} {f f' : PV → R PV} (h : UnJ G X g f) (h' : UnJ G X g f') : UnJ G X g (altU f f') := by
  obtain ⟨r, o, q⟩ := h
  obtain ⟨r', o', q'⟩ := h'
  refine ⟨fun x H Q => r x H Q ∨ r' x H Q, fun pins s σ H x v Q I rx h => h.elim (fun h => o pins s σ H x v Q I rx h) fun h => o' pins s σ H x v Q I rx h, fun W' Hf H σ x a Q s ra h => ?_⟩
  unfold altU at h
  cases e : f a with
  | bad => rw [e] at h; exact .inr (q' W' Hf H σ x a Q s ra h)
  | ok p => rw [e] at h; exact .inl (q W' Hf H σ x a Q s ra (by rw [e]; exact h))
  | er c fs => rw [e] at h; exact .inl (q W' Hf H σ x a Q s ra (by rw [e]; exact h))
/-- truth by an own __bool__, else by the kind -/
theorem tru_own (D : Bp.MDef X.prog X.w X.K X.mg X.base k C "__bool__" ps (spJ G f)) (hr : Room k X.A) : TruR X (fun x H Q => IsI C H x ∧ spJ G f [x] H (fun z H2 => ∃ b, z = .bl b ∧ Q b H2) E0) := by
  intro pins s σ H x v Q I rx h
  obtain ⟨⟨a, dx, fs, rfl, ha⟩, q⟩ := h
  cases (show v = Value.ref a from rx)
  obtain ⟨f1, fd1, hm1, b1, F1⟩ := D.ex
  obtain ⟨_, od, Ja⟩ := Bp.inst_of I ha
  unfold truthy
  refine wpAny_bind (m := callSpecial? (.ref a) (Str.ofString "__bool__")) (PySem.W.special_fn I.kIn Ja hm1.at_ (beq_iff_eq.mp hm1.fn) (wpAny_mono (Bp.run_below (us := [.ref a]) (vs := [.ref a]) F1 hr I.env0 b1 I (.cons rfl .nil) q) (fun r s' z => ?_) fun _ _ y => y))
  obtain ⟨z', H', I', rz, i, ei, qz⟩ := z
  subst ei
  cases (show r = Value.bool i from rz)
  exact wpAny_pure ⟨H', I', qz⟩
def truO (c : Nat) (f : List PV → R PV) (p : PV) : R Bool := if isC c p = true then (match f [p] with | .ok (.bl b) => .ok b | _ => .bad) else truP p
theorem jt_truO {a : Expr} {d : Env → R PV} (D : Bp.MDef X.prog X.w X.K X.mg X.base k C "__bool__" ps (spJ G f)) (hC : C = G.cm c) (hr : Room k X.A) (hK : X.K = G.K) (h : JE G X W a d)
    (he : ∀ whole, isTrue a X.env whole = (do let v ← whole; standAt a.pos; holding [v] (truthy v)) := by intro _; rfl) : JT G X W a (fun env => (d env).bind (truO c f)) := by
  obtain ⟨t, pt, jt⟩ := h
  subst hC
  refine ⟨fun σ H Q => t σ H fun x H1 => (IsI (G.cm c) H1 x ∧ spJ G f [x] H1 (fun z H2 => ∃ b, z = .bl b ∧ Q b H2) E0) ∨ ∃ k, TruV X.K x H1 k ∧ Q k H1,
    ⟨fun pins s σ H Q I hw => isTrue_plain (thn (pt.run pins s σ H _ I hw) fun v s1 ⟨x, H1, I1, r1, q1⟩ => q1.elim (fun q => tru_own D hr pins s1 σ H1 x v Q I1 r1 q) fun q => tru_ok pins s1 σ H1 x v Q I1 r1 q) (he _)⟩, fun H0 Hf H env σ Q s E h => jt H0 Hf H env σ _ s E (PostG.bind h fun p v Hf1 H1 _ g1 r1 h1 => ?_)⟩
  unfold truO at h1
  by_cases z : isC c p = true
  · rw [if_pos z] at h1
    refine .inl ⟨rep_isC z r1 g1.sub, Hf1, [p], g1.sub, .cons r1 .nil, ?_⟩
    cases e : f [p] with
    | ok q =>
      rw [e] at h1
      intro v Hf' H' g r
      cases r with
      | bl b => exact ⟨b, rfl, h1 b Hf' H' g rfl⟩
      | _ => exact h1.elim
    | er c fs => rw [e] at h1; exact h1.elim
    | bad => rw [e] at h1; exact h1.elim
  · rw [if_neg z] at h1
    exact .inr (by rw [hK]; exact truP_V r1 g1.sub h1)
end
end J

namespace J
open PySem.Spec PySem PyProof.Rows
open L2 hiding St Takes XE CX takes_of PMk MkP ps_raise mk_of ps_try_as ps_try_many pmk_own passAt passes_call takes0 passL
open L2N hiding St
open Bp (takes0 passL OpS R2S IsI)

/-! ### tuples of Fracs compared -/
def boolAt (f : List PV → R PV) (l m : List PV) (i : Nat) : Option Bool := match l[i]?, m[i]? with
  | some a, some b => if (isC 0 a && isC 0 b) = true then (match f [a, b] with | .ok (.bl r) => some r | _ => none) else none
  | _, _ => some false
noncomputable def tupO (fe fo : List PV → R PV) (z : Nat → Nat → Bool) (a b : PV) : R PV := match a, b with
  | .tup l, .tup m => (open Classical in if ∀ i, (boolAt fe l m i).isSome = true ∧ (boolAt fo l m i).isSome = true then
      .ok (.bl (Ob.lexAt (fun i => (boolAt fe l m i).getD false) (fun i => (boolAt fo l m i).getD false) (z l.length m.length) 0 (min l.length m.length))) else .bad)
  | _, _ => .bad
noncomputable def tupE' (fe : List PV → R PV) (a b : PV) : R PV := match a, b with
  | .tup l, .tup m => (open Classical in if ∀ i, (boolAt fe l m i).isSome = true then .ok (.bl (Ob.lexAt (fun i => (boolAt fe l m i).getD false) (fun _ => false) (l.length == m.length) 0 (min l.length m.length))) else .bad)
  | _, _ => .bad
section
variable {G : Ga} {X : Cx} {W : WX} {k n : Nat} {ps : List Str} {f fo : List PV → R PV}
def DJ (G : Gb) (f : List PV → R PV) : Bp.DB := fun x y r H => ∃ Hf a b, Same Hf H ∧ isC 0 a = true ∧ isC 0 b = true ∧ Rep G Hf a x ∧ Rep G Hf b y ∧ f [a, b] = .ok (.bl r)
theorem dj_mon {G : Gb} : Bp.MonB (DJ G f) := fun x y r H H' s ⟨Hf, a, b, s1, ca, cb, ra, rb, e⟩ => ⟨Hf, a, b, s1.trans s, ca, cb, ra, rb, e⟩
theorem dj_own {G : Gb} : ∀ x y r H, DJ G f x y r H → Bp.DOwn (G.cm 0) (spJ G f) x y r H := fun x y r H ⟨Hf, a, b, s, ca, cb, ra, rb, e⟩ =>
  ⟨rep_isC ca ra s, rep_isC cb rb s, fun Q q => ⟨Hf, [a, b], s, .cons ra (.cons rb .nil), by
    rw [e]
    intro v Hf' H' g r
    cases r
    exact q H' g.hp⟩⟩
theorem rc_dj {op : CmpOp} {m : Str} (D : Bp.MDef X.prog X.w X.K X.mg X.base n (G.cm 0) m ps (spJ G f)) (hm : m = (cmpInfo op).2.1 := by rfl) : Bp.RcB X op n (DJ G f) := by
  obtain ⟨f1, fd1, hm1, b1, F1⟩ := D.ex
  subst hm
  exact (Bp.rcB_own hm1.at_ hm1.fn F1 b1).imp dj_own
theorem fr_of {G : Gb} {Hf : Hp} {a : PV} {v : V} (h : isC 0 a = true) (r : Rep G Hf a v) (no : ∀ fs, a ≠ .obj 0 fs) : ∃ p ad dx, a = .fr p ∧ v = .ref ad ∧ Hf ad = some (.ins G.C dx (frF p)) := by
  cases r with
  | fr ho => exact ⟨_, _, _, rfl, rfl, ho⟩
  | obj ho hf =>
    rename_i c fs a dx vfs
    have : c = 0 := by simpa [isC] using h
    subst this
    exact absurd rfl (no fs)
  | _ => cases h
theorem frF_inj {p q : Rat} (h : frF p = frF q) : p = q := by
  unfold frF at h
  simp only [List.cons.injEq, Prod.mk.injEq, V.int.injEq, true_and, and_true] at h
  exact Rat.ext h.1 (by omega)
/-- the == of Fracs says True of one and the same -/
def Refl0 (f : List PV → R PV) : Prop := (∀ p r, f [.fr p, .fr p] = .ok (.bl r) → r = true) ∧ ∀ fs b r, f [.obj 0 fs, b] ≠ .ok (.bl r) ∧ f [b, .obj 0 fs] ≠ .ok (.bl r)
theorem eq_dj (D : Bp.MDef X.prog X.w X.K X.mg X.base n (G.cm 0) "__eq__" ps (spJ G f)) (hf : Refl0 f) : Bp.EqB X n (DJ G f) := by
  refine (rc_dj (op := .Eq) D).eqB fun x y r H ⟨Hf, a, b, s, ca, cb, ra, rb, e⟩ => ?_
  obtain ⟨p, ad, dx, rfl, rfl, ha⟩ := fr_of ca ra fun fs z => by subst z; exact (hf.2 fs b r).1 e
  obtain ⟨q, bd, dy, rfl, rfl, hb⟩ := fr_of cb rb fun fs z => by subst z; exact (hf.2 fs (.fr p) r).2 e
  refine ⟨ad, bd, rfl, rfl, fun z => ?_⟩
  subst z
  rw [ha] at hb
  injection hb with hb
  injection hb with _ _ hb
  cases frF_inj hb
  exact hf.1 p r e
theorem items_dj {Hf H : Hp} {fe fo : List PV → R PV} {l m : List PV} {xs ys : List V} {a b : Addr} (s : Same Hf H) (ha : SqT G.K Hf a xs) (hb : SqT G.K Hf b ys) (rl : Reps G Hf l xs) (rm : Reps G Hf m ys) {DO : Bp.DB}
    (h : ∀ i, (boolAt fe l m i).isSome = true) (ho : ∀ i p q u v, l[i]? = some p → m[i]? = some q → Rep G Hf p u → Rep G Hf q v → DO u v ((boolAt fo l m i).getD false) H) : Bp.Items2 G.K (DJ G fe) DO (fun i => (boolAt fe l m i).getD false) (fun i => (boolAt fo l m i).getD false) (.ref a) (.ref b) l.length m.length H := by
  refine ⟨a, b, xs, ys, rfl, rfl, Bp.seqT s ha, Bp.seqT s hb, rl.length.symm, rm.length.symm, fun i u v hu hv => ?_, fun i u v hu hv _ => ?_⟩
  · obtain ⟨p, ep, rp⟩ := rl.get' hu
    obtain ⟨q, eq, rq⟩ := rm.get' hv
    have hi := h i
    unfold boolAt at hi ⊢
    simp only [ep, eq] at hi ⊢
    by_cases z : (isC 0 p && isC 0 q) = true
    · simp only [if_pos z] at hi ⊢
      rw [Bool.and_eq_true] at z
      refine ⟨Hf, p, q, s, z.1, z.2, rp, rq, ?_⟩
      cases e : fe [p, q] with
      | ok w =>
        rw [e] at hi
        cases w with
        | bl r => rfl
        | _ => cases hi
      | er c fs => rw [e] at hi; cases hi
      | bad => rw [e] at hi; cases hi
    · simp only [if_neg z] at hi
      cases hi
  · obtain ⟨p, ep, rp⟩ := rl.get' hu
    obtain ⟨q, eq, rq⟩ := rm.get' hv
    exact ho i p q u v ep eq rp rq
theorem do_dj {Hf H : Hp} {fo : List PV → R PV} {l m : List PV} (s : Same Hf H) (h : ∀ i, (boolAt fo l m i).isSome = true) (i : Nat) (p q : PV) (u v : V) (ep : l[i]? = some p) (eq : m[i]? = some q) (rp : Rep G Hf p u) (rq : Rep G Hf q v) : DJ G fo u v ((boolAt fo l m i).getD false) H := by
  have hi := h i
  unfold boolAt at hi ⊢
  simp only [ep, eq] at hi ⊢
  by_cases z : (isC 0 p && isC 0 q) = true
  · simp only [if_pos z] at hi ⊢
    rw [Bool.and_eq_true] at z
    refine ⟨Hf, p, q, s, z.1, z.2, rp, rq, ?_⟩
    cases e : fo [p, q] with
    | ok w =>
      rw [e] at hi
      cases w with
      | bl r => rfl
      | _ => cases hi
    | er c fs => rw [e] at hi; cases hi
    | bad => rw [e] at hi; cases hi
  · simp only [if_neg z] at hi
    cases hi
theorem opj_B {op : CmpOp} {D : Bp.DB} {f : PV → PV → R PV} (h : OpS X (compareOp op) (Bp.rB D)) (k : ∀ Hf H x y a b r, Same Hf H → Rep G Hf a x → Rep G Hf b y → f a b = .ok r → ∃ z, r = .bl z ∧ D x y z H) (nf : ∀ a b c fs, f a b ≠ .er c fs) : OpJ G X W (compareOp op) f :=
  ⟨_, h, fun Hf H σ x y a b Q s ra rb q => by
    cases e : f a b with
    | ok r =>
      rw [e] at q
      obtain ⟨z, rfl, d⟩ := k Hf H x y a b r s ra rb e
      exact ⟨z, d, fun H2 s2 => q _ Hf H2 (Gr.up s s2) (.bl _)⟩
    | er c fs => exact absurd e (nf a b c fs)
    | bad => rw [e] at q; exact q.elim⟩
theorem c_tupO {op : CmpOp} {z : Nat → Nat → Bool} {fe : List PV → R PV} (hK : X.K = G.K) (h : Bp.RcB X op (n + 1) (Bp.DTupO X.K (DJ G fe) (DJ G fo) z)) (hr : Room (n + 1) X.A) (hop : ∀ a b, compareOp op a b = richCompare op a b := by intro _ _; rfl) : OpJ G X W (compareOp op) (tupO fe fo z) :=
  opj_B (Bp.op_B hop h hr) (fun Hf H x y a b r s ra rb e => by
    unfold tupO at e
    split at e
    · rename_i l m
      split at e
      · rename_i hh
        cases e
        cases ra with
        | tup t1 r1 =>
          cases rb with
          | tup t2 r2 => exact ⟨_, rfl, _, _, _, _, hK ▸ items_dj s t1 t2 r1 r2 (fun i => (hh i).1) (do_dj s fun i => (hh i).2), rfl⟩
      · cases e
    · cases e) fun a b c fs e => by
    unfold tupO at e
    split at e
    · split at e <;> cases e
    · cases e
theorem c_tupE {fe : List PV → R PV} (hK : X.K = G.K) (D : Bp.MDef X.prog X.w X.K X.mg X.base n (G.cm 0) "__eq__" ps (spJ G fe)) (hf : Refl0 fe) (hr : Room (n + 1) X.A) : OpJ G X W (compareOp .Eq) (tupE' fe) :=
  opj_B (Bp.op_B (fun _ _ => rfl) (Bp.rcB_tup_eq (eq_dj D hf) dj_mon) hr) (fun Hf H x y a b r s ra rb e => by
    unfold tupE' at e
    split at e
    · rename_i l m
      split at e
      · rename_i hh
        cases e
        cases ra with
        | tup t1 r1 =>
          cases rb with
          | tup t2 r2 =>
            refine ⟨_, rfl, _, _, _, hK ▸ ?_, rfl⟩
            have q := items_dj (G := G) (fe := fe) (fo := fun _ => .bad) (DO := fun _ _ _ _ => True) s t1 t2 r1 r2 hh (fun _ _ _ _ _ _ _ _ _ => trivial)
            obtain ⟨a', b', xs, ys, e1, e2, h1, h2, h3, h4, h5, _⟩ := q.ex
            exact ⟨a', b', xs, ys, e1, e2, h1, h2, h3, h4, h5, fun _ _ _ _ _ _ => trivial⟩
      · cases e
    · cases e) fun a b c fs e => by
    unfold tupE' at e
    split at e
    · split at e <;> cases e
    · cases e
theorem c_tupLt {k2 : Nat} {ps2 : List Str} {fe : List PV → R PV} (hK : X.K = G.K) (D : Bp.MDef X.prog X.w X.K X.mg X.base k (G.cm 0) "__eq__" ps (spJ G fe)) (hf : Refl0 fe) (D2 : Bp.MDef X.prog X.w X.K X.mg X.base k2 (G.cm 0) "__lt__" ps2 (spJ G fo)) (h1 : k ≤ n) (h2 : k2 ≤ n) (hr : Room (n + 1) X.A) : OpJ G X W (compareOp .Lt) (tupO fe fo fun a b => decide (a < b)) :=
  c_tupO hK (Bp.rcB_tup_lt ((eq_dj D hf).mono h1) dj_mon ((rc_dj (op := .Lt) D2).mono h2) dj_mon) hr
theorem c_tupLe {k2 : Nat} {ps2 : List Str} {fe : List PV → R PV} (hK : X.K = G.K) (D : Bp.MDef X.prog X.w X.K X.mg X.base k (G.cm 0) "__eq__" ps (spJ G fe)) (hf : Refl0 fe) (D2 : Bp.MDef X.prog X.w X.K X.mg X.base k2 (G.cm 0) "__le__" ps2 (spJ G fo)) (h1 : k ≤ n) (h2 : k2 ≤ n) (hr : Room (n + 1) X.A) : OpJ G X W (compareOp .LtE) (tupO fe fo fun a b => decide (a ≤ b)) :=
  c_tupO hK (Bp.rcB_tup_le ((eq_dj D hf).mono h1) dj_mon ((rc_dj (op := .LtE) D2).mono h2) dj_mon) hr
theorem c_tupGt {k2 : Nat} {ps2 : List Str} {fe : List PV → R PV} (hK : X.K = G.K) (D : Bp.MDef X.prog X.w X.K X.mg X.base k (G.cm 0) "__eq__" ps (spJ G fe)) (hf : Refl0 fe) (D2 : Bp.MDef X.prog X.w X.K X.mg X.base k2 (G.cm 0) "__gt__" ps2 (spJ G fo)) (h1 : k ≤ n) (h2 : k2 ≤ n) (hr : Room (n + 1) X.A) : OpJ G X W (compareOp .Gt) (tupO fe fo fun a b => decide (a > b)) :=
  c_tupO hK (Bp.rcB_tup_gt ((eq_dj D hf).mono h1) dj_mon ((rc_dj (op := .Gt) D2).mono h2) dj_mon) hr
theorem c_tupGe {k2 : Nat} {ps2 : List Str} {fe : List PV → R PV} (hK : X.K = G.K) (D : Bp.MDef X.prog X.w X.K X.mg X.base k (G.cm 0) "__eq__" ps (spJ G fe)) (hf : Refl0 fe) (D2 : Bp.MDef X.prog X.w X.K X.mg X.base k2 (G.cm 0) "__ge__" ps2 (spJ G fo)) (h1 : k ≤ n) (h2 : k2 ≤ n) (hr : Room (n + 1) X.A) : OpJ G X W (compareOp .GtE) (tupO fe fo fun a b => decide (a ≥ b)) :=
  c_tupO hK (Bp.rcB_tup_ge ((eq_dj D hf).mono h1) dj_mon ((rc_dj (op := .GtE) D2).mono h2) dj_mon) hr
/-! ### name op= e -/
def augF (i : Nat) (f : PV → PV → R PV) (d : Env → R PV) (env : Env) : F := liftF (rdV i env) env fun a => liftF (d env) env fun b => liftF (f a b) env fun p => .nx (env.set i (.val p))
theorem js_aug {op : Operator} {x : Str} {e : Expr} {d : Env → R PV} {f : PV → PV → R PV} {pos pos' : Pos} (i : Nat) (nd : X.N.Nodup) (ho : OpJ G X W (inplaceOp op) f) (h : JE G X W e d) (hi : X.N[i]? = some x := by rfl) (hx : X.env.scope.names.lookup x = some .local := by rfl) :
    JS G X W (.AugAssign (.Name x pos') op e pos) (augF i f d) := by
  obtain ⟨r, o, kk⟩ := ho
  obtain ⟨t, pt, jt⟩ := h
  refine ⟨_, Bp.ps_augOwn nd hi hx pt o, fun Hf0 H0 Hf H env σ D S h => ?_⟩
  unfold augF at h
  cases e1 : env.at i with
  | val a =>
    have er : rdV i env = .ok a := by unfold rdV; rw [e1]
    rw [er] at h
    obtain ⟨v, ev, ra⟩ := S.env.val e1
    refine ⟨v, ev, jt H0 Hf H env σ _ S.gr.sub S.env (post_lift S (k := fun b => liftF (f a b) env fun p => .nx (env.set i (.val p))) h fun b u Hf' H' g S' rb kq => ?_)⟩
    exact kk Hf' H' σ v u a b _ g.sub (ra.mono g.fz) rb (post_lift S' kq fun p w Hf2 H2 g2 S2 rp kz => kz _ Hf2 H2 ⟨S2.gr, S2.env.setV rp⟩ (fun _ _ h => h))
  | slf c fs =>
    have er : rdV i env = .ok (.obj c fs) := by unfold rdV; rw [e1]
    rw [er] at h
    have q := S.env.get i
    rw [e1] at q
    obtain ⟨ad, ev, _, ra⟩ := q
    refine ⟨_, ev, jt H0 Hf H env σ _ S.gr.sub S.env (post_lift S (k := fun b => liftF (f (.obj c fs) b) env fun p => .nx (env.set i (.val p))) h fun b u Hf' H' g S' rb kq => ?_)⟩
    exact kk Hf' H' σ _ u (.obj c fs) b _ g.sub (ra.mono g.fz) rb (post_lift S' kq fun p w Hf2 H2 g2 S2 rp kz => kz _ Hf2 H2 ⟨S2.gr, S2.env.setV rp⟩ (fun _ _ h => h))
  | _ =>
    have er : rdV i env = .bad := by unfold rdV; rw [e1]
    rw [er] at h
    exact h.elim
theorem i_add : OpJ G X W (inplaceOp .Add) addI := ⟨fun _ => ipI fun i j => i + j, fun pins s σ H x y v u Q I rx ry q => ip_add pins s σ H x y v u Q I rx ry q, fun Hf H σ x y a b Q s ra rb h => by
  unfold addI iOp0 at h
  split at h
  · rename_i i j
    exact ⟨i, j, ra.of_int, rb.of_int, h _ Hf H (Gr.refl s) (.int _)⟩
  · exact h.elim⟩
/-- the class has no operator in place -/
structure NoIn (K : PySem.W.Frag) (C : Addr) (nm : String) : Prop where
  cls : ∃ cd, PySem.W.clsIn K C = some cd ∧ cd.mro = [.ref C, .type "object"]
  n1 : PySem.W.findIn K (.ref C) (dunderI nm) = some none
  n2 : PySem.W.findIn K (.type "object") (dunderI nm) = some none
theorem i_ownL {op : Operator} {c : Nat} {C : Addr} {m : Str} (T : OwT X.K C) (O : OpF X.K C op.info.2) (N : NoIn X.K C op.info.2) (D : Bp.MDef X.prog X.w X.K X.mg X.base k C m ps (spJ G f)) (hC : C = G.cm c) (hr : Room k X.A) (tk : Takes X W) (hnm : m = PySem.dunder op.info.2 := by rfl) : OpJ G X W (inplaceOp op) (ownL c f) := by
  obtain ⟨f1, fd1, hm1, b1, F1⟩ := D.ex
  obtain ⟨cd, hcd, hmro⟩ := N.cls
  subst hC hnm
  refine ⟨_, Bp.inp_own hcd hmro N.n1 N.n2 ⟨T.self, hm1.at_, hm1.fn, O.hr, O.h1, O.h2, T.subI, T.subC⟩ F1 hr b1 (fun σ => passAt tk σ), fun Hf H σ x y a b Q s ra rb h => ?_⟩
  unfold ownL at h
  by_cases z : (isC c a && (isC c b || isInt b)) = true
  · rw [if_pos z] at h
    rw [Bool.and_eq_true, Bool.or_eq_true] at z
    exact ⟨rep_isC z.1 ra s, z.2.elim (fun q => .inl (rep_isC q rb s)) fun q => .inr (rep_isInt q rb), post_sp s (.cons ra (.cons rb .nil)) h⟩
  · rw [if_neg z] at h
    exact h.elim
end
end J

namespace J
open PySem.Spec PySem PyProof.Rows
open L2 hiding St Takes XE CX takes_of PMk MkP ps_raise mk_of ps_try_as ps_try_many pmk_own passAt passes_call takes0 passL
open L2N hiding St
open Bp (takes0 passL OpS R2S IsI)

theorem blk_ok {N : List Str} {sc scope : Scope} {own : List (Str × Nat)} (h : blkC N sc scope own = true) : blkC N sc scope own = true := h
abbrev gA (K : PySem.W.Frag) (cm : Nat → Addr) : Ga := ⟨⟨K, cm⟩, none, none⟩
section
variable {G : Ga} {X : Cx} {W : WX} {x : Str} {e e2 : Expr} {es : List Expr} {p0 pos : Pos} {dl : Env → R (List PV)}
theorem je_gint {n : Int} {pos : Pos} (h : ∃ t, X.mg x = some (.int n t)) (hg : Gl X x := by rfl) (hd : (x == ("__debug__" : Str)) = false := by decide) : JE G X W (.Name x pos) (fun _ => .ok (.int n)) := by
  obtain ⟨t, h⟩ := h
  exact je_glob (v := .int n) h ⟨t, rfl⟩ (fun _ => .int n) hg hd
/-! ### list + list -/
def catL (a b : PV) : R PV := match a, b with
  | .lst l, .lst m => if l.length + m.length ≤ 1000 then .ok (.lst (l ++ m)) else .bad
  | _, _ => .bad
def rCatS (K : PySem.W.Frag) : R2 := fun x y H Q => ∃ a b xs ys, x = .ref a ∧ y = .ref b ∧ SqL K H a xs ∧ SqL K H b ys ∧ xs.length + ys.length ≤ sizeLine ∧ ∀ p, H p = none → Q (.ref p) (upd H p (.lst (xs ++ ys)))
theorem op_catS : OpR X (binaryOp .Add) (rCatS X.K) := by
  intro pins s σ H x y v u Q I rx ry h
  obtain ⟨a, b, xs, ys, rfl, rfl, ha, hb, hz, q⟩ := h
  cases (show v = Value.ref a from rx)
  cases (show u = Value.ref b from ry)
  obtain ⟨i1, r1, ⟨⟨c1, d1, e1, s1⟩, n1, g1, k1, _, f1⟩, _⟩ := I.list ha
  obtain ⟨i2, r2, ⟨⟨c2, d2, e2, s2⟩, n2, g2, k2, _, f2⟩, _⟩ := I.list hb
  dsimp only at k1 f1 k2 f2
  subst k1 f1 k2 f2
  have l1 := r1.length
  have l2 := r2.length
  have hs : i1.toArray.size + i2.toArray.size ≤ sizeLine := by
    rw [List.size_toArray, List.size_toArray, ← l1, ← l2]
    exact hz
  refine concat_meets ⟨_, g1, rfl⟩ ⟨_, g2, rfl⟩ noFill_list_add seq_list_add PySem.F.slot_list_add PySem.F.entry_list_add (PySem.F.args_list_add_2 _ _) (list_addW a b i1.toArray i2.toArray n1 n2 d1 d2 s1 s2 hs) ⟨g1, g2, ?_⟩
  have ee : i1.toArray ++ i2.toArray = (i1 ++ i2).toArray := by simp
  rw [ee]
  exact ⟨.ref _, _, I.lnew (t' := s.toks) (r1.append r2) (by rw [List.length_append]; exact hz), rfl, q _ I.fresh⟩
theorem o_catL (hK : X.K = G.K) : OpJ G X W (binaryOp .Add) catL := ⟨_, OpS.of op_catS, fun Hf H σ x y a b Q s ra rb h => by
  unfold catL at h
  split at h
  · rename_i l m
    by_cases k : l.length + m.length ≤ 1000
    · rw [if_pos k] at h
      cases ra with
      | lst t1 r1 =>
        cases rb with
        | lst t2 r2 =>
          rename_i a xs b ys
          refine ⟨a, b, xs, ys, rfl, rfl, by rw [hK]; exact s.seq t1, by rw [hK]; exact s.seq t2, ?_, fun p hp => ?_⟩
          · rw [← r1.length, ← r2.length]
            exact line1000 k
          · exact h _ _ _ (Gr.one (o := .lst (xs ++ ys)) s hp) (.lst (SqL.of upd_same) ((r1.mono (Same.new (none_back s hp))).append (r2.mono (Same.new (none_back s hp)))))
    · rw [if_neg k] at h
      exact h.elim
  · exact h.elim⟩
end
/-! ### the class Frac: its __init__ -/
def spFI (C Z : Addr) : Sp := fun vs H Q E => ∃ (x dx : Addr) (n d : Int), vs = [.ref x, .int n, .int d] ∧ H x = some (.ins C dx []) ∧ d.natAbs < 2 ^ 8000 ∧ (d = 0 → E (.ref Z) none H) ∧
  (d ≠ 0 → ∀ H', H' x = some (.ins C dx (frF (Rat.divInt n d))) → (∀ b o, b ≠ x → H b = some o → H' b = some o) → Q .non H')
structure FrI (K : PySem.W.Frag) (mg : Str → Option Value) (C Z : Addr) : Prop where
  i2 : ∀ {P : Program} {w : World} {base : Heap}, Bp.CDef P w K mg base 1 "Frac" C (spFI C Z) []
  i1 : ∀ {P : Program} {w : World} {base : Heap}, Bp.CDef P w K mg base 1 "Frac" C (spFI C Z) [.int 1]
noncomputable def frN (z : Nat) (l : List PV) : R PV := match l with
  | [.int n, .int d] => (open Classical in if d = 0 then .er z [] else if Bd 8000 d then .ok (.fr (Rat.divInt n d)) else .bad)
  | _ => .bad
noncomputable def mkF2 (z : Nat) (dl : Env → R (List PV)) (env : Env) : R PV := (dl env).bind (frN z)
noncomputable def mkF1 (z : Nat) (dl : Env → R (List PV)) (env : Env) : R PV := (dl env).bind fun l => frN z (l ++ [.int 1])
section
variable {G : Ga} {X : Cx} {W : WX} {x : Str} {e e2 : Expr} {es : List Expr} {p0 pos : Pos} {dl : Env → R (List PV)} {z : Nat}
theorem fr_made {Hf H : Hp} {σ : L2.St} {Q : VK} {l : List PV} {vs : List V} (s : Same Hf H) (r : Reps G Hf l vs) (h : Post G W Hf H σ (frN z l) Q) (a dx : Addr) (na : H a = none) (nd : H dx = none) (ne : dx ≠ a) :
    spFI (G.cm 0) (G.cm z) (.ref a :: vs) (upd (upd H dx (.own a)) a (.ins (G.cm 0) dx [])) (fun v H2 => v = .non ∧ Q (.ref a) H2) (WE W σ) := by
  have s1 : Same H (upd (upd H dx (.own a)) a (.ins (G.cm 0) dx [])) := (Same.new nd).trans (Same.new (by rw [upd_ne (Ne.symm ne)]; exact na))
  unfold frN at h
  split at h
  · rename_i n d
    cases r with
    | cons r1 r2 =>
      cases r2 with
      | cons r2 r3 =>
        cases r3
        cases r1
        cases r2
        by_cases d0 : d = 0
        · rw [if_pos d0] at h
          subst d0
          exact ⟨a, dx, n, 0, rfl, upd_same, Nat.pow_pos (by decide), fun _ => h Hf _ none (Gr.up s s1) rfl, fun q => absurd rfl q⟩
        · rw [if_neg d0] at h
          by_cases b : Bd 8000 d
          · rw [if_pos b] at h
            refine ⟨a, dx, n, d, rfl, upd_same, b.lt, fun q => absurd q d0, fun _ H' hx kp => ⟨rfl, ?_⟩⟩
            have nf : Hf a = none := none_back s na
            have s2 : Same H H' := fun b o hb => kp b o (ne_of_none hb na) (s1 _ _ hb)
            refine h _ (upd Hf a (.ins (G.cm 0) dx (frF (Rat.divInt n d)))) H' ⟨Same.new nf, s2, fun b o hb => ?_, fun b o hb => ?_⟩ (.fr upd_same)
            · by_cases q : b = a
              · subst q; rw [upd_same] at hb; rw [← hb]; exact hx
              · rw [upd_ne q] at hb; exact s2 _ _ (s _ _ hb)
            · by_cases q : b = a
              · subst q; exact .inr na
              · rw [upd_ne q] at hb; exact .inl hb
          · rw [if_neg b] at h
            exact h.elim
  · exact h.elim
theorem je_mkF2 {C Z : Addr} (D : FrI X.K X.mg C Z) (hr : Room 2 X.A) (tk : Takes X W) (ha : JA G X W (e :: es) dl) (hC : C = G.cm 0 := by rfl) (hZ : Z = G.cm z := by rfl) (hg : Gl X "Frac" := by rfl)
    (he : starEach (e :: es) X.env = (false, eval e X.env) :: starEach es X.env := by rfl) (hpl : (backTo pos (starEach es X.env)).any (·.1) = false := by rfl) : JE G X W (.Call (.Name "Frac" p0) (e :: es) [] pos) (mkF2 z dl) := by
  obtain ⟨t, pt, jt⟩ := ha
  subst hC hZ
  exact ⟨_, Bp.pe_makeD D.i2 hr tk pt hg (by decide) he hpl, fun H0 Hf H env σ Q s E h => jt H0 Hf H env σ _ s E (PostG.bind h fun l vs Hf1 H1 _ g1 r1 h1 a dx na nd ne => by rw [List.append_nil]; exact fr_made g1.sub r1 h1 a dx na nd ne)⟩
theorem je_mkF1 {C Z : Addr} (D : FrI X.K X.mg C Z) (hr : Room 2 X.A) (tk : Takes X W) (ha : JA G X W (e :: es) dl) (hC : C = G.cm 0 := by rfl) (hZ : Z = G.cm z := by rfl) (hg : Gl X "Frac" := by rfl)
    (he : starEach (e :: es) X.env = (false, eval e X.env) :: starEach es X.env := by rfl) (hpl : (backTo pos (starEach es X.env)).any (·.1) = false := by rfl) : JE G X W (.Call (.Name "Frac" p0) (e :: es) [] pos) (mkF1 z dl) := by
  obtain ⟨t, pt, jt⟩ := ha
  subst hC hZ
  exact ⟨_, Bp.pe_makeD D.i1 hr tk pt hg (by decide) he hpl, fun H0 Hf H env σ Q s E h => jt H0 Hf H env σ _ s E (PostG.bind h fun l vs Hf1 H1 _ g1 r1 h1 a dx na nd ne => fr_made g1.sub (r1.append (.cons (.int 1) .nil)) h1 a dx na nd ne)⟩
end
/-! ### the __init__ of an error with one field, with two -/
section
variable {P : Program} {w : World} {K : PySem.W.Frag} {mg : Str → Option Value} {base : Heap} {C : Addr} {n1 n2 q1 q2 qual : Str} {st : Stmt} {f : Addr} {fd : FuncData} {p1 p2 p3 p4 p5 p6 p7 p8 : Pos}
theorem e1_ok (S : FnScope ["self", q1] ["self", q1] (defScope st)) (D : L2.Fun K "__init__" qual st f fd) (T : OexC K C) (no1 : PySem.W.findIn K (.ref C) n1 = some none)
    (hb : defBody st = [.Assign [.Attribute (.Name "self" p1) n1 p2] (.Name q1 p3) p4])
    (hl : (defScope st).names.lookup ("self" : Str) = some .local := by rfl) (hl1 : (defScope st).names.lookup q1 = some .local := by rfl) (hd1 : (q1 == ("__debug__" : Str)) = false := by decide) (hc1 : (q1 == ("__classdict__" : Str)) = false := by decide) :
    FnOk P w K mg base (L2N.CX P w) 1 f fd ["self", q1] (spX C [n1]) := by
  refine Bp.okN D S (fun vs H Q E h => ?_) (fun cdv A outer s H vs Q E hr h => ?_)
  · obtain ⟨a, xs, rfl, hx, _⟩ := h
    simpa using hx
  · obtain ⟨a, xs, rfl, hx, ha, kQ⟩ := h
    match xs, hx with
    | [x], _ =>
      rw [hb]
      refine ⟨_, pss_one (ps_ost (pe_var (i := 0) rfl (.inl hl)) (pe_var (i := 1) rfl (.inl hl1) hd1 hc1)), ?_⟩
      refine ⟨x, rfl, .ref a, rfl, a, C, rfl, T, no1, .inl ⟨ha, fun dx hdx ne => ?_⟩⟩
      refine kQ dx _ upd_same ?_ hdx fun b o hb e => ?_
      · rw [upd_ne ne]
        exact upd_same
      · rw [upd_ne hb, upd_ne (ne_of_none e hdx)]
        exact e
theorem e2_ok (S : FnScope ["self", q1, q2] ["self", q1, q2] (defScope st)) (D : L2.Fun K "__init__" qual st f fd) (T : OexC K C) (no1 : PySem.W.findIn K (.ref C) n1 = some none) (no2 : PySem.W.findIn K (.ref C) n2 = some none)
    (hb : defBody st = [.Assign [.Attribute (.Name "self" p1) n1 p2] (.Name q1 p3) p4, .Assign [.Attribute (.Name "self" p5) n2 p6] (.Name q2 p7) p8])
    (hl : (defScope st).names.lookup ("self" : Str) = some .local := by rfl) (hl1 : (defScope st).names.lookup q1 = some .local := by rfl) (hl2 : (defScope st).names.lookup q2 = some .local := by rfl)
    (hd1 : (q1 == ("__debug__" : Str)) = false := by decide) (hc1 : (q1 == ("__classdict__" : Str)) = false := by decide) (hd2 : (q2 == ("__debug__" : Str)) = false := by decide) (hc2 : (q2 == ("__classdict__" : Str)) = false := by decide) :
    FnOk P w K mg base (L2N.CX P w) 1 f fd ["self", q1, q2] (spX C [n1, n2]) := by
  refine Bp.okN D S (fun vs H Q E h => ?_) (fun cdv A outer s H vs Q E hr h => ?_)
  · obtain ⟨a, xs, rfl, hx, _⟩ := h
    simpa using hx
  · obtain ⟨a, xs, rfl, hx, ha, kQ⟩ := h
    match xs, hx with
    | [x, y], _ =>
      rw [hb]
      refine ⟨_, pss_cons (ps_ost (pe_var (i := 0) rfl (.inl hl)) (pe_var (i := 1) rfl (.inl hl1) hd1 hc1)) (pss_one (ps_ost (pe_var (i := 0) rfl (.inl hl)) (pe_var (i := 2) rfl (.inl hl2) hd2 hc2))), ?_⟩
      refine ⟨x, rfl, .ref a, rfl, a, C, rfl, T, no1, .inl ⟨ha, fun dx hdx ne => ?_⟩⟩
      refine ⟨y, rfl, .ref a, rfl, a, C, rfl, T, no2, .inr ⟨dx, [(n1, x)], upd_same, ?_, by show 1 ≤ 900; decide, ?_⟩⟩
      · rw [upd_ne ne]
        exact upd_same
      · refine kQ dx _ ?_ upd_same hdx fun b o hb e => ?_
        · rw [upd_ne (Ne.symm ne)]
          exact upd_same
        · rw [upd_ne (ne_of_none e hdx), upd_ne hb, upd_ne (ne_of_none e hdx)]
          exact e
end
end J

namespace J
open PySem.Spec PySem PyProof.Rows
open L2 hiding St Takes XE CX takes_of PMk MkP ps_raise mk_of ps_try_as ps_try_many pmk_own passAt passes_call takes0 passL
open L2N hiding St

/-! ### an error out of a comprehension's block -/
section
variable {M : Model} {A : Around} {E : Value → Shared → Prop} {s : Shared} {Z : Obj → Prop} {base : Heap} {env : PySem.Env} {outer : List PySem.Env} {L e : Addr} {fl : Value}
/-- a further frame notes what flies, whatever its flight's mark is (if it is not this frame's own) -/
theorem look_far {Q : Unit → Shared → Prop} (hZ : PXN.Steady1 Z) (hfr : A.frames = some (env :: outer)) (hf : env.frame = some L) (hkb : base.StaysIn s.heap) (hen : base.get? e = none) (hl : s.heap.FunFrames base (env :: outer)) (ht : HandSPX.TracedZ s.heap base e Z fl) (hne : (fl == rawInt L) = false)
    (hQ : ∀ h', HandSPX.HeldZ base (env :: outer) e Z L h' → s.heap.UpToSlots h' → Q () { s with heap := h' }) : wpAny M A (noteFrame (.ref e) env) Q E s := by
  obtain ⟨oe, vs, T, oT, ts, he, hz, hd, h1, nT, Te, hT, dT, h3⟩ := ht
  have off : ∀ b, b ≠ T → (s.heap.update T (Obj.mapFields (·.setIfInBounds 3 Value.none))).get? b = s.heap.get? b := fun b hb => Heap.get?_update_other _ _ (Ne.symm hb)
  have plain : ∀ b o, s.heap.get? b = some o → (∀ vs, o.data ≠ .fields vs) → b ≠ T := fun b o hb hnf q => hnf ts (by rw [q, hT] at hb; cases hb; exact dT)
  unfold noteFrame; simp only [hf]
  refine wpAny_bind (wpAny_field he hd h1 ?_); rw [if_pos (show (Value.ref T != Value.none) = true from by simp)]
  refine wpAny_bind (wpAny_field hT dT h3 ?_); rw [if_neg (show ¬ ((fl == rawInt L) = true) from by rw [hne]; exact Bool.false_ne_true)]
  refine wpAny_bind (wpAny_setField hT dT (Array.getElem?_eq_some_iff.mp h3).1 ?_)
  exact PXN.wpAny_entryZ hZ hfr (hl.of_keeps fun b o hb hnf => ⟨o, (off b (plain b o hb hnf)).trans hb, rfl⟩) hf ((off e (Ne.symm Te)).trans he) (fun b o hb => (off b fun q => by rw [q, nT] at hb; cases hb).trans (hkb b o hb)) hen hd (Array.getElem?_eq_some_iff.mp h1).1 hz
    fun h' ⟨x1, x2, x3, x4⟩ => hQ h' ⟨x1, hen, x2, x3⟩ fun b o hb hnf => x4 b o ((off b (plain b o hb hnf)).trans hb) hnf
/-- whatever stands in the block's air is held by the def's frame -/
theorem look_sky {Q : Unit → Shared → Prop} {C : Addr} (hZ : PXN.Steady1 Z) (hfr : A.frames = some (env :: outer)) (hf : env.frame = some L) (hC : C ≠ L) (x : Sky base (env :: outer) e Z C s.heap)
    (hQ : ∀ h', HandSPX.HeldZ base (env :: outer) e Z L h' → s.heap.UpToSlots h' → Q () { s with heap := h' }) : wpAny M A (noteFrame (.ref e) env) Q E s := by
  rcases x with ⟨hB, hn, hl, oe, vs, he, hz, hd, h1⟩ | ⟨f1, f2, f3, f4⟩ | ⟨f1, f2, f3, f4⟩
  · exact PXN.look_newZ hZ hfr hl hf he hB hn hd h1 hz hQ
  · exact look_far hZ hfr hf f1 f2 f3 f4 (by simp [rawInt]) hQ
  · exact look_far hZ hfr hf f1 f2 f3 f4 (beq_eq_false_iff_ne.mpr fun z => hC (Int.ofNat.inj (by injection z))) hQ
end
section
variable {X : Cx} {W : WX} {pins : List (Addr × Obj)} {σ : L2.St} {H H3 : Hp} {s3 : Shared}
theorem blk_fails {pn : List (Addr × Obj)} {xe : Value → Shared → Prop} {ce : PySem.Env} {scope : Scope} {fp : List Addr} {u : Value} {s' : Shared} {Ho : Hp} (I3 : Inv X pins σ Ho s3) (hst : X.stack = X.env :: X.outer) (hf : X.env.frame = some X.env.locals) (tk : Takes X W)
    (hcf : ce.frame = X.env.frame) (cL : ce.locals = s3.heap.objs.size) (f3 : ∀ b ∈ fp, FpOk X pins Ho b ∧ b < s3.heap.objs.size)
    (x : XE ((X.blk s3 Ho scope ce fp).tr pn xe) (fun cls d _ H => W cls d σ H) u s') :
    notedBy (model X.prog X.w) X.A ce (CompFails (model X.prog X.w) X.A X.xe ce) u s' := by
  obtain ⟨a, B, sI, pins', σb, Hb, cls, d, rfl, Ib, nb, up, sky, na, os, ag, w⟩ := x
  have hfr : X.A.frames = some (X.env :: X.outer) := by rw [I3.ok.frames, hst]
  have cne : ce.locals ≠ X.env.locals := by rw [cL]; exact Nat.ne_of_gt I3.lt
  have cst : ce.locals ∉ frs X.stack := fun hm => by
    rcases List.mem_cons.mp (I3.stkSub _ hm) with z | z
    · exact cne z
    · exact I3.nofs (Nat.le_of_eq cL.symm) z
  have sky : Sky B (X.env :: X.outer) a (Zn cls d) ce.locals s'.heap := by rw [← hst]; exact sky
  show wpAny _ _ (noteFrame (.ref a) ce) _ _ _
  rw [noteFrame_env _ hcf]
  refine look_sky Zn.steady hfr hf cne sky fun h1 hh up1 => ?_
  obtain ⟨m, hn, _⟩ := Ib.loc
  have hn : sI.heap.Ns ce.locals m := hn
  have n1 : h1.Ns ce.locals m := (up.trans up1).ns hn
  refine ⟨m, n1, fun h2 m2 n2 sb => ?_⟩
  obtain ⟨k1, k2, k3, oe, vs, T, oT, ts, he, hz, hd, hv1, nT, Te, hT, dT, h3⟩ := hh
  have offC : ∀ b o vs, h1.get? b = some o → o.data = .fields vs → b ≠ ce.locals := fun b o vs e q z => by
    obtain ⟨oC, es, ep, ho, hdd, _⟩ := n1
    rw [z, ho] at e
    cases e
    rw [q] at hdd
    cases hdd
  obtain ⟨G, g1, g2⟩ := restrict h2 fun b => (B.get? b).isSome
  have gs : G.StaysIn h2 := fun b o e => by
    cases q : (B.get? b).isSome with
    | true => rw [← g1 b q]; exact e
    | false => rw [g2 b q] at e; cases e
  have gn : ∀ b, B.get? b = none → G.get? b = none := fun b e => g2 b (by rw [e]; rfl)
  have he2 : h2.get? a = some oe := (sb.2 a (offC a oe vs he hd)).trans he
  have hT2 : h2.get? T = some oT := (sb.2 T (offC T oT ts hT dT)).trans hT
  have fr2 : h2.FunFrames G (X.env :: X.outer) := funFrames_none (Heap.FunFrames.sameBut sb n2 k3) fun b hb => gn b (k3.mem hb).1
  unfold PySem.passOn
  refine wpAny_bind (wpAny_field (s := { s' with heap := h2 }) he2 hd hv1 ?_); rw [if_neg (show ¬ ((Value.ref T == Value.none) = true) from by simp), hcf, hf]
  refine wpAny_bind (HandSPX.setFlight_anyZ (s := { s' with heap := h2 }) (Z := Zn cls d) (base := G) (l := X.env :: X.outer) gs fr2 ⟨oe, vs, T, oT, ts, he2, hz, hd, hv1, gn T nT, Te, hT2, dT, h3⟩ fun h4 j1 j2 j3 j4 => ?_)
  refine wpAny_throw (tk _ _ ?_)
  obtain ⟨oC, es, ep, hoC, hdC, _⟩ := n2
  obtain ⟨oI, _, _, hoI, _, _⟩ := hn
  have hI : ∀ b, b ≠ ce.locals → (sI.heap.update ce.locals fun _ => oC).get? b = sI.heap.get? b := fun b hb => Heap.get?_update_other _ _ (Ne.symm hb)
  have hIC : (sI.heap.update ce.locals fun _ => oC).get? ce.locals = some oC := Heap.get?_update_self _ hoI (by
    obtain ⟨_, z⟩ := Heap.get?_some_iff.mp hoC
    exact z)
  have sB : ∀ b o, sI.heap.get? b = some o → b ∉ frs X.stack → B.get? b = some o := nb
  have I7 : Inv X pins σ Hb sI := I3.call' (ch := fp) Ib.os Ib.base Ib.hok Ib.bare fun b hb => ⟨(f3 b hb).1.2.2.2.1, (f3 b hb).1.2.1, (f3 b hb).1.2.2.2.2.1, (f3 b hb).1.2.2.2.2.2⟩
  have nC : Hb s3.heap.objs.size = none := by
    have z : Hb ce.locals = none := Ib.free
    rw [cL] at z
    exact z
  obtain ⟨f0, q1, q2, q3, q4, q5⟩ := I3.fpOk (Nat.le_refl _) nC
  have I8 := I7.turned (h' := sI.heap.update ce.locals fun _ => oC) (t' := sI.toks) (it := s3.heap.objs.size) (fun b o hb e => (hI b (by rw [cL]; exact hb)).trans e) f0 q1 q3 q4 q5
  refine ⟨a, G, _, pins, σ, Hb, cls, d, rfl, I8, fun b o e hb => ?_, ?_, .inr (.inr (by rw [hst]; exact ⟨j1, gn a k2, j2, j3⟩)), na, os, ag, w⟩
  · by_cases z : b = ce.locals
    · subst z
      have e1 : (sI.heap.update ce.locals fun _ => oC).get? ce.locals = some o := e
      rw [hIC] at e1
      rw [g1 _ (by rw [sB _ _ hoI cst]; rfl), hoC]
      exact e1
    · have e1 := (hI b z).symm.trans e
      have e2 := sB b o e1 hb
      rw [g1 b (by rw [e2]; rfl), sb.2 b z]
      exact k1 b o e2
  · refine Heap.UpToSlots.trans (h₂ := h2) (fun b o e hnf => ?_) j4
    by_cases z : b = ce.locals
    · subst z
      have e1 : (sI.heap.update ce.locals fun _ => oC).get? ce.locals = some o := e
      rw [hIC] at e1
      cases e1
      exact ⟨_, hoC⟩
    · have e1 := (hI b z).symm.trans e
      obtain ⟨sl, e2⟩ := (up.trans up1) b o e1 hnf
      exact ⟨sl, (sb.2 b z).trans e2⟩
end
section
variable {X : Cx} {W : WX} {elt tg iter : Expr} {ifs : List Expr} {scope : Scope} {own : List (Str × Nat)} {pos : Pos} {wi : TI} {g : TG} {tt : TT} {te : L2.St → TE}
/-- [elt for target in iter if ..] whose element may let an error out -/
theorem pe_lcX (hst : X.stack = X.env :: X.outer) (hf : X.env.frame = some X.env.locals) (tk : Takes X W) (hc : X.calm = true) (hN : X.N.Nodup) (hi : PI X tg iter wi) (ok : BlkOk X.N X.env.scope scope own)
    (hg : ∀ (s : Shared) (H : Hp) (C : Addr) (cl : List (Str × Addr)) (fp : List Addr), PG (X.blk s H scope (compEnvC scope cl C X.env) fp) tg g)
    (ht : ∀ (s : Shared) (H : Hp) (C : Addr) (cl : List (Str × Addr)) (fp : List Addr), PTs (X.blk s H scope (compEnvC scope cl C X.env) fp) ifs tt)
    (he : ∀ (σ : L2.St) (s : Shared) (H : Hp) (C : Addr) (cl : List (Str × Addr)) (fp : List Addr) (pn : List (Addr × Obj)) (xe : Value → Shared → Prop), Takes ((X.blk s H scope (compEnvC scope cl C X.env) fp).tr pn xe) (fun cls d _ H => W cls d σ H) → PE ((X.blk s H scope (compEnvC scope cl C X.env) fp).tr pn xe) elt (te σ))
    (hs : ∀ x, foldedSetIterable iter X.env x = pure x) : PE X (.ListComp elt [⟨tg, iter, ifs, 0⟩] scope pos) (fun σ H Q => tLc wi g tt (te σ) (own.map (·.2)) σ H Q) := by
  refine ⟨fun pins s σ H Q I h => ?_⟩
  have free : ∀ y ∈ scope.names, y.2 = .free → ∃ c, X.env.cells.lookup y.1 = some c := fun y hy e => (ok.free y hy e).elim (fun k => I.ok.has _ (.inl k)) fun k => I.ok.has _ (.inr k)
  rw [eval_ListComp]
  refine comprehension_at (use := none) rfl hs (closure_ok free) ok.kind (fun y hy e => by rw [ok.uniq y hy, e]) (thn (hi.run pins s σ H _ I h) fun xv s1 hx => thn hx fun itv s2 ⟨it, fp, tn, J, H2, e, I2, T, st2, f2, q⟩ => ?_)
  subst e
  refine wpAny_newObj_type (newEnv_comp ?_) (by show 0 ≤ sizeLine; decide)
  generalize hD : s2.heap.objs.size = D
  obtain ⟨W1, ⟨m0, w0⟩, turn⟩ := q D (I2.hok.fresh (Nat.le_of_eq hD))
  generalize hs3 : ({ s2 with heap := s2.heap.push { cls := .type "list", data := .seq ([] : List Value).toArray } } : Shared) = s3
  have I3 : Inv X pins σ (upd H2 D (.lst [])) s3 := by
    rw [← hs3]
    refine I2.laid (t' := s2.toks) (fun b o e => Heap.get?_push_of_some _ e) (Nat.le_of_eq hD) ⟨Nat.zero_le _, [], 0, .nil, ?_⟩
    rw [← hD]; exact Heap.get?_push_size _ rfl
  have h3 : s3.heap = s2.heap.push { cls := .type "list", data := .seq ([] : List Value).toArray } := by rw [← hs3]
  have f3 : ∀ b ∈ fp, FpOk X pins (upd H2 D (.lst [])) b ∧ b < s3.heap.objs.size := fun b hb => by
    obtain ⟨_, eo, _⟩ := T.obj _ _ st2 b hb
    have hlt := Heap.lt_size eo
    refine ⟨⟨?_, (f2 b hb).2⟩, by rw [h3, Heap.size_push]; exact Nat.lt_succ_of_lt hlt⟩
    rw [upd_ne (by rw [← hD]; exact Nat.ne_of_lt hlt)]; exact (f2 b hb).1
  have st3 : tn 0 s3.heap := T.keep _ _ _ st2 fun b _ o e => by rw [h3]; exact Heap.get?_push_of_some _ e
  have I4 := block_start I3 ok hN f3
  have pg := hg s3 (upd H2 D (.lst [])) s3.heap.objs.size (cellsFrom (s3.heap.objs.size + 1) scope.names (cloFrom X.env.cells scope.names [])) fp
  have pt := ht s3 (upd H2 D (.lst [])) s3.heap.objs.size (cellsFrom (s3.heap.objs.size + 1) scope.names (cloFrom X.env.cells scope.names [])) fp
  have pe := he σ s3 (upd H2 D (.lst [])) s3.heap.objs.size (cellsFrom (s3.heap.objs.size + 1) scope.names (cloFrom X.env.cells scope.names [])) fp
  show codeAny _ _ (.compStart (.ListComp elt [⟨tg, iter, ifs, 0⟩] scope pos) 0 (.ref it) (.ref D) (compEnvC scope (cellsFrom (s3.heap.objs.size + 1) scope.names (cloFrom X.env.cells scope.names [])) s3.heap.objs.size X.env))
    (compEnds (model X.prog X.w) X.A X.xe none (EP X pins σ Q) (.ref D) (compEnvC scope (cellsFrom (s3.heap.objs.size + 1) scope.names (cloFrom X.env.cells scope.names [])) s3.heap.objs.size X.env)) { s3 with heap := pushCells (s3.heap.push { cls := .type "dict", data := .dict #[] }) scope.names }
  have nfp : ∀ b ∈ fp, (upd H2 D (.lst [])) b = none := fun b hb => (f3 b hb).1.1
  generalize hce : compEnvC scope (cellsFrom (s3.heap.objs.size + 1) scope.names (cloFrom X.env.cells scope.names [])) s3.heap.objs.size X.env = ce at I4 pg pt pe ⊢
  have cL : ce.locals = s3.heap.objs.size := by subst hce; rfl
  have cF : ce.frame = X.env.frame := by subst hce; rfl
  generalize hH3 : upd H2 D (.lst []) = H3 at I3 I4 pg pt pe w0 nfp f3
  generalize hs4 : ({ s3 with heap := pushCells (s3.heap.push { cls := .type "dict", data := .dict #[] }) scope.names } : Shared) = s4 at I4 ⊢
  have st4 : tn 0 s4.heap := T.keep _ _ _ st3 fun b _ o e => by rw [← hs4]; exact pushCells_keeps _ _ _ _ (Heap.get?_push_of_some _ e)
  have stat : ∀ {σ' : L2.St} {H' : Hp} {s' : Shared}, Inv (X.blk s3 H3 scope ce fp) [] σ' H' s' → (∀ b ∈ fp, H' b = none) → ∀ b ∈ fp, FpOk (X.blk s3 H3 scope ce fp) [] H' b := fun {σ' H' s'} I' hn b hb =>
    ⟨hn b hb, (I'.ok.exf b hb).1, I'.ok.exfs b hb, .inl hb, fun x c e => (I'.ok.exf b hb).2 x c e, fun p hp => by simp at hp⟩
  have loop : codeAny (model X.prog X.w) X.A (.compLoop (.ListComp elt [⟨tg, iter, ifs, 0⟩] scope pos) 0 (.ref it) (.ref D) ce) (compEnds (model X.prog X.w) X.A X.xe none (EP X pins σ Q) (.ref D) ce) s4 := by
    refine compLoop_any (fun n s' => ∃ i H', Inv (X.blk s3 H3 scope ce fp) [] (wipe σ (own.map (·.2))) H' s' ∧ tn i s'.heap ∧ (∀ b ∈ fp, H' b = none) ∧ W1 i n H') ?_ m0 ⟨0, H3, I4, st4, nfp, w0⟩
    rintro n s5 ⟨i, H5, I5, st5, n5, w5⟩
    rcases turn i n H5 w5 with ⟨stop, qq⟩ | ⟨go, Nx, hNx, step⟩
    · refine thnF (T.done (X.blk s3 H3 scope ce fp) rfl rfl rfl hc i [] s5 _ H5 (fun _ _ => False) I5 (stat I5 n5) st5 stop) fun r s6 ⟨hr, I6⟩ => ?_
      subst hr
      have I7 : Inv X pins σ H5 s6 := I3.call' (ch := fp) I6.os I6.base I6.hok I6.bare fun b hb => let z := (f3 b hb).1; ⟨z.2.2.2.1, z.2.1, z.2.2.2.2.1, z.2.2.2.2.2⟩
      have nC : H5 ce.locals = none := I6.free
      obtain ⟨m, hn, _⟩ := I6.loc
      obtain ⟨f0, q1, q2, q3, q4, q5⟩ := I3.fpOk (Nat.le_refl _) (by rw [cL] at nC; exact nC)
      refine ⟨m, hn, fun h'' sb => ⟨.ref D, H5, I7.turned (t' := s6.toks) (fun b o hb e => (sb.2 b (by rw [cL]; exact hb)).trans e) f0 q1 q3 q4 q5, rfl, qq⟩⟩
    · refine thnF (T.item (X.blk s3 H3 scope ce fp) rfl rfl rfl hc i [] s5 _ H5 (fun _ _ => False) I5 (stat I5 n5) st5 go) fun r s6 ⟨u, hr, h6⟩ => ?_
      subst hr
      refine thnF h6 fun _ s7 ⟨x, H7, I7, r7, y7, st7, n7⟩ => ?_
      have I7' := I7.pinned (stat I7 n7) (T.obj _ _ st7)
      refine thnF (pg.run _ s7 _ H7 x u _ I7' r7 (step x H7 y7)) fun _ s8 ⟨σ8, H8, I8, hw8, q8⟩ => thnF (pt.run _ s8 σ8 H8 _ I8 q8) fun b s9 ⟨H9, I9, q9⟩ => ?_
      have fin : ∀ {s' : Shared} {H' : Hp}, Inv (X.blk s3 H3 scope ce fp) ([] ++ pinsAt fp s7.heap) σ8 H' s' → Nx H' → ∃ m, m < n ∧ ∃ i H', Inv (X.blk s3 H3 scope ce fp) [] (wipe σ (own.map (·.2))) H' s' ∧ tn i s'.heap ∧ (∀ b ∈ fp, H' b = none) ∧ W1 i m H' := fun {s' H'} I' nx => by
        obtain ⟨m', hm, w'⟩ := hNx H' nx
        have held : ∀ b ∈ fp, ∀ o, s7.heap.get? b = some o → s'.heap.get? b = some o ∧ H' b = none := fun b hb o e =>
          let z := I'.pin (b, o) (List.mem_append_right _ (List.mem_append_right _ (mem_pinsAt hb e))); ⟨z.1, z.2.1⟩
        refine ⟨m', hm, i + 1, H', (I'.unpinned (pins := [])).weak (by rw [← hw8, wipe_length]) (fun j v e => by rw [← hw8] at e; exact (wipe_some e).1), T.keep _ _ _ st7 fun b hb o e => (held b hb o e).1, fun b hb => ?_, w'⟩
        obtain ⟨o, e, _⟩ := T.obj _ _ st7 b hb
        exact (held b hb o e).2
      cases b with
      | false => simp only [Bool.false_eq_true, if_false] at q9 ⊢; exact fin I9 q9
      | true =>
        simp only [if_true] at q9 ⊢
        have ok9 := I9.ok
        refine wpAny_mono ((pe ((X.blk s3 H3 scope ce fp).pn ++ ([] ++ pinsAt fp s7.heap)) (fun e s' => notedBy (model X.prog X.w) X.A ce (CompFails (model X.prog X.w) X.A X.xe ce) e s') fun u s' x => blk_fails I3 hst hf tk cF cL f3 x).run [] s9 σ8 H9 _ (I9.toTry _) q9)
          (fun z s10 ⟨yv, H10, I10, r10, acc, hD10, hz10, nx⟩ => ?_) fun _ _ z => z
        exact app_ok (X := X.blk s3 H3 scope ce fp) (I10.ofTry ok9) hD10 hz10 r10 fun s11 I11 => fin I11 nx
  exact codeAny_compStart_list loop (T.self X.A 0 _ _ _ st4 loop)
end
end J

namespace J
open PySem.Spec PySem PyProof.Rows
open L2 hiding St Takes XE CX takes_of PMk MkP ps_raise mk_of ps_try_as ps_try_many pmk_own passAt passes_call takes0 passL
open L2N hiding St
theorem R.bind_assoc {α β γ : Type} (r : R α) (f : α → R β) (g : β → R γ) : (r.bind f).bind g = r.bind fun a => (f a).bind g := by cases r <;> rfl
theorem mapFR_app (t : PV → R Bool) (f : PV → R PV) : ∀ (l m : List PV), mapFR t f (l ++ m) = (mapFR t f l).bind fun r => (mapFR t f m).bind fun r' => .ok (r ++ r')
  | [], m => by
    simp only [List.nil_append, mapFR, R.bind_ok]
    cases mapFR t f m <;> rfl
  | p :: l, m => by
    simp only [List.cons_append, mapFR]
    cases t p with
    | ok b =>
      simp only [R.bind_ok]
      cases b with
      | true =>
        simp only [if_true]
        cases f p with
        | ok q =>
          simp only [R.bind_ok, mapFR_app t f l m, R.bind_assoc]
          cases mapFR t f l with
          | ok r =>
            simp only [R.bind_ok]
            cases mapFR t f m <;> rfl
          | er c fs => rfl
          | bad => rfl
        | er c fs => rfl
        | bad => rfl
      | false => simpa using mapFR_app t f l m
    | er c fs => rfl
    | bad => rfl
def lcXE (vs : List Nat) (di : Env → R (List PV)) (bn : Bnd) (t : Env → R Bool) (d : Env → R PV) (env : Env) : R PV := (di env).bind fun l => if l.length ≤ 1000 then
  (mapFR (fun p => match bn p (wipeE env vs) with | some e => noE (t e) | none => .bad) (fun p => match bn p (wipeE env vs) with | some e => d e | none => .bad) l).bind fun r => .ok (.lst r) else .bad
theorem mapFR_len (t : PV → R Bool) (f : PV → R PV) : ∀ (m r : List PV), mapFR t f m = .ok r → r.length ≤ m.length
  | [], r, h => by cases h; exact Nat.le_refl _
  | a :: m, r, h => by
    simp only [mapFR] at h
    cases et : t a with
    | ok b =>
      rw [et] at h
      simp only [R.bind_ok] at h
      cases b with
      | true =>
        simp only [if_true] at h
        cases ef : f a with
        | ok q =>
          rw [ef] at h
          simp only [R.bind_ok] at h
          cases em : mapFR t f m with
          | ok r' => rw [em] at h; cases h; exact Nat.succ_le_succ (mapFR_len t f m _ em)
          | er _ _ => rw [em] at h; cases h
          | bad => rw [em] at h; cases h
        | er _ _ => rw [ef] at h; cases h
        | bad => rw [ef] at h; cases h
      | false => exact Nat.le_succ_of_le (mapFR_len t f m _ (by simpa using h))
    | er _ _ => rw [et] at h; cases h
    | bad => rw [et] at h; cases h
section
variable {G : Ga} {X : Cx} {W : WX} {Hf H Hf' H' : Hp} {env : Env} {σ : L2.St} {pos : Pos} {e tg iter elt : Expr} {d : Env → R PV} {ifs : List Expr} {t : Env → R Bool} {dl : Env → R (List PV)} {vs : List Nat} {bn : Bnd}
theorem none_up {Hf H Hf' H' : Hp} {a : Addr} {o : HO} (g : Gr Hf H Hf' H') (n : Hf a = none) (h : H a = some o) : Hf' a = none := by
  cases e : Hf' a with
  | none => rfl
  | some u =>
    rcases g.new a u e with z | z
    · rw [n] at z; cases z
    · rw [h] at z; cases z
theorem tj_lcX {wi : TI} {g : TG} {tt : TT} {te : L2.St → TE} (ji : TJI G W wi dl) (jg : TJG G g bn vs) (jt : TJT G W0 tt t) (je : ∀ σ, TJ G (fun c d _ H => W c d σ H) (te σ) d) : TJ G W (fun σ H Q => tLc wi g tt (te σ) vs σ H Q) (lcXE vs dl bn t d) := fun H0 Hf H env σ Q s E h => by
  refine ji H0 Hf H env σ _ s E (PostG.bind h fun l J Hf1 H1 _ g1 ⟨GG, Y, w, hG, hY⟩ h1 => ?_)
  intro D hD
  by_cases hl : l.length ≤ 1000
  case neg => rw [if_neg hl] at h1; exact h1.elim
  rw [if_pos hl] at h1
  have nf1 := none_back g1.sub hD
  generalize hT : (fun p => match bn p (wipeE env vs) with | some e => noE (t e) | none => R.bad) = T at h1
  generalize hF : (fun p => match bn p (wipeE env vs) with | some e => d e | none => R.bad) = F at h1
  have hT : ∀ p, T p = (match bn p (wipeE env vs) with | some e => noE (t e) | none => R.bad) := fun p => by rw [← hT]
  have hF : ∀ p, F p = (match bn p (wipeE env vs) with | some e => d e | none => R.bad) := fun p => by rw [← hF]
  refine lc_it w (fun i H2 => ∃ Hf2 acc ri, Gr Hf1 H1 Hf2 H2 ∧ H2 D = some (.lst acc) ∧ Hf2 D = none ∧ mapFR T F (l.take i) = .ok ri ∧ Reps G Hf2 ri acc)
    ⟨Hf1, [], [], Gr.up g1.sub (Same.new hD), upd_same, nf1, rfl, .nil⟩ (fun i H2 _ ⟨Hf2, _, _, g2, _⟩ => hG Hf2 H2 g2.fz g2.sub) ?_ ?_
  · rintro i x H2 H3 hi ⟨Hf2, acc, ri, g2, hacc, hfD, eri, ra⟩ y
    obtain ⟨Hf3, g3, p, ep, rp⟩ := hY i Hf2 H2 x H3 hi g2.fz g2.sub y
    have tk : l.take (i + 1) = l.take i ++ [p] := by
      rw [List.take_succ, ep]
      rfl
    have whole : l = l.take i ++ (p :: l.drop (i + 1)) := by rw [← List.singleton_append, ← List.append_assoc, ← tk, List.take_append_drop]
    have E3 : EnvOk G H0 Hf3 H3 (wipeE env vs) (wipe σ vs) := (((E.grow g1).grow g2).grow g3).wipe vs
    have n3 := none_up g3 hfD hacc
    rw [whole, mapFR_app, eri, R.bind_ok] at h1
    simp only [mapFR] at h1
    have eT := hT p
    have eF := hF p
    refine jg H0 Hf3 H3 _ _ p x _ g3.sub E3 rp ?_
    cases ebn : bn p (wipeE env vs) with
    | none =>
      simp only [ebn] at eT
      rw [eT] at h1
      exact h1.elim
    | some e4 =>
      simp only [ebn] at eT eF
      intro σ4 E4 w4
      refine ⟨by rw [w4]; exact wipe_wipe, ?_⟩
      cases et : t e4 with
      | er c fs => rw [eT, et] at h1; exact h1.elim
      | bad => rw [eT, et] at h1; exact h1.elim
      | ok b =>
        rw [et] at eT
        simp only [noE] at eT
        refine jt H0 Hf3 H3 e4 σ4 _ g3.sub E4 (postG_noE (a := b) (by rw [et]; rfl) fun v Hf5 H5 g5 rv => ?_)
        subst rv
        have g15 := (g2.trans g3).trans g5
        have hacc5 := g5.hp _ _ (g3.hp _ _ hacc)
        have n5 := none_up g5 n3 (g3.hp _ _ hacc)
        rw [eT] at h1
        simp only [R.bind_ok] at h1
        cases v with
        | false =>
          rw [if_neg Bool.false_ne_true]
          refine ⟨Hf5, acc, ri, g15, hacc5, n5, ?_, (ra.mono g3.fz).mono g5.fz⟩
          rw [tk, mapFR_app, eri]
          simp [mapFR, eT]
        | true =>
          rw [if_pos rfl]
          simp only [if_true] at h1
          refine je σ H0 Hf5 H5 e4 σ4 _ g5.sub (E4.grow g5) ?_
          cases ed : d e4 with
          | bad => rw [eF, ed] at h1; exact h1.elim
          | er c fs =>
            rw [eF, ed] at h1
            exact fun Hf' H' dd g er => h1 Hf' H' dd (g15.trans g) er
          | ok q =>
            rw [ed] at eF
            intro v Hf6 H6 g6 rv
            have hacc6 := g6.hp _ _ hacc5
            have n6 := none_up g6 n5 hacc5
            have ra6 := ((ra.mono g3.fz).mono g5.fz).mono g6.fz
            have g16 := g15.trans g6
            have len : acc.length ≤ l.length := by
              rw [← ra.length]
              exact Nat.le_trans (mapFR_len _ _ _ _ eri) (by rw [List.length_take]; exact Nat.min_le_right _ _)
            refine ⟨acc, hacc6, Nat.lt_of_le_of_lt (Nat.le_trans len hl) (by decide), Hf6, acc ++ [v], ri ++ [q], ⟨g16.fz, fun b o hb => ?_, fun b o hb => ?_, g16.new⟩, upd_same, n6, ?_, ra6.append (.cons rv .nil)⟩
            · rw [upd_ne (ne_of_none hb hD)]
              exact g16.hp _ _ hb
            · rw [upd_ne (ne_of_none hb n6)]
              exact g16.sub _ _ hb
            · rw [tk, mapFR_app, eri]
              simp [mapFR, eT, eF]
  · rintro H2 ⟨Hf2, acc, ri, g2, hacc, hfD, eri, ra⟩
    rw [List.take_length] at eri
    rw [eri] at h1
    exact h1 _ _ H2 (g2.frz hD hfD hacc) (.lst (SqL.of upd_same) (ra.mono (Same.new hfD)))
theorem je_lcX {scope : Scope} (own : List (Str × Nat)) (nd : X.N.Nodup) (tk : Takes X W) (hi : JI G X W tg iter dl) (ok : blkC X.N X.env.scope scope own = true)
    (hg : ∀ (s : Shared) (H : Hp) (C : Addr) (cl : List (Str × Addr)) (fp : List Addr), JG G (X.blk s H scope (compEnvC scope cl C X.env) fp) tg bn (own.map (·.2)))
    (ht : ∀ (s : Shared) (H : Hp) (C : Addr) (cl : List (Str × Addr)) (fp : List Addr), JTs G (X.blk s H scope (compEnvC scope cl C X.env) fp) W0 ifs t)
    (he : ∀ (W' : WX) (s : Shared) (H : Hp) (C : Addr) (cl : List (Str × Addr)) (fp : List Addr) (pn : List (Addr × Obj)) (xe : Value → Shared → Prop), Takes ((X.blk s H scope (compEnvC scope cl C X.env) fp).tr pn xe) W' → JE G ((X.blk s H scope (compEnvC scope cl C X.env) fp).tr pn xe) W' elt d)
    (hst : X.stack = X.env :: X.outer := by rfl) (hf : X.env.frame = some X.env.locals := by rfl) (hc : X.calm = true := by rfl) (hs : ∀ x, foldedSetIterable iter X.env x = pure x := by intro _; rfl) : JE G X W (.ListComp elt [⟨tg, iter, ifs, 0⟩] scope pos) (lcXE (own.map (·.2)) dl bn t d) := by
  obtain ⟨wi, pi, ji⟩ := hi
  exact ⟨_, pe_lcX (te := fun σ => teOf G (fun c d _ H => W c d σ H) d) hst hf tk hc nd pi (blkOk_by ok) (fun s H C cl fp => (hg s H C cl fp).pg) (fun s H C cl fp => (ht s H C cl fp).pts) (fun σ s H C cl fp pn xe tk => (he _ s H C cl fp pn xe tk).pe) hs, tj_lcX ji tjg_of tjt_of fun σ => tj_of⟩
end
end J

namespace J
open PySem.Spec PySem PyProof.Rows
open L2 hiding St Takes XE CX takes_of PMk MkP ps_raise mk_of ps_try_as ps_try_many pmk_own passAt passes_call takes0 passL
open L2N hiding St
/-! ### static methods, called by their class -/
structure SFact (K : PySem.W.Frag) (C : Addr) (m : Str) (p g : Addr) : Prop where
  at_ : PySem.W.findCls K (.ref C) (.type "type") m = some (.get (.builtin "staticmethod.__get__") (.ref p) .none (.ref C))
  rc : ∃ rest, PySem.W.recIn K p "staticmethod" = some (.ref g :: rest)
  kp : PySem.W.keepIn K (.ref g) = true
/-- the static method m of the class x -/
structure SFun (K : PySem.W.Frag) (mg : Str → Option Value) (x : Str) (C : Addr) (m qual : Str) (st : Stmt) (ps : List Str) : Prop where
  ex : ∃ p f fd, L2.Fun K m qual st f fd ∧ SFact K C m p f ∧ ClX.CRead K C (.type "type") ∧ mg x = some (.ref C) ∧ L2.Binds K fd ps []
structure SDef (P : Program) (w : World) (K : PySem.W.Frag) (mg : Str → Option Value) (base : Heap) (k : Nat) (x : Str) (C : Addr) (m : Str) (ps : List Str) (sp : Sp) : Prop where
  ex : ∃ p f fd, SFact K C m p f ∧ ClX.CRead K C (.type "type") ∧ mg x = some (.ref C) ∧ L2.Binds K fd ps [] ∧ FnOk P w K mg base (L2N.CX P w) k f fd ps sp
section
variable {X : Cx} {W : WX} {k : Nat} {C : Addr} {x m : Str} {ps : List Str} {sp : Sp} {p0 pos apos : Pos} {e : Expr} {es : List Expr} {t : TA}
theorem getsm_ok {pins : List (Addr × Obj)} {σ : L2.St} {H : Hp} {s : Shared} {p g : Addr} {A : Around} {E : Value → Shared → Prop} {pl : Sem Bool} {Q : Value × List Value → Shared → Prop} (I : Inv X pins σ H s) (r : ClX.CRead X.K C (.type "type")) (c : SFact X.K C m p g)
    (h : ∀ s', Inv X pins σ H s' → Q (.ref g, []) s') : wpAny (model X.prog X.w) A (getMethod (.ref C) m pl) Q E s := by
  obtain ⟨rest, hp⟩ := c.rc
  refine PySem.W.method_cls I.kIn r.ga (PySem.W.cls_bind I.kIn r.rd c.at_ ?_)
  exact wpAny_call (PySem.W.sm_get (s := { s with toks := s.toks + 1 }) I.kIn hp (PySem.W.handed_on rfl (h _ (I.tok _))))
theorem pe_sm {pl : Sem Bool} (D : SDef X.prog X.w X.K X.mg X.base k x C m ps sp) (hr : Room k X.A) (tk : Takes X W) (ha : PA X (e :: es) t) (hg : Gl X x := by rfl) (hdb : (x == ("__debug__" : Str)) = false := by decide)
    (hst : starEach (e :: es) X.env = (false, eval e X.env) :: starEach es X.env := by rfl) (hpl : (backTo pos (starEach es X.env)).any (·.1) = false := by rfl)
    (ht : eval (.Call (.Attribute (.Name x p0) m apos) (e :: es) [] pos) X.env = (eval (.Name x p0) X.env >>= fun ov => standAt apos.atName >>= fun _ => holding [ov] (getMethod ov m pl) >>= fun q =>
      callWith pos q.1 q.2 (backTo pos (starEach (e :: es) X.env)) (backToKw pos (keywordEach [] X.env))) := by rfl) :
    PE X (.Call (.Attribute (.Name x p0) m apos) (e :: es) [] pos) (tCallS sp (WE W) t) := by
  obtain ⟨p, f, fd, c, r, g, b, F⟩ := D.ex
  have pc : PE X (.Name x p0) (tC (.ref C)) := pe_glob (v := .ref C) hg g rfl hdb
  refine ⟨fun pins s σ H Q I h => PySem.W.methodCall_KW (pl := pl) (thn (pc.run pins s σ H (fun v H1 => v = .ref C ∧ H1 = H) I ⟨rfl, rfl⟩) fun u s1 ⟨y, H1, I1, rx, ey, eH⟩ => ?_) ht⟩
  subst ey eH
  obtain rfl : u = Value.ref C := rx
  refine getsm_ok I1 r c fun s2 I2 => ?_
  refine PySem.W.callWith_K (h₀ := X.base) I.ok.mod.kin c.kp (thn (ha.run pos pins s2 σ _ _ I2 h) fun us s3 ⟨vs, H2, I3, rv, q2⟩ => ⟨I3.kIn, ?_⟩) hst hpl
  exact run_fnS (us := us) (vs := vs) (E := WE W) F hr b (passAt tk σ) I3 rv q2
end
section
variable {G : Ga} {X : Cx} {W : WX} {k : Nat} {C : Addr} {x m : Str} {ps : List Str} {f : List PV → R PV} {p0 pos apos : Pos} {e : Expr} {es : List Expr} {dl : Env → R (List PV)}
theorem je_sm {pl : Sem Bool} (D : SDef X.prog X.w X.K X.mg X.base k x C m ps (spJ G f)) (hr : Room k X.A) (tk : Takes X W) (ha : JA G X W (e :: es) dl) (hg : Gl X x := by rfl) (hdb : (x == ("__debug__" : Str)) = false := by decide)
    (hst : starEach (e :: es) X.env = (false, eval e X.env) :: starEach es X.env := by rfl) (hpl : (backTo pos (starEach es X.env)).any (·.1) = false := by rfl)
    (ht : eval (.Call (.Attribute (.Name x p0) m apos) (e :: es) [] pos) X.env = (eval (.Name x p0) X.env >>= fun ov => standAt apos.atName >>= fun _ => holding [ov] (getMethod ov m pl) >>= fun q =>
      callWith pos q.1 q.2 (backTo pos (starEach (e :: es) X.env)) (backToKw pos (keywordEach [] X.env))) := by rfl) :
    JE G X W (.Call (.Attribute (.Name x p0) m apos) (e :: es) [] pos) (callE f dl) := by
  obtain ⟨t, pt, jt⟩ := ha
  exact ⟨_, pe_sm (pl := pl) D hr tk pt hg hdb hst hpl ht, fun H0 Hf H env σ Q s E h => jt H0 Hf H env σ _ s E (PostG.bind h fun l vs Hf1 H1 _ g1 r1 h1 => ⟨Hf1, l, g1.sub, r1, post_E (E := WE W) h1⟩)⟩
end

section
variable {P : Program} {w : World} {K : PySem.W.Frag} {mg : Str → Option Value} {base : Heap} {G : Gb}
theorem jsm {x m qual : Str} {C : Addr} {st : Stmt} {ps N : List Str} {k : Nat} {d : Env → F} (F : SFun K mg x C m qual st ps) (S : FnScope N ps (defScope st))
    (h : ∀ (f : Addr) (cdv : Value) (A : Around) (outer : List PySem.Env) (s : Shared) (H : Hp) (E : XK), Room k (A.deeper (envOfC qual (defScope st) s.heap.objs.size f cdv)) → JSs ⟨G, none, none⟩ (cxOf (L2N.CX P w) P w K mg base N qual (defScope st) f cdv A outer s H E) (WD E) (defBody st) d) :
    SDef P w K mg base (k + 1) x C m ps (spJ G (fnJ ps.length N.length d)) := by
  obtain ⟨p, f, fd, Fn, c, r, g, b⟩ := F.ex
  exact ⟨p, f, fd, c, r, g, b, Bp.okN Fn S len_ok fun cdv A outer s H vs Q E hr q => body_ok (h f cdv A outer s H E hr) q⟩
end
end J

namespace J
open PySem.Spec PySem PyProof.Rows
open L2 hiding St Takes XE CX takes_of PMk MkP ps_raise mk_of ps_try_as ps_try_many pmk_own passAt passes_call takes0 passL
open L2N hiding St
/-! ### lists that are a name's own -/
section
variable {G : Ga} {X : Cx} {W : WX} {Hf0 H0 Hf H Hf' H' : Hp} {env : Env} {σ : L2.St} {i : Nat} {x : Str} {pos p1 p2 p3 : Pos} {e a b tg iter elt : Expr} {d da db : Env → R PV} {ifs : List Expr} {t : Env → R Bool} {dl : Env → R (List PV)} {vs : List Nat} {bn : Bnd}
/-- xs[k], xs an own list -/
def ixO (i : Nat) (d : Env → R PV) (env : Env) : R PV := match env.at i with
  | .own l => (d env).bind fun k => match k with | .int j => (match atI l j with | some p => .ok p | none => .bad) | _ => .bad
  | _ => .bad
theorem je_ixO (i : Nat) (hK : X.K = G.K) (hb : JE G X W b d) (hi : X.N[i]? = some x := by rfl) (hv : Vis X.env.scope x := by first | exact Or.inl rfl | exact Or.inr (Or.inl rfl) | exact Or.inr (Or.inr rfl)) (hd : (x == ("__debug__" : Str)) = false := by decide) (hcd : (x == ("__classdict__" : Str)) = false := by decide)
    (hs : PlainIx b := by exact fun _ _ => rfl) : JE G X W (.Subscript (.Name x p1) b pos) (ixO i d) := by
  obtain ⟨u, pu, ju⟩ := hb
  refine ⟨_, pe_ix ix_seq (pe_var hi hv hd hcd) pu hs, fun H0 Hf H env σ Q s E h => ?_⟩
  unfold ixO at h
  have q := E.get i
  cases el : env.at i with
  | own l =>
    rw [el] at h q
    obtain ⟨a, ws, ea, a0, af, ah, r⟩ := q
    refine ⟨.ref a, ea, ju H0 Hf H env σ _ s E (PostG.bind h fun k w Hf1 H1 _ g1 r1 h1 => ?_)⟩
    cases r1 with
    | int j =>
      simp only at h1
      cases e : atI l j with
      | none => simp only [e] at h1; exact h1.elim
      | some z =>
        simp only [e] at h1
        obtain ⟨zv, e2, rz⟩ := reps_atI r e
        exact .inl ⟨_, _, _, zv, rfl, rfl, by rw [hK]; exact SqL.of (g1.hp _ _ ah), e2, h1 zv Hf1 H1 (Gr.refl g1.sub) (rz.mono g1.fz)⟩
    | _ => exact h1.elim
  | _ => rw [el] at h; exact h.elim
/-- xs[k] = e, xs an own list -/
theorem js_setIO (i : Nat) (hK : X.K = G.K) (he : JE G X W e d) (hb : JE G X W b db) (hi : X.N[i]? = some x := by rfl) (hv : Vis X.env.scope x := by first | exact Or.inl rfl | exact Or.inr (Or.inl rfl) | exact Or.inr (Or.inr rfl)) (hd : (x == ("__debug__" : Str)) = false := by decide) (hcd : (x == ("__classdict__" : Str)) = false := by decide)
    (ha : ∀ v, assign (.Subscript (.Name x p1) b p2) X.env v = (do
      let ov ← holding [v] (eval (.Name x p1) X.env)
      let iv ← holding [v, ov] (eval b X.env)
      standAt p2
      holding [v, ov, iv] (setItem ov iv v)
      release [v, ov, iv] []) := by intro _; rfl)
    (hs : swapsWithSole [.Subscript (.Name x p1) b p2] e pos.line X.env = pure false := by rfl) (hw : swappedStores [.Subscript (.Name x p1) b p2] e X.env = pure none := by rfl)
    (h1 : (assignEach [.Subscript (.Name x p1) b p2] X.env).map (·.2) = [assign (.Subscript (.Name x p1) b p2) X.env] := by rfl) : JS G X W (.Assign [.Subscript (.Name x p1) b p2] e pos) (setI i db d) := by
  obtain ⟨t, pt, jt⟩ := he
  obtain ⟨u, pu, ju⟩ := hb
  refine ⟨_, ps_asg pt (pg_sub (pe_var hi hv hd hcd) pu set_list ha) hs hw h1, fun Hf0 H0 Hf H env σ D S h => ?_⟩
  unfold setI at h
  cases el : env.at i with
  | own l =>
    rw [el] at h
    simp only at h
    refine jt H0 Hf H env σ _ S.gr.sub S.env (post_lift S h fun p v Hf1 H1 g1 S1 rp h1 => ?_)
    have q := S1.env.get i
    rw [el] at q
    obtain ⟨a, ws, ea, _, _, _, _⟩ := q
    refine ⟨.ref a, ea, ju H0 Hf1 H1 env σ _ S1.gr.sub S1.env (post_lift S1 h1 fun k w Hf2 H2 g2 S2 rk h2 => ?_)⟩
    cases rk with
    | int j =>
      simp only at h2
      have q := S2.env.get i
      rw [el, ea] at q
      obtain ⟨a', ws', ea', a0, af, ah, r⟩ := q
      cases ea'
      cases e : ixN l.length j with
      | none => simp only [e] at h2; exact h2.elim
      | some n =>
        simp only [e] at h2
        refine ⟨a, ws', j, n, rfl, rfl, ah, by rw [← r.length]; exact e, ?_⟩
        exact h2 σ Hf2 _ (S2.upd (by rw [el]; rfl) ea a0 af ah (fun _ w => nomatch w) ⟨a, _, rfl, a0, af, upd_same, r.set (rp.mono g2.fz) n⟩) (fun _ _ h => h)
    | _ => exact h2.elim
  | _ => rw [el] at h; exact h.elim
/-- x = [..] of a list that will change -/
def lcL (vs : List Nat) (di : Env → R (List PV)) (bn : Bnd) (t : Env → R Bool) (d : Env → R PV) (env : Env) : R (List PV) := (di env).bind fun l => if l.length ≤ 1000 then
  noE (mapFR (fun p => match bn p (wipeE env vs) with | some e => noE (t e) | none => .bad) (fun p => match bn p (wipeE env vs) with | some e => noE (d e) | none => .bad) l) else .bad
def setOF (i : Nat) (dl : Env → R (List PV)) (env : Env) : F := match dl env with | .ok r => .nx (env.set i (.own r)) | _ => .bad
theorem PostG.noE {α β : Type} {G : Gb} {Rl : Hp → α → β → Prop} {W : WX} {Hf H : Hp} {σ : L2.St} {r : R α} {a : α} {Q : β → Hp → Prop} (e : r = .ok a) (k : ∀ v Hf' H', Gr Hf H Hf' H' → Rl Hf' a v → Q v H') : PostG G W Rl Hf H σ r Q := by rw [e]; exact k
theorem rd_lcO {wi : TI} {g : TG} {tt : TT} {te : TE} {r : List PV} {Q : VK} (ji : TJI G W wi dl) (jg : TJG G g bn vs) (jt : TJT G W0 tt t) (je : TJ G W0 te d) (s : Same Hf H) (E : EnvOk G H0 Hf H env σ) (er : lcL vs dl bn t d env = .ok r)
    (k : ∀ D acc Hf2 H2, Gr Hf H Hf2 H2 → H D = none → Hf2 D = none → H2 D = some (.lst acc) → Reps G Hf2 r acc → Q (.ref D) H2) : tLc wi g tt te vs σ H Q := by
  unfold lcL at er
  cases edl : dl env with
  | er _ _ => rw [edl] at er; cases er
  | bad => rw [edl] at er; cases er
  | ok l =>
  rw [edl] at er
  simp only [R.bind_ok] at er
  by_cases hl : l.length ≤ 1000
  case neg => rw [if_neg hl] at er; cases er
  rw [if_pos hl] at er
  refine ji H0 Hf H env σ _ s E (PostG.noE edl fun Jt Hf1 H1 g1 ⟨GG, Y, w, hG, hY⟩ => ?_)
  intro D hD
  have nf1 := none_back g1.sub hD
  generalize hT : (fun p => match bn p (wipeE env vs) with | some e => noE (t e) | none => R.bad) = T at er
  generalize hF : (fun p => match bn p (wipeE env vs) with | some e => noE (d e) | none => R.bad) = F at er
  have hT : ∀ p, T p = (match bn p (wipeE env vs) with | some e => noE (t e) | none => R.bad) := fun p => by rw [← hT]
  have hF : ∀ p, F p = (match bn p (wipeE env vs) with | some e => noE (d e) | none => R.bad) := fun p => by rw [← hF]
  have er : mapFR T F l = .ok r := by
    cases em : mapFR T F l with
    | ok z => rw [em] at er; exact er
    | er _ _ => rw [em] at er; cases er
    | bad => rw [em] at er; cases er
  refine lc_it w (fun i H2 => ∃ Hf2 acc ri, Gr Hf1 H1 Hf2 H2 ∧ H2 D = some (.lst acc) ∧ Hf2 D = none ∧ mapFR T F (l.take i) = .ok ri ∧ Reps G Hf2 ri acc)
    ⟨Hf1, [], [], Gr.up g1.sub (Same.new hD), upd_same, nf1, rfl, .nil⟩ (fun i H2 _ ⟨Hf2, _, _, g2, _⟩ => hG Hf2 H2 g2.fz g2.sub) ?_ ?_
  · rintro i x H2 H3 hi ⟨Hf2, acc, ri, g2, hacc, hfD, eri, ra⟩ y
    obtain ⟨Hf3, g3, p, ep, rp⟩ := hY i Hf2 H2 x H3 hi g2.fz g2.sub y
    have tk : l.take (i + 1) = l.take i ++ [p] := by
      rw [List.take_succ, ep]
      rfl
    have whole : l = l.take i ++ (p :: l.drop (i + 1)) := by rw [← List.singleton_append, ← List.append_assoc, ← tk, List.take_append_drop]
    have E3 : EnvOk G H0 Hf3 H3 (wipeE env vs) (wipe σ vs) := (((E.grow g1).grow g2).grow g3).wipe vs
    have n3 := none_up g3 hfD hacc
    have h1 := er
    rw [whole, mapFR_app, eri, R.bind_ok] at h1
    simp only [mapFR] at h1
    have eT := hT p
    have eF := hF p
    refine jg H0 Hf3 H3 _ _ p x _ g3.sub E3 rp ?_
    cases ebn : bn p (wipeE env vs) with
    | none =>
      simp only [ebn] at eT
      rw [eT] at h1
      cases h1
    | some e4 =>
      simp only [ebn] at eT eF
      intro σ4 E4 w4
      refine ⟨by rw [w4]; exact wipe_wipe, ?_⟩
      cases et : t e4 with
      | er c fs => rw [eT, et] at h1; cases h1
      | bad => rw [eT, et] at h1; cases h1
      | ok b =>
        rw [et] at eT
        simp only [noE] at eT
        refine jt H0 Hf3 H3 e4 σ4 _ g3.sub E4 (PostG.noE et fun v Hf5 H5 g5 rv => ?_)
        subst rv
        have g15 := (g2.trans g3).trans g5
        have hacc5 := g5.hp _ _ (g3.hp _ _ hacc)
        have n5 := none_up g5 n3 (g3.hp _ _ hacc)
        rw [eT] at h1
        simp only [R.bind_ok] at h1
        cases v with
        | false =>
          rw [if_neg Bool.false_ne_true]
          refine ⟨Hf5, acc, ri, g15, hacc5, n5, ?_, (ra.mono g3.fz).mono g5.fz⟩
          rw [tk, mapFR_app, eri]
          simp [mapFR, eT]
        | true =>
          rw [if_pos rfl]
          simp only [if_true] at h1
          cases ed : d e4 with
          | bad => rw [eF, ed] at h1; cases h1
          | er c fs => rw [eF, ed] at h1; cases h1
          | ok q =>
            rw [ed] at eF
            simp only [noE] at eF
            refine je H0 Hf5 H5 e4 σ4 _ g5.sub (E4.grow g5) (PostG.noE ed fun v Hf6 H6 g6 rv => ?_)
            have hacc6 := g6.hp _ _ hacc5
            have n6 := none_up g6 n5 hacc5
            have ra6 := ((ra.mono g3.fz).mono g5.fz).mono g6.fz
            have g16 := g15.trans g6
            have len : acc.length ≤ l.length := by
              rw [← ra.length]
              exact Nat.le_trans (mapFR_len _ _ _ _ eri) (by rw [List.length_take]; exact Nat.min_le_right _ _)
            refine ⟨acc, hacc6, Nat.lt_of_le_of_lt (Nat.le_trans len hl) (by decide), Hf6, acc ++ [v], ri ++ [q], ⟨g16.fz, fun b o hb => ?_, fun b o hb => ?_, g16.new⟩, upd_same, n6, ?_, ra6.append (.cons rv .nil)⟩
            · rw [upd_ne (ne_of_none hb hD)]
              exact g16.hp _ _ hb
            · rw [upd_ne (ne_of_none hb n6)]
              exact g16.sub _ _ hb
            · rw [tk, mapFR_app, eri]
              simp [mapFR, eT, eF]
  · rintro H2 ⟨Hf2, acc, ri, g2, hacc, hfD, eri, ra⟩
    rw [List.take_length, er] at eri
    cases eri
    exact k D acc Hf2 H2 (g1.trans g2) (none_back g1.hp hD) hfD hacc ra
theorem own_at {env : Env} {i : Nat} {σ : L2.St} {v : V} (E : EnvOk G H0 Hf H env σ) (h : (env.at i).isOwn = true) (e : σ[i]? = some (some v)) : ∃ a o, v = .ref a ∧ H a = some o := by
  have q := E.get i
  rw [e] at q
  cases es : env.at i with
  | own l =>
    rw [es] at q
    obtain ⟨b, vs, eb, _, _, hb, _⟩ := q
    cases eb
    exact ⟨b, _, rfl, hb⟩
  | oob c fs =>
    rw [es] at q
    obtain ⟨b, _, vs, eb, _, _, _, hb, _⟩ := q
    cases eb
    exact ⟨b, _, rfl, hb⟩
  | _ => rw [es] at h; cases h
/-- an own list put into a name: its address was free -/
theorem own_put {a : Addr} {ws : List V} {l : List PV} (E : EnvOk G H0 Hf H env σ) (g : Gr Hf H Hf' H') (h0 : Same H0 H) (na : H a = none) (nf : Hf' a = none) (ha : H' a = some (.lst ws)) (r : Reps G Hf' l ws) : EnvOk G H0 Hf' H' (env.set i (.own l)) (σ.set i (some (.ref a))) :=
  (E.grow g).set ⟨a, ws, rfl, none_back h0 na, nf, ha, r⟩ fun _ j hj ho hq => by
    obtain ⟨b, o, eb, hb⟩ := own_at E ho hq
    cases eb
    rw [na] at hb
    cases hb
theorem js_setLcO {y : Str} {py spos : Pos} {scope : Scope} (i : Nat) (own : List (Str × Nat)) (nd : X.N.Nodup) (hi : JI G X W tg iter dl) (ok : blkC X.N X.env.scope scope own = true)
    (hg : ∀ (s : Shared) (H : Hp) (C : Addr) (cl : List (Str × Addr)) (fp : List Addr), JG G (X.blk s H scope (compEnvC scope cl C X.env) fp) tg bn (own.map (·.2)))
    (ht : ∀ (s : Shared) (H : Hp) (C : Addr) (cl : List (Str × Addr)) (fp : List Addr), JTs G (X.blk s H scope (compEnvC scope cl C X.env) fp) W0 ifs t)
    (he : ∀ (s : Shared) (H : Hp) (C : Addr) (cl : List (Str × Addr)) (fp : List Addr), JE G (X.blk s H scope (compEnvC scope cl C X.env) fp) W0 elt d)
    (hsw : swapsWith (.ListComp elt [⟨tg, iter, ifs, 0⟩] scope pos) (some (.Name y py)) spos.line X.env = pure true) (hy : X.N[i]? = some y := by rfl) (hyl : X.env.scope.names.lookup y = some .local := by rfl)
    (hc : X.calm = true := by rfl) (hs : ∀ x, foldedSetIterable iter X.env x = pure x := by intro _; rfl) : JS G X W (.Assign [.Name y py] (.ListComp elt [⟨tg, iter, ifs, 0⟩] scope pos) spos) (setOF i (lcL (own.map (·.2)) dl bn t d)) := by
  obtain ⟨wi, pi, ji⟩ := hi
  refine ⟨_, ps_setLc hc nd hy hyl hsw pi (blkOk_by ok) (fun s H C cl fp => (hg s H C cl fp).pg) (fun s H C cl fp => (ht s H C cl fp).pts) (fun s H C cl fp => (he s H C cl fp).pe) hs, fun Hf0 H0 Hf H env σ D S h => ?_⟩
  unfold setOF at h
  cases er : lcL (own.map (·.2)) dl bn t d env with
  | ok r =>
    rw [er] at h
    exact rd_lcO ji tjg_of tjt_of tj_of S.gr.sub S.env er fun A acc Hf2 H2 g2 hA fA hacc ra => h _ Hf2 H2 ⟨S.gr.trans g2, own_put S.env g2 S.gr.hp hA fA hacc ra⟩ g2.fz
  | er _ _ => rw [er] at h; exact h.elim
  | bad => rw [er] at h; exact h.elim
end
end J

namespace J
open PySem.Spec PySem PyProof.Rows
open L2 hiding St Takes XE CX takes_of PMk MkP ps_raise mk_of ps_try_as ps_try_many pmk_own passAt passes_call takes0 passL
open L2N hiding St
/-! ### defs that hand back a list of their own -/
def PostO (G : Gb) (Hf H : Hp) (r : R (List PV)) (Q : VK) : Prop := match r with
  | .ok l => ∀ a ws Hf' H', Gr Hf H Hf' H' → H a = none → Hf' a = none → H' a = some (.lst ws) → Reps G Hf' l ws → Q (.ref a) H'
  | _ => False
def spO (G : Gb) (f : List PV → R (List PV)) : Sp := fun vs H Q E => ∃ Hf l, Same Hf H ∧ Reps G Hf l vs ∧ PostO G Hf H (f l) Q
structure JSo (G : Ga) (X : Cx) (W : WX) (st : List Stmt) (d : Env → R (List PV)) : Prop where
  ex : ∃ ts, PSs X st ts ∧ ∀ (Hf0 H0 Hf H : Hp) (env : Env) (σ : L2.St) (D : Ends), StOk G Hf0 H0 Hf H env σ →
    (∀ r, d env = .ok r → ∀ a ws Hf' H', Gr Hf0 H0 Hf' H' → H0 a = none → Hf' a = none → H' a = some (.lst ws) → Reps G Hf' r ws → D.rt (.ref a) H') → (∃ r, d env = .ok r) → ts D σ H
section
variable {G : Ga} {X : Cx} {W : WX} {Hf0 H0 Hf H Hf' H' : Hp} {env : Env} {σ : L2.St} {i : Nat} {x : Str} {pos p1 p2 p3 : Pos} {st : Stmt} {sts : List Stmt} {f : Env → F} {d : Env → R (List PV)}
def retO (i : Nat) (env : Env) : R (List PV) := match env.at i with | .own l => .ok l | _ => .bad
def seqO (f : Env → F) (g : Env → R (List PV)) (env : Env) : R (List PV) := match f env with | .nx e => g e | _ => .bad
theorem jso_ret (i : Nat) (hi : X.N[i]? = some x := by rfl) (hv : Vis X.env.scope x := by first | exact Or.inl rfl | exact Or.inr (Or.inl rfl) | exact Or.inr (Or.inr rfl)) (hd : (x == ("__debug__" : Str)) = false := by decide) (hcd : (x == ("__classdict__" : Str)) = false := by decide) :
    JSo G X W [.Return (some (.Name x p1)) pos] (retO i) := by
  refine ⟨_, pss_one (ps_ret (pe_var hi hv hd hcd)), fun Hf0 H0 Hf H env σ D S k ⟨r, er⟩ => ?_⟩
  unfold retO at er k
  have q := S.env.get i
  cases el : env.at i with
  | own l =>
    rw [el] at q er k
    cases er
    obtain ⟨a, ws, ea, a0, af, ah, rr⟩ := q
    exact ⟨.ref a, ea, k _ rfl a ws Hf H S.gr a0 af ah rr⟩
  | _ => rw [el] at er; cases er
theorem jso_cons (h : JS G X W st f) (k : JSo G X W sts d) : JSo G X W (st :: sts) (seqO f d) := by
  obtain ⟨t, pt, jt⟩ := h
  obtain ⟨u, pu, ju⟩ := k
  refine ⟨_, pss_cons pt pu, fun Hf0 H0 Hf H env σ D S k ⟨r, er⟩ => jt Hf0 H0 Hf H env σ _ S ?_⟩
  unfold seqO at er k
  cases e : f env with
  | nx e' =>
    rw [e] at er k
    exact fun σ' Hf' H' S' s' => ju Hf0 H0 Hf' H' e' σ' D S' k ⟨r, er⟩
  | _ => rw [e] at er; cases er
def fnO (np nn : Nat) (d : Env → R (List PV)) (l : List PV) : R (List PV) := if l.length = np then d (env0 nn l) else .bad
theorem bodyO {X : Cx} {E : XK} {sts : List Stmt} {d : Env → R (List PV)} {N ps : List Str} {vs : List V} {Q : VK} {G : Gb} (h : JSo ⟨G, none, none⟩ X (WD E) sts d) (q : spO G (fnO ps.length N.length d) vs H Q E) :
    ∃ t, PSs X sts t ∧ t { nx := fun _ H' => Q .non H', rt := Q } (L2.start N vs) H := by
  obtain ⟨t, pt, jt⟩ := h
  obtain ⟨Hf, l, s, r, q⟩ := q
  unfold fnO at q
  by_cases hl : l.length = ps.length
  · rw [if_pos hl] at q
    refine ⟨t, pt, jt Hf H Hf H _ _ _ ⟨Gr.refl s, env0_ok (N := N) r⟩ (fun r er a ws Hf' H' g h0 hf ha rr => ?_) ?_⟩
    · rw [er] at q
      exact q a ws Hf' H' g h0 hf ha rr
    · cases e : d (env0 N.length l) with
      | ok r => exact ⟨r, rfl⟩
      | er _ _ => rw [e] at q; exact q.elim
      | bad => rw [e] at q; exact q.elim
  · rw [if_neg hl] at q
    exact q.elim
theorem jdefO {P : Program} {w : World} {K : PySem.W.Frag} {mg : Str → Option Value} {base : Heap} {G : Gb} {x : Str} {st : Stmt} {ps N : List Str} {k : Nat} {d : Env → R (List PV)} (F : Bp.GFun K mg x st ps) (S : FnScope N ps (defScope st))
    (h : ∀ (f : Addr) (cdv : Value) (A : Around) (outer : List PySem.Env) (s : Shared) (H : Hp) (E : XK), Room k (A.deeper (envOfC x (defScope st) s.heap.objs.size f cdv)) → JSo ⟨G, none, none⟩ (cxOf (L2N.CX P w) P w K mg base N x (defScope st) f cdv A outer s H E) (WD E) (defBody st) d) :
    Bp.Def P w K mg base (k + 1) x ps (spO G (fnO ps.length N.length d)) := F.ok S (fun vs H Q E ⟨Hf, l, s, r, q⟩ => by
      unfold fnO at q
      by_cases hl : l.length = ps.length
      · rw [← r.length, hl]
      · rw [if_neg hl] at q
        exact q.elim) fun f cdv A outer s H vs Q E hr q => bodyO (h f cdv A outer s H E hr) q
/-! expressions whose value is such a list -/
structure JEO (G : Ga) (X : Cx) (e : Expr) (d : Env → R (List PV)) : Prop where
  ex : ∃ te, PE X e te ∧ ∀ (H0 Hf H : Hp) (env : Env) (σ : L2.St) (Q : VK), Same Hf H → EnvOk G H0 Hf H env σ → PostO G Hf H (d env) Q → te σ H Q
def teO (G : Ga) (d : Env → R (List PV)) : TE := fun σ H Q => ∃ H0 Hf env, Same Hf H ∧ EnvOk G H0 Hf H env σ ∧ PostO G Hf H (d env) Q
theorem JEO.pe {e : Expr} (h : JEO G X e d) : PE X e (teO G d) := let ⟨te, pe, je⟩ := h.ex; ⟨fun pins s σ H Q I ⟨H0, Hf, env, sb, E, k⟩ => pe.run pins s σ H Q I (je H0 Hf H env σ Q sb E k)⟩
def callO (f : List PV → R (List PV)) (dl : Env → R (List PV)) (env : Env) : R (List PV) := match dl env with | .ok l => f l | _ => .bad
theorem je_callO {k : Nat} {ps : List Str} {f : List PV → R (List PV)} {e : Expr} {es : List Expr} {p0 : Pos} {dl : Env → R (List PV)} (D : Bp.Def X.prog X.w X.K X.mg X.base k x ps (spO G f)) (hr : Room k X.A) (tk : Takes X W) (ha : JA G X W (e :: es) dl) (hg : Gl X x := by rfl) (hdb : (x == ("__debug__" : Str)) = false := by decide)
    (he : starEach (e :: es) X.env = (false, eval e X.env) :: starEach es X.env := by rfl) (hpl : (backTo pos (starEach es X.env)).any (·.1) = false := by rfl) : JEO G X (.Call (.Name x p0) (e :: es) [] pos) (callO f dl) := by
  obtain ⟨t, pt, jt⟩ := ha
  refine ⟨_, Bp.pe_callD D hr tk pt hg hdb he hpl, fun H0 Hf H env σ Q s E h => ?_⟩
  unfold callO at h
  cases el : dl env with
  | ok l =>
    rw [el] at h
    simp only at h
    refine jt H0 Hf H env σ _ s E (PostG.noE el fun vs Hf1 H1 g1 r1 => ⟨Hf1, l, g1.sub, r1, ?_⟩)
    cases e : f l with
    | ok r => rw [e] at h; exact fun a ws Hf' H' g na nf ha rr => h a ws Hf' H' (g1.trans g) (none_back g1.hp na) nf ha rr
    | er _ _ => rw [e] at h; exact h.elim
    | bad => rw [e] at h; exact h.elim
  | er _ _ => rw [el] at h; exact h.elim
  | bad => rw [el] at h; exact h.elim
end
/-! ### several lists of one's own in a list -/
structure OwnL (G : Gb) (H1 Hf H : Hp) (D : Addr) (ls : List (List PV)) (vs : List V) : Prop where
  ex : ∃ as : List Addr, vs = as.map V.ref ∧ as.Nodup ∧ as.length = ls.length ∧ ∀ (k : Nat) (l : List PV) (a : Addr), ls[k]? = some l → as[k]? = some a → H1 a = none ∧ Hf a = none ∧ a ≠ D ∧ ∃ ws, H a = some (.lst ws) ∧ Reps G Hf l ws
section
variable {G : Gb} {H1 Hf H Hf' H' : Hp} {D : Addr} {ls : List (List PV)} {vs : List V}
theorem OwnL.grow (h : OwnL G H1 Hf H D ls vs) (g : Gr Hf H Hf' H') : OwnL G H1 Hf' H' D ls vs := by
  obtain ⟨as, e, nd, hl, k⟩ := h
  refine ⟨as, e, nd, hl, fun i l a h1 h2 => ?_⟩
  obtain ⟨n1, nf, ne, ws, ha, r⟩ := k i l a h1 h2
  exact ⟨n1, none_up g nf ha, ne, ws, g.hp _ _ ha, r.mono g.fz⟩
theorem OwnL.all (h : OwnL G H1 Hf H D ls vs) : ∀ v ∈ vs, ∃ a ws, v = .ref a ∧ H1 a = none ∧ Hf a = none ∧ a ≠ D ∧ H a = some (.lst ws) := by
  obtain ⟨as, rfl, nd, hl, k⟩ := h
  intro v hv
  obtain ⟨a, ha, rfl⟩ := List.mem_map.mp hv
  obtain ⟨i, hi⟩ := List.getElem?_of_mem ha
  have hlt : i < ls.length := by
    rw [← hl]
    rcases Nat.lt_or_ge i as.length with z | z
    · exact z
    · rw [List.getElem?_eq_none z] at hi; cases hi
  obtain ⟨n1, nf, ne, ws, ha, _⟩ := k i _ a (List.getElem?_eq_getElem hlt) hi
  exact ⟨a, ws, rfl, n1, nf, ne, ha⟩
theorem OwnL.snoc {l : List PV} {a : Addr} {ws : List V} (h : OwnL G H1 Hf H D ls vs) (n1 : H1 a = none) (ng : ∀ b ws, H b = some (.lst ws) → H1 b = none → Hf b = none → V.ref b ∈ vs → b ≠ a) (nf : Hf a = none) (ne : a ≠ D) (ha : H a = some (.lst ws)) (r : Reps G Hf l ws) : OwnL G H1 Hf H D (ls ++ [l]) (vs ++ [.ref a]) := by
  have al := h.all
  obtain ⟨as, rfl, nd, hl, k⟩ := h
  refine ⟨as ++ [a], by simp, ?_, by simp [hl], fun i m b h1 h2 => ?_⟩
  · rw [List.nodup_append]
    refine ⟨nd, by simp, fun x hx y hy => ?_⟩
    rw [List.mem_singleton] at hy
    subst hy
    have hm : V.ref x ∈ as.map V.ref := List.mem_map.mpr ⟨x, hx, rfl⟩
    obtain ⟨x', ws', e, q1, q2, _, q4⟩ := al _ hm
    cases e
    exact ng x ws' q4 q1 q2 hm
  · by_cases hi : i < ls.length
    · rw [List.getElem?_append_left hi] at h1
      rw [List.getElem?_append_left (by omega)] at h2
      exact k i m b h1 h2
    · rw [List.getElem?_append_right (by omega)] at h1
      rw [List.getElem?_append_right (by omega)] at h2
      rw [hl] at h2
      cases e : i - ls.length with
      | zero =>
        rw [e] at h1 h2
        cases h1
        cases h2
        exact ⟨n1, nf, ne, ws, ha, r⟩
      | succ n => rw [e] at h1; cases h1
end
def mapO (f : PV → R (List PV)) : List PV → R (List (List PV))
  | [] => .ok []
  | p :: l => (f p).bind fun q => (mapO f l).bind fun r => .ok (q :: r)
theorem mapO_app (f : PV → R (List PV)) : ∀ (l m : List PV), mapO f (l ++ m) = (mapO f l).bind fun r => (mapO f m).bind fun r' => .ok (r ++ r')
  | [], m => by
    simp only [List.nil_append, mapO, R.bind_ok]
    cases mapO f m <;> rfl
  | p :: l, m => by
    simp only [List.cons_append, mapO]
    cases f p with
    | ok q =>
      simp only [R.bind_ok, mapO_app f l m, R.bind_assoc]
      cases mapO f l with
      | ok r =>
        simp only [R.bind_ok]
        cases mapO f m <;> rfl
      | er c fs => rfl
      | bad => rfl
    | er c fs => rfl
    | bad => rfl
theorem mapO_len (f : PV → R (List PV)) : ∀ (l : List PV) (r : List (List PV)), mapO f l = .ok r → r.length = l.length
  | [], r, h => by cases h; rfl
  | a :: m, r, h => by
    simp only [mapO] at h
    cases ef : f a with
    | ok q =>
      rw [ef] at h
      simp only [R.bind_ok] at h
      cases em : mapO f m with
      | ok r' => rw [em] at h; cases h; simp [mapO_len f m _ em]
      | er _ _ => rw [em] at h; cases h
      | bad => rw [em] at h; cases h
    | er _ _ => rw [ef] at h; cases h
    | bad => rw [ef] at h; cases h
section
variable {G : Ga} {X : Cx} {W : WX} {Hf0 H0 Hf H Hf' H' : Hp} {env : Env} {σ : L2.St} {dl : Env → R (List PV)} {dO : Env → R (List PV)} {vs : List Nat} {bn : Bnd}
def lcOO (vs : List Nat) (di : Env → R (List PV)) (bn : Bnd) (dO : Env → R (List PV)) (env : Env) : R (List (List PV)) := (di env).bind fun l => if l.length ≤ 1000 then
  mapO (fun p => match bn p (wipeE env vs) with | some e => dO e | none => .bad) l else .bad
/-- [f(..) for x in xs], each f(..) a new list -/
theorem rd_lcOO {wi : TI} {g : TG} {ls : List (List PV)} {Q : VK} (ji : TJI G W wi dl) (jg : TJG G g bn vs) (s : Same Hf H) (E : EnvOk G H0 Hf H env σ) (er : lcOO vs dl bn dO env = .ok ls)
    (k : ∀ D acc Hf2 H2, Gr Hf H Hf2 H2 → H D = none → Hf2 D = none → H2 D = some (.lst acc) → OwnL G H Hf2 H2 D ls acc → Q (.ref D) H2) : tLc wi g tYes (teO G dO) vs σ H Q := by
  unfold lcOO at er
  cases edl : dl env with
  | er _ _ => rw [edl] at er; cases er
  | bad => rw [edl] at er; cases er
  | ok l =>
  rw [edl] at er
  simp only [R.bind_ok] at er
  by_cases hl : l.length ≤ 1000
  case neg => rw [if_neg hl] at er; cases er
  rw [if_pos hl] at er
  refine ji H0 Hf H env σ _ s E (PostG.noE edl fun Jt Hf1 H1 g1 ⟨GG, Y, w, hG, hY⟩ => ?_)
  intro D hD
  have nf1 := none_back g1.sub hD
  have nD : H D = none := none_back g1.hp hD
  generalize hF : (fun p => match bn p (wipeE env vs) with | some e => dO e | none => R.bad) = F at er
  have hF : ∀ p, F p = (match bn p (wipeE env vs) with | some e => dO e | none => R.bad) := fun p => by rw [← hF]
  refine lc_it w (fun i H2 => ∃ Hf2 acc ri, Gr Hf1 H1 Hf2 H2 ∧ H2 D = some (.lst acc) ∧ Hf2 D = none ∧ mapO F (l.take i) = .ok ri ∧ acc.length = ri.length ∧ OwnL G H1 Hf2 H2 D ri acc)
    ⟨Hf1, [], [], Gr.up g1.sub (Same.new hD), upd_same, nf1, rfl, rfl, ⟨[], rfl, List.nodup_nil, rfl, fun k l a h => by simp at h⟩⟩ (fun i H2 _ ⟨Hf2, _, _, g2, _⟩ => hG Hf2 H2 g2.fz g2.sub) ?_ ?_
  · rintro i x H2 H3 hi ⟨Hf2, acc, ri, g2, hacc, hfD, eri, hlen, ra⟩ y
    obtain ⟨Hf3, g3, p, ep, rp⟩ := hY i Hf2 H2 x H3 hi g2.fz g2.sub y
    have tk : l.take (i + 1) = l.take i ++ [p] := by
      rw [List.take_succ, ep]
      rfl
    have whole : l = l.take i ++ (p :: l.drop (i + 1)) := by rw [← List.singleton_append, ← List.append_assoc, ← tk, List.take_append_drop]
    have E3 : EnvOk G H0 Hf3 H3 (wipeE env vs) (wipe σ vs) := (((E.grow g1).grow g2).grow g3).wipe vs
    have n3 := none_up g3 hfD hacc
    have hacc3 := g3.hp _ _ hacc
    have h1 := er
    rw [whole, mapO_app, eri, R.bind_ok] at h1
    simp only [mapO] at h1
    have eF := hF p
    refine jg H0 Hf3 H3 _ _ p x _ g3.sub E3 rp ?_
    cases ebn : bn p (wipeE env vs) with
    | none =>
      simp only [ebn] at eF
      rw [eF] at h1
      cases h1
    | some e4 =>
      simp only [ebn] at eF
      intro σ4 E4 w4
      refine ⟨by rw [w4]; exact wipe_wipe, ?_⟩
      unfold tYes
      dsimp only
      rw [if_pos rfl]
      refine ⟨H0, Hf3, e4, g3.sub, E4, ?_⟩
      cases ed : dO e4 with
      | bad => rw [eF, ed] at h1; cases h1
      | er c fs => rw [eF, ed] at h1; cases h1
      | ok q =>
        rw [ed] at eF
        intro a ws Hf6 H6 g6 na nf ha rr
        have hacc6 := g6.hp _ _ hacc3
        have n6 := none_up g6 n3 hacc3
        have g16 := (g2.trans g3).trans g6
        have ra6 := (ra.grow g3).grow g6
        have naD : a ≠ D := fun z => by subst z; rw [hacc3] at na; cases na
        have len : acc.length ≤ l.length := by
          rw [hlen, mapO_len _ _ _ eri, List.length_take]
          exact Nat.min_le_right _ _
        have low : Gr Hf1 H1 Hf6 (upd H6 D (.lst (acc ++ [V.ref a]))) := ⟨g16.fz, fun b o hb => by rw [upd_ne (ne_of_none hb hD)]; exact g16.hp _ _ hb, fun b o hb => by rw [upd_ne (ne_of_none hb n6)]; exact g16.sub _ _ hb, g16.new⟩
        have n1 : H1 a = none := none_back (g2.trans g3).hp na
        have mv : OwnL G H1 Hf6 (upd H6 D (.lst (acc ++ [V.ref a]))) D ri acc := by
          obtain ⟨as, e, nd, hl, k⟩ := ra6
          refine ⟨as, e, nd, hl, fun i l b h1 h2 => ?_⟩
          obtain ⟨k1, k2, k3, us, k4, k5⟩ := k i l b h1 h2
          exact ⟨k1, k2, k3, us, by rw [upd_ne k3]; exact k4, k5⟩
        refine ⟨acc, hacc6, Nat.lt_of_le_of_lt (Nat.le_trans len hl) (by decide), Hf6, acc ++ [.ref a], ri ++ [q], low, upd_same, n6, ?_, by simp [hlen], mv.snoc n1 (fun b us hb hb1 hbf hm z => ?_) nf naD (by rw [upd_ne naD]; exact ha) rr⟩
        · rw [tk, mapO_app, eri]
          simp [mapO, eF]
        · subst z
          obtain ⟨b', us', e, _, _, _, q5⟩ := (ra.grow g3).all _ hm
          cases e
          rw [na] at q5
          cases q5
  · rintro H2 ⟨Hf2, acc, ri, g2, hacc, hfD, eri, hlen, ra⟩
    rw [List.take_length, er] at eri
    cases eri
    refine k D acc Hf2 H2 (g1.trans g2) nD hfD hacc ?_
    obtain ⟨as, e, nd, hl, kk⟩ := ra
    exact ⟨as, e, nd, hl, fun i l a h1 h2 => let ⟨q1, q2⟩ := kk i l a h1 h2; ⟨none_back g1.hp q1, q2⟩⟩
end
end J

namespace J
open PySem.Spec PySem PyProof.Rows
open L2 hiding St Takes XE CX takes_of PMk MkP ps_raise mk_of ps_try_as ps_try_many pmk_own passAt passes_call takes0 passL
open L2N hiding St
/-! ### values without lists; lists of one's own thawed -/
mutual
def noL : PV → Bool
  | .lst _ => false
  | .tup l => noLs l
  | .obj _ fs => noLf fs
  | _ => true
def noLs : List PV → Bool
  | [] => true
  | p :: l => noL p && noLs l
def noLf : List (Str × PV) → Bool
  | [] => true
  | (_, p) :: l => noL p && noLf l
end
section
variable {G : Gb} {Hf Hg : Hp}
mutual
theorem Rep.thaw (k : ∀ b o, Hf b = some o → (∀ ws, o ≠ .lst ws) → Hg b = some o) : ∀ {p : PV} {v : V}, Rep G Hf p v → noL p = true → Rep G Hg p v
  | _, _, .non, _ => .non
  | _, _, .bl b, _ => .bl b
  | _, _, .int i, _ => .int i
  | _, _, .str x, _ => .str x
  | _, _, .fr h, _ => .fr (k _ _ h fun _ z => nomatch z)
  | _, _, .tup h r, n => .tup (by
      rcases h with (z | ⟨o, z⟩) | c
      · exact .inl (.inl (k _ _ z fun _ z => nomatch z))
      · exact .inl (.inr ⟨o, k _ _ z fun _ z => nomatch z⟩)
      · exact .inr c) (Reps.thaw k r (by unfold noL at n; exact n))
  | _, _, .lst h r, n => by unfold noL at n; cases n
  | _, _, .obj h r, n => .obj (k _ _ h fun _ z => nomatch z) (RepF.thaw k r (by unfold noL at n; exact n))
  | _, _, .cls c, _ => .cls c
  | _, _, .typ n, _ => .typ n
theorem Reps.thaw (k : ∀ b o, Hf b = some o → (∀ ws, o ≠ .lst ws) → Hg b = some o) : ∀ {l : List PV} {vs : List V}, Reps G Hf l vs → noLs l = true → Reps G Hg l vs
  | _, _, .nil, _ => .nil
  | _, _, .cons h r, n => by
    unfold noLs at n
    rw [Bool.and_eq_true] at n
    exact .cons (Rep.thaw k h n.1) (Reps.thaw k r n.2)
theorem RepF.thaw (k : ∀ b o, Hf b = some o → (∀ ws, o ≠ .lst ws) → Hg b = some o) : ∀ {l : List (Str × PV)} {vs : List (Str × V)}, RepF G Hf l vs → noLf l = true → RepF G Hg l vs
  | _, _, .nil, _ => .nil
  | _, _, .cons h r, n => by
    unfold noLf at n
    rw [Bool.and_eq_true] at n
    exact .cons (Rep.thaw k h n.1) (RepF.thaw k r n.2)
end
theorem reps_get : ∀ {l : List PV} {vs : List V}, l.length = vs.length → (∀ (i : Nat) p v, l[i]? = some p → vs[i]? = some v → Rep G Hf p v) → Reps G Hf l vs
  | [], [], _, _ => .nil
  | p :: l, v :: vs, h, k => .cons (k 0 p v rfl rfl) (reps_get (by simpa using h) fun i q w h1 h2 => k (i + 1) q w h1 h2)
  | [], _ :: _, h, _ => by simp at h
  | _ :: _, [], h, _ => by simp at h
end
section
variable {G : Ga} {X : Cx} {W : WX} {Hf0 H0 Hf H Hf' H' : Hp} {env : Env} {σ : L2.St}
theorem at0 {α : Type} (x : α) (l : List α) : atI (x :: l) 0 = some x := by
  unfold atI ixN
  rw [if_pos (by omega), if_pos (by simp)]
  rfl
theorem at2 {α : Type} (x y z : α) (l : List α) : atI (x :: y :: z :: l) 2 = some z := by
  unfold atI ixN
  rw [if_pos (by omega), if_pos (by simp; omega)]
  rfl
/-- a list that is no slot's changes -/
theorem EnvOk.away {a : Addr} {ws us : List V} (E : EnvOk G H0 Hf H env σ) (nf : Hf a = none) (ha : H a = some (.lst ws)) (no : ∀ j, (env.at j).isOwn = true → σ[j]? ≠ some (some (.ref a))) : EnvOk G H0 Hf (L2.upd H a (.lst us)) env σ := by
  refine ⟨E.len, fun j => ?_, E.dis⟩
  have q := E.get j
  have nj := no j
  cases ej : env.at j with
  | no => trivial
  | val p => rw [ej] at q; exact q
  | own m =>
    rw [ej] at q nj
    obtain ⟨b, vs, eb, b0, bf, bh, rr⟩ := q
    exact ⟨b, vs, eb, b0, bf, by rw [upd_ne (fun z => nj rfl (by rw [eb, z]))]; exact bh, rr⟩
  | oob c fs =>
    rw [ej] at q nj
    obtain ⟨b, dx, vs, eb, z, b0, bf, bh, rr⟩ := q
    exact ⟨b, dx, vs, eb, z, b0, bf, by rw [upd_ne (fun z => nj rfl (by rw [eb, z]))]; exact bh, rr⟩
  | slf c fs => rw [ej] at q; exact q
  | exc c fs =>
    rw [ej] at q
    obtain ⟨b, d, eb, xi, rr⟩ := q
    refine ⟨b, d, eb, xi, ?_⟩
    cases fs with
    | nil => exact rr
    | cons u us =>
      obtain ⟨x, vfs, e1, e2, e3⟩ := rr
      refine ⟨x, vfs, e1, ?_, e3⟩
      rw [upd_ne (fun z => by rw [z, ha] at e2; cases e2)]
      exact e2
theorem EnvOk.setNo {i : Nat} {v : V} (E : EnvOk G H0 Hf H env σ) : EnvOk G H0 Hf H (env.set i .no) (σ.set i (some v)) := E.set trivial fun z => nomatch z
/-- ys = [f(..) for x in xs]; zs = [.. of ys ..]; ys[0][0] = n; ys[2].append(m) -/
def givF (iy iz : Nat) (d1 : Env → R (List (List PV))) (d2 : Env → R (List PV)) (f : Env → F) (env : Env) : F := match d1 env with
  | .ok (l0 :: l1 :: l2 :: ls) => (match d2 (env.set iy (.val (.lst ((l0 :: l1 :: l2 :: ls).map PV.lst)))) with
    | .ok ts => if iy < env.length ∧ l0 ≠ [] ∧ l2.length < 1000 ∧ ts.length ≤ 1000 ∧ noLs ts = true then f ((env.set iy .no).set iz (.own ts)) else .bad
    | _ => .bad)
  | _ => .bad
theorem jss_given {y z : Str} {py pz spos pos pos2 pl q1 q2 q3 q4 q5 q6 q7 r1 r2 r3 r4 r5 r6 r7 : Pos} {j1 j2 j3 j4 j5} {n m : Int} {scope : Scope} {elt tg iter : Expr} {es : List Expr} {rest : List Stmt} {bn : Bnd} {dl d2 : Env → R (List PV)} {dO : Env → R (List PV)} {f : Env → F}
    (iy iz : Nat) (ne : iy ≠ iz) (own : List (Str × Nat)) (nd : X.N.Nodup) (hK : X.K = G.K) (hi : JI G X W tg iter dl) (ok : blkC X.N X.env.scope scope own = true)
    (hg : ∀ (s : Shared) (H : Hp) (C : Addr) (cl : List (Str × Addr)) (fp : List Addr), JG G (X.blk s H scope (compEnvC scope cl C X.env) fp) tg bn (own.map (·.2)))
    (he : ∀ (s : Shared) (H : Hp) (C : Addr) (cl : List (Str × Addr)) (fp : List Addr), JEO G (X.blk s H scope (compEnvC scope cl C X.env) fp) elt dO)
    (ha : JA G X W es d2) (hr : JSs G X W rest f)
    (hsw : swapsWith (.ListComp elt [⟨tg, iter, [], 0⟩] scope pos) (some (.Name y py)) spos.line X.env = pure true) (hy : X.N[iy]? = some y := by rfl) (hyl : X.env.scope.names.lookup y = some .local := by rfl)
    (hz : X.N[iz]? = some z := by rfl) (hzx : Loc X.env.scope z := by first | exact Or.inl rfl | exact Or.inr rfl) (hzf : X.fn z = true ∨ X.env.scope.names.lookup z = some .local := by first | exact .inl rfl | exact .inr rfl)
    (hzs : swapsWith (.List es pl) (some (.Name z pz)) pos2.line X.env = pure false := by rfl)
    (hdy : (y == ("__debug__" : Str)) = false := by decide) (hcy : (y == ("__classdict__" : Str)) = false := by decide)
    (hs3 : swapsWithSole [.Subscript (.Subscript (.Name y q1) (.Constant (.int 0) j1 q2) q3) (.Constant (.int 0) j2 q4) q5] (.Constant (.int n) j3 q6) q7.line X.env = pure false := by rfl)
    (hw3 : swappedStores [.Subscript (.Subscript (.Name y q1) (.Constant (.int 0) j1 q2) q3) (.Constant (.int 0) j2 q4) q5] (.Constant (.int n) j3 q6) X.env = pure none := by rfl)
    (h13 : (assignEach [.Subscript (.Subscript (.Name y q1) (.Constant (.int 0) j1 q2) q3) (.Constant (.int 0) j2 q4) q5] X.env).map (·.2) = [assign (.Subscript (.Subscript (.Name y q1) (.Constant (.int 0) j1 q2) q3) (.Constant (.int 0) j2 q4) q5) X.env] := by rfl)
    (ha3 : ∀ v, assign (.Subscript (.Subscript (.Name y q1) (.Constant (.int 0) j1 q2) q3) (.Constant (.int 0) j2 q4) q5) X.env v = (do
      let ov ← holding [v] (eval (.Subscript (.Name y q1) (.Constant (.int 0) j1 q2) q3) X.env)
      let iv ← holding [v, ov] (eval (.Constant (.int 0) j2 q4) X.env)
      standAt q5
      holding [v, ov, iv] (setItem ov iv v)
      release [v, ov, iv] []) := by intro _; rfl)
    (hp1 : PlainIx (.Constant (.int 0) j1 q2) := by exact fun _ _ => rfl) (hp2 : PlainIx (.Constant (.int 2) j4 r2) := by exact fun _ _ => rfl)
    (hbase : attributeBase (.Subscript (.Name y r1) (.Constant (.int 2) j4 r2) r3) "append" X.env (eval (.Subscript (.Name y r1) (.Constant (.int 2) j4 r2) r3) X.env) = eval (.Subscript (.Name y r1) (.Constant (.int 2) j4 r2) r3) X.env := by rfl)
    (hfew : ((backTo r6 (starEach [.Constant (.int m) j5 r5] X.env)).all (fun x => !x.1) && (backToKw r6 (keywordEach [] X.env)).all (fun x => x.1.isSome) && decide ([Expr.Constant (.int m) j5 r5].length + ([] : List Keyword).length + (if ([] : List Keyword).isEmpty then 0 else 1) < 30)) = true := by rfl)
    (hline : (r4.endLine == r6.line) = true := by rfl) (hst : starEach [.Constant (.int m) j5 r5] X.env = (false, eval (.Constant (.int m) j5 r5) X.env) :: starEach [] X.env := by rfl) (hplain : (backTo r6 (starEach [] X.env)).any (·.1) = false := by rfl)
    (hs4 : swapsWith (.Call (.Attribute (.Subscript (.Name y r1) (.Constant (.int 2) j4 r2) r3) "append" r4) [.Constant (.int m) j5 r5] [] r6) none r7.line X.env = pure false := by rfl)
    (hc : X.calm = true := by rfl) (hs : ∀ x, foldedSetIterable iter X.env x = pure x := by intro _; rfl) :
    JSs G X W (.Assign [.Name y py] (.ListComp elt [⟨tg, iter, [], 0⟩] scope pos) spos :: .Assign [.Name z pz] (.List es pl) pos2 :: .Assign [.Subscript (.Subscript (.Name y q1) (.Constant (.int 0) j1 q2) q3) (.Constant (.int 0) j2 q4) q5] (.Constant (.int n) j3 q6) q7 ::
      .Expr (.Call (.Attribute (.Subscript (.Name y r1) (.Constant (.int 2) j4 r2) r3) "append" r4) [.Constant (.int m) j5 r5] [] r6) r7 :: rest) (givF iy iz (lcOO (own.map (·.2)) dl bn dO) d2 f) := by
  obtain ⟨wi, pi, ji⟩ := hi
  obtain ⟨ta, pa, ja⟩ := ha
  obtain ⟨tr, pr, jr⟩ := hr
  have vy : Vis X.env.scope y := .inl hyl
  have pv : ∀ {p : Pos}, PE X (.Name y p) (tVar iy) := fun {p} => pe_var hy vy hdy hcy
  refine ⟨_, pss_cons (ps_setLc hc nd hy hyl hsw pi (blkOk_by ok) (fun s H C cl fp => (hg s H C cl fp).pg) (fun s H C cl fp => pts_nil) (fun s H C cl fp => (he s H C cl fp).pe) hs)
    (pss_cons (ps_set nd hz hzx (pe_lst pa) hzs hzf)
    (pss_cons (ps_asg pe_int (pg_sub (pe_ix ix_seq pv pe_int hp1) pe_int set_list ha3) hs3 hw3 h13)
    (pss_cons (ps_expr (pe_bm PySem.F.plainAttrs_list PySem.F.slot_list_append PySem.F.type_list_append mt_append (pe_ix ix_seq pv pe_int hp2) (pa_cons pe_int pa_nil hst) hbase hfew hline hst hplain) hs4) pr))), fun Hf0 H0 Hf H env σ D S h => ?_⟩
  unfold givF at h
  cases er : lcOO (own.map (·.2)) dl bn dO env with
  | er _ _ => rw [er] at h; exact h.elim
  | bad => rw [er] at h; exact h.elim
  | ok ls =>
  rw [er] at h
  match ls, er, h with
  | l0 :: l1 :: l2 :: ls, er, h =>
  simp only at h
  show tLc wi (tgOf G bn (own.map (·.2))) tYes (teO G dO) (own.map (·.2)) σ H (fun x H1 => tAsg (tLst ta) (gName iz) _ (σ.set iy (some x)) H1)
  refine rd_lcOO ji tjg_of S.gr.sub S.env er fun A acc Hf1 H1 g1 nA fA hacc O => ?_
  have al := O.all
  have O' := O
  obtain ⟨as, eac, ndp, hlen, kk⟩ := O'
  -- the lists frozen
  have inA : ∀ b, (V.ref b = .ref A ∨ V.ref b ∈ acc) → H b = none ∧ Hf1 b = none ∧ ∃ ws, H1 b = some (.lst ws) := fun b hb => by
    rcases hb with z | z
    · cases z; exact ⟨nA, fA, _, hacc⟩
    · obtain ⟨a, ws, e, q1, q2, _, q4⟩ := al _ z
      cases e
      exact ⟨q1, q2, ws, q4⟩
  obtain ⟨Hp1, hin, hout⟩ : ∃ Hp1 : Hp, (∀ b, (V.ref b = .ref A ∨ V.ref b ∈ acc) → Hp1 b = H1 b) ∧ ∀ b, ¬ (V.ref b = .ref A ∨ V.ref b ∈ acc) → Hp1 b = Hf1 b :=
    open Classical in ⟨fun b => if V.ref b = .ref A ∨ V.ref b ∈ acc then H1 b else Hf1 b, fun b hb => if_pos hb, fun b hb => if_neg hb⟩
  have sf1 : Same Hf1 Hp1 := fun b o hb => by
    by_cases z : V.ref b = .ref A ∨ V.ref b ∈ acc
    · rw [(inA b z).2.1] at hb; cases hb
    · rw [hout b z]; exact hb
  have gp : Gr Hf H Hp1 H1 := ⟨g1.fz.trans sf1, g1.hp, fun b o hb => by
    by_cases z : V.ref b = .ref A ∨ V.ref b ∈ acc
    · rw [hin b z] at hb; exact hb
    · rw [hout b z] at hb; exact g1.sub _ _ hb, fun b o hb => by
    by_cases z : V.ref b = .ref A ∨ V.ref b ∈ acc
    · exact .inr (inA b z).1
    · rw [hout b z] at hb; exact g1.new _ _ hb⟩
  have rA : Rep G Hp1 (.lst ((l0 :: l1 :: l2 :: ls).map PV.lst)) (.ref A) := .lst (SqL.of (by rw [hin A (.inl rfl)]; exact hacc)) (reps_get (by rw [eac, List.length_map, List.length_map, hlen]) fun i p v h1 h2 => by
    rw [List.getElem?_map] at h1
    rw [eac, List.getElem?_map] at h2
    cases e1 : (l0 :: l1 :: l2 :: ls)[i]? with
    | none => rw [e1] at h1; cases h1
    | some l =>
      cases e2 : as[i]? with
      | none => rw [e2] at h2; cases h2
      | some a =>
        rw [e1] at h1
        rw [e2] at h2
        cases h1
        cases h2
        obtain ⟨_, _, _, ws, hw, rw'⟩ := kk i l a e1 e2
        have hm : V.ref a ∈ acc := by rw [eac]; exact List.mem_map.mpr ⟨a, List.mem_of_getElem? e2, rfl⟩
        exact .lst (SqL.of (by rw [hin a (.inr hm)]; exact hw)) (rw'.mono sf1))
  have E1 : EnvOk G H0 Hp1 H1 (env.set iy (.val (.lst ((l0 :: l1 :: l2 :: ls).map PV.lst)))) (σ.set iy (some (.ref A))) := (S.env.grow gp).setV rA
  cases et : d2 (env.set iy (.val (.lst ((l0 :: l1 :: l2 :: ls).map PV.lst)))) with
  | er _ _ => rw [et] at h; exact h.elim
  | bad => rw [et] at h; exact h.elim
  | ok ts =>
  rw [et] at h
  simp only at h
  by_cases hcnd : iy < env.length ∧ l0 ≠ [] ∧ l2.length < 1000 ∧ ts.length ≤ 1000 ∧ noLs ts = true
  case neg => rw [if_neg hcnd] at h; exact h.elim
  rw [if_pos hcnd] at h
  obtain ⟨cl, c0, c2, c3, c4⟩ := hcnd
  refine ja H0 Hp1 H1 _ _ _ gp.sub E1 (PostG.noE et fun vs2 Hf2 H2 g2 r2 => ?_)
  refine ⟨line1000 (r2.length ▸ c3), fun p hp => ?_⟩
  -- thawed
  obtain ⟨Hg, tin, tout⟩ : ∃ Hg : Hp, (∀ b, (V.ref b = .ref A ∨ V.ref b ∈ acc) → Hg b = none) ∧ ∀ b, ¬ (V.ref b = .ref A ∨ V.ref b ∈ acc) → Hg b = Hf2 b :=
    open Classical in ⟨fun b => if V.ref b = .ref A ∨ V.ref b ∈ acc then none else Hf2 b, fun b hb => if_pos hb, fun b hb => if_neg hb⟩
  have g12 := gp.trans g2
  have l2H : ∀ b, (V.ref b = .ref A ∨ V.ref b ∈ acc) → ∃ ws, H2 b = some (.lst ws) := fun b hb => let ⟨_, _, ws, hw⟩ := inA b hb; ⟨ws, g2.hp _ _ hw⟩
  have gt : Gr Hf H Hg H2 := ⟨fun b o hb => by
    by_cases z : V.ref b = .ref A ∨ V.ref b ∈ acc
    · have := S.gr.sub _ _ hb; rw [(inA b z).1] at this; cases this
    · rw [tout b z]; exact g12.fz _ _ hb, g12.hp, fun b o hb => by
    by_cases z : V.ref b = .ref A ∨ V.ref b ∈ acc
    · rw [tin b z] at hb; cases hb
    · rw [tout b z] at hb; exact g12.sub _ _ hb, fun b o hb => by
    by_cases z : V.ref b = .ref A ∨ V.ref b ∈ acc
    · rw [tin b z] at hb; cases hb
    · rw [tout b z] at hb; exact g12.new _ _ hb⟩
  have rt : Reps G Hg ts vs2 := Reps.thaw (fun b o hb hno => by
    by_cases z : V.ref b = .ref A ∨ V.ref b ∈ acc
    · obtain ⟨ws, hw⟩ := l2H b z
      have := g12.sub _ _ hb
      rw [hw] at this
      exact absurd (Option.some.inj this).symm (hno ws)
    · rw [tout b z]; exact hb) r2 c4
  have nHg : Hg p = none := none_back gt.sub hp
  have E2 : EnvOk G H0 Hg (upd H2 p (.lst vs2)) ((env.set iy .no).set iz (.own ts)) ((σ.set iy (some (.ref A))).set iz (some (.ref p))) :=
    own_put (S.env.grow gt).setNo (Gr.up gt.sub (Same.new hp)) (S.gr.hp.trans gt.hp) hp nHg upd_same rt
  have li : iy < σ.length := by rw [← S.env.len]; exact cl
  have eyA : ((σ.set iy (some (V.ref A))).set iz (some (.ref p)))[iy]? = some (some (.ref A)) := by
    rw [List.getElem?_set_ne (Ne.symm ne), List.getElem?_set_self li]
  match as, eac, ndp, hlen, kk with
  | a0 :: a1 :: a2 :: as, eac, ndp, hlen, kk =>
  obtain ⟨n0, nf0, neA0, ws0, hw0, rw0⟩ := kk 0 l0 a0 rfl rfl
  obtain ⟨n2, nf2, neA2, ws2, hw2, rw2⟩ := kk 2 l2 a2 rfl rfl
  have m0 : V.ref a0 ∈ acc := by rw [eac]; exact List.mem_cons_self
  have m2 : V.ref a2 ∈ acc := by rw [eac]; exact List.mem_cons_of_mem _ (List.mem_cons_of_mem _ List.mem_cons_self)
  have h20 : H2 a0 = some (.lst ws0) := g2.hp _ _ hw0
  have h22 : H2 a2 = some (.lst ws2) := g2.hp _ _ hw2
  have h2A : H2 A = some (.lst acc) := g2.hp _ _ hacc
  have p0 : a0 ≠ p := ne_of_none h20 hp
  have p2 : a2 ≠ p := ne_of_none h22 hp
  have pA : A ≠ p := ne_of_none h2A hp
  have ne02 : a2 ≠ a0 := fun z => by
    rw [List.nodup_cons] at ndp
    exact ndp.1 (by rw [← z]; exact List.mem_cons_of_mem _ List.mem_cons_self)
  -- ys[0][0] = n
  refine ⟨.ref A, eyA, .inl ⟨A, acc, 0, .ref a0, rfl, rfl, SqL.of (by rw [upd_ne pA]; exact h2A), by rw [eac]; exact at0 _ _, ?_⟩⟩
  have len0 : 0 < ws0.length := by
    rw [← rw0.length]
    exact List.length_pos_iff.mpr c0
  refine ⟨a0, ws0, 0, 0, rfl, rfl, by rw [upd_ne p0]; exact h20, by
    unfold ixN
    rw [if_pos (by omega), if_pos (by omega)]
    rfl, ?_⟩
  -- ys[2].append(m)
  refine ⟨.ref A, eyA, .inl ⟨A, acc, 2, .ref a2, rfl, rfl, SqL.of (by rw [upd_ne (Ne.symm neA0), upd_ne pA]; exact h2A), by rw [eac]; exact at2 _ _ _ _, ?_⟩⟩
  refine ⟨.inl ⟨rfl, ws2, SqL.of (by rw [upd_ne ne02, upd_ne p2]; exact h22)⟩, ?_⟩
  refine ⟨a2, ws2, _, rfl, rfl, by rw [upd_ne ne02, upd_ne p2]; exact h22, Nat.lt_of_lt_of_le (rw2.length ▸ c2) (by decide), ?_⟩
  have noOwn : ∀ b, H b = none → b ≠ p → ∀ j, (Env.at ((env.set iy .no).set iz (.own ts)) j).isOwn = true → ((σ.set iy (some (V.ref A))).set iz (some (.ref p)))[j]? ≠ some (some (.ref b)) := fun b nb bp j hj e => by
    by_cases z : iz = j
    · subst z
      by_cases lz : iz < (σ.set iy (some (V.ref A))).length
      · rw [List.getElem?_set_self lz] at e
        cases e
        exact bp rfl
      · rw [List.getElem?_eq_none (by simpa using lz)] at e
        cases e
    · rw [List.getElem?_set_ne z] at e
      rw [Env.at_set, if_neg (fun w => z w.1), Env.at_set] at hj
      by_cases z2 : iy = j ∧ j < env.length
      · rw [if_pos z2] at hj; cases hj
      · rw [if_neg z2] at hj
        rw [List.getElem?_set_ne (fun w => z2 ⟨w, by rw [← w]; exact cl⟩)] at e
        obtain ⟨a, o, ea, hao⟩ := own_at S.env hj e
        cases ea
        rw [nb] at hao
        cases hao
  have E3 := (E2.away (a := a0) (us := ws0.set 0 (.int n)) (tin a0 (.inr m0)) (by rw [upd_ne p0]; exact h20) (noOwn a0 n0 p0)).away (a := a2) (us := ws2 ++ [.int m]) (tin a2 (.inr m2)) (by rw [upd_ne ne02, upd_ne p2]; exact h22) (noOwn a2 n2 p2)
  have gz := S.gr.trans gt
  have o0 : H0 a0 = none := none_back S.gr.hp n0
  have o2 : H0 a2 = none := none_back S.gr.hp n2
  have op : H0 p = none := none_back gz.hp hp
  refine jr Hf0 H0 Hg _ _ _ D ⟨⟨gz.fz, fun b o hb => ?_, fun b o hb => ?_, gz.new⟩, E3⟩ (h.step gt.fz)
  · rw [upd_ne (ne_of_none hb o2), upd_ne (ne_of_none hb o0), upd_ne (ne_of_none hb op)]
    exact gz.hp _ _ hb
  · rw [upd_ne (ne_of_none hb (tin a2 (.inr m2))), upd_ne (ne_of_none hb (tin a0 (.inr m0))), upd_ne (ne_of_none hb nHg)]
    exact gz.sub _ _ hb
end
/-- a while that a whole number counts down -/
def fuelI (i : Nat) (env : Env) : Nat := match env.at i with | .val (.int j) => j.natAbs + 1 | _ => 0
/-- bool(x) of an own instance -/
def boolO (c : Nat) (f : List PV → R PV) (l : List PV) : R PV := match l with
  | [p] => if isC c p = true then (match f [p] with | .ok (.bl b) => .ok (.bl b) | _ => .bad) else .bad
  | _ => .bad
theorem b_boolO {G : Gb} {X : Cx} {k c : Nat} {C : Addr} {ps : List Str} {f : List PV → R PV} (D : Bp.MDef X.prog X.w X.K X.mg X.base k C "__bool__" ps (spJ G f)) (hC : C = G.cm c) (hr : Room (k + 2) X.A) : CallJ G X (.type "bool") (boolO c f) := ⟨_, Bp.call_boolO D hr, fun W Hf H σ vs l Q s r h => by
  subst hC
  unfold boolO at h
  split at h
  · rename_i p
    cases r with
    | cons r1 r2 =>
      cases r2
      by_cases z : isC c p = true
      · rw [if_pos z] at h
        refine ⟨_, rfl, rep_isC z r1 s, Hf, [p], s, .cons r1 .nil, ?_⟩
        cases e : f [p] with
        | ok q =>
          rw [e] at h
          intro v Hf' H' g r
          cases r with
          | bl b => exact ⟨b, rfl, h _ Hf' H' g (.bl b)⟩
          | _ => exact h.elim
        | er c fs => rw [e] at h; exact h.elim
        | bad => rw [e] at h; exact h.elim
      · rw [if_neg z] at h
        exact h.elim
  · exact h.elim⟩
end J

namespace J
open PySem.Spec PySem
open Bp (Sm)
/-! ### reckoning: what a body comes to, step by step -/
theorem at_cons_zero (a : Sl) (l : List Sl) : Env.at (a :: l) 0 = a := rfl
theorem at_cons_succ (a : Sl) (l : List Sl) (n : Nat) : Env.at (a :: l) (n + 1) = Env.at l n := rfl
theorem asB_ok (b : Bool) : asB (.bl b) = .ok b := rfl
def Ans (f : F) (r : R PV) : Prop := ansF f = r
theorem An.set {i : Nat} {d : Env → R PV} {g : Env → F} {e : Env} {p : PV} {r : R PV} (h : d e = .ok p) (k : Ans (g (List.set e i (.val p))) r) : Ans (seqF (setF i d) g e) r := by
  unfold seqF setF liftF; rw [h]; exact k
theorem An.ite {t : Env → R Bool} {f g k : Env → F} {e : Env} {b : Bool} {r : R PV} (h : t e = .ok b) (kt : b = true → Ans (seqF f k e) r) (kf : b = false → Ans (seqF g k e) r) : Ans (seqF (iteF t f g) k e) r := by
  unfold Ans seqF iteF; rw [h]; cases b <;> simp only [Bool.false_eq_true, if_true, if_false]
  · exact kf rfl
  · exact kt rfl
theorem An.iteT {t : Env → R Bool} {f g k : Env → F} {e : Env} {r : R PV} (h : t e = .ok true) (kt : Ans (seqF f k e) r) : Ans (seqF (iteF t f g) k e) r := An.ite h (fun _ => kt) fun z => nomatch z
theorem An.iteN {t : Env → R Bool} {f g k : Env → F} {e : Env} {r : R PV} (h : t e = .ok false) (kf : Ans (seqF g k e) r) : Ans (seqF (iteF t f g) k e) r := An.ite h (fun z => nomatch z) fun _ => kf
theorem An.next {k : Env → F} {e : Env} {r : R PV} (h : Ans (k e) r) : Ans (seqF nextF k e) r := h
theorem An.iteX {t : Env → R Bool} {f k : Env → F} {e : Env} {r : R PV} (h : t e = .ok false) (kf : Ans (k e) r) : Ans (seqF (iteF t f nextF) k e) r := An.iteN h (An.next kf)
theorem An.iteT1 {t : Env → R Bool} {f g : Env → F} {e : Env} {r : R PV} (h : t e = .ok true) (kt : Ans (f e) r) : Ans (iteF t f g e) r := by unfold Ans iteF; rw [h]; exact kt
theorem An.iteN1 {t : Env → R Bool} {f g : Env → F} {e : Env} {r : R PV} (h : t e = .ok false) (kt : Ans (g e) r) : Ans (iteF t f g e) r := by unfold Ans iteF; rw [h]; exact kt
theorem seqF_assoc (f g k : Env → F) (e : Env) : seqF (seqF f g) k e = seqF f (seqF g k) e := by
  unfold seqF
  cases f e <;> rfl
theorem An.assoc {f g k : Env → F} {e : Env} {r : R PV} (h : Ans (seqF f (seqF g k) e) r) : Ans (seqF (seqF f g) k e) r := by unfold Ans; rw [seqF_assoc]; exact h
theorem An.ret {d : Env → R PV} {e : Env} {r : R PV} (h : d e = r) (hb : r ≠ .bad) : Ans (retF d e) r := by
  unfold Ans retF liftF; rw [h]; cases r <;> first | rfl | exact absurd rfl hb
theorem An.retO {d : Env → R PV} {e : Env} {p : PV} (h : d e = .ok p) : Ans (retF d e) (.ok p) := An.ret h fun z => nomatch z
theorem An.retS {d : Env → R PV} {k : Env → F} {e : Env} {r : R PV} (h : d e = r) (hb : r ≠ .bad) : Ans (seqF (retF d) k e) r := by
  unfold Ans seqF retF liftF; rw [h]; cases r <;> first | rfl | exact absurd rfl hb
theorem An.retSO {d : Env → R PV} {k : Env → F} {e : Env} {p : PV} (h : d e = .ok p) : Ans (seqF (retF d) k e) (.ok p) := An.retS h fun z => nomatch z
theorem An.drop {d : Env → R PV} {g : Env → F} {e : Env} {p : PV} {r : R PV} (h : d e = .ok p) (k : Ans (g e) r) : Ans (seqF (dropF d) g e) r := by
  unfold Ans seqF dropF liftF; rw [h]; exact k
theorem An.dropE {d : Env → R PV} {g : Env → F} {e : Env} {c : Nat} {fs : List (Str × PV)} (h : d e = .er c fs) : Ans (seqF (dropF d) g e) (.er c fs) := by
  unfold Ans seqF dropF liftF; rw [h]; rfl
theorem An.setE {i : Nat} {d : Env → R PV} {g : Env → F} {e : Env} {c : Nat} {fs : List (Str × PV)} (h : d e = .er c fs) : Ans (seqF (setF i d) g e) (.er c fs) := by
  unfold Ans seqF setF liftF; rw [h]; rfl
theorem An.own {i : Nat} {g : Env → F} {e : Env} {r : R PV} (k : Ans (g (List.set e i (.own []))) r) : Ans (seqF (ownF i) g e) r := k
theorem An.to {f g : Env → F} {e e' : Env} {r : R PV} (h : f e = .nx e') (k : Ans (g e') r) : Ans (seqF f g e) r := by
  unfold Ans seqF; rw [h]; exact k
theorem An.toR {f g : Env → F} {e : Env} {p : PV} (h : f e = .rt p) : Ans (seqF f g e) (.ok p) := by
  unfold Ans seqF; rw [h]; rfl
theorem An.toE {f g : Env → F} {e e' : Env} {c : Nat} {fs : List (Str × PV)} (h : f e = .er e' c fs) : Ans (seqF f g e) (.er c fs) := by
  unfold Ans seqF; rw [h]; rfl
theorem An.fn {np nn : Nat} {d : Env → F} {l : List PV} {r : R PV} (hl : l.length = np) (h : Ans (d (env0 nn l)) r) : fnJ np nn d l = r := by unfold fnJ; rw [if_pos hl]; exact h
theorem frz_own {i : Nat} {e : Env} {l : List PV} (h : e.at i = .own l) : frz i e = List.set e i (.val (.lst l)) := by unfold frz; rw [h]
/-! loops -/
theorem forE_ok {di : Env → R (List PV)} {bn : Bnd} {body : Env → F} {e e' : Env} {l : List PV} (h : di e = .ok l) (k : forP bn body l e = .nx e') : forE di bn body e = .nx e' := by unfold forE; rw [h]; exact k
theorem forE_rt {di : Env → R (List PV)} {bn : Bnd} {body : Env → F} {e : Env} {l : List PV} {p : PV} (h : di e = .ok l) (k : forP bn body l e = .rt p) : forE di bn body e = .rt p := by unfold forE; rw [h]; exact k
/-- a for whose turns all go on -/
theorem forP_inv {bn : Bnd} {body : Env → F} (I : Nat → Env → Prop) : ∀ (l : List PV) (k : Nat) (e : Env), I k e → (∀ (j : Nat) (p : PV) (e : Env), l[j]? = some p → I (k + j) e → ∃ e1 e2, bn p e = some e1 ∧ (body e1 = .nx e2 ∨ body e1 = .ct e2) ∧ I (k + j + 1) e2) →
    ∃ e', forP bn body l e = .nx e' ∧ I (k + l.length) e'
  | [], k, e, h, _ => ⟨e, rfl, h⟩
  | p :: l, k, e, h, s => by
    obtain ⟨e1, e2, h1, h2, h3⟩ := s 0 p e rfl h
    obtain ⟨e', k1, k2⟩ := forP_inv I l (k + 1) e2 h3 fun j q e0 hq hi => by
      have := s (j + 1) q e0 hq (by rw [show k + (j + 1) = k + 1 + j by omega]; exact hi)
      obtain ⟨a, b, c1, c2, c3⟩ := this
      exact ⟨a, b, c1, c2, by rw [show k + 1 + j + 1 = k + (j + 1) + 1 by omega]; exact c3⟩
    refine ⟨e', ?_, by rw [List.length_cons, show k + (l.length + 1) = k + 1 + l.length by omega]; exact k2⟩
    unfold forP
    rw [h1]
    rcases h2 with h2 | h2
    · simp only [h2]; exact k1
    · simp only [h2]; exact k1
end J

namespace J
open PySem.Spec PySem PyProof.Rows
open L2 hiding St Takes XE CX takes_of PMk MkP ps_raise mk_of ps_try_as ps_try_many pmk_own passAt passes_call takes0 passL
open L2N hiding St
open Bp (takes0 passL OpS R2S IsI)
/-! ### methods of texts -/
def MthJ (G : Gb) (X : Cx) (id : String) (f : Str → List PV → R PV) : Prop := ∃ r, MtR X id r ∧ ∀ (W : WX) (Hf H : Hp) (σ : L2.St) (x : Str) (vs : List V) (l : List PV) (Q : VK), Same Hf H → Reps G Hf l vs → Post G W Hf H σ (f x l) Q → r (.str x) vs H Q
def tm0 (f : Str → List PV → R PV) (d : Env → R PV) (env : Env) : R PV := (d env).bind fun p => match p with | .str x => f x [] | _ => .bad
def tm1 (f : Str → List PV → R PV) (d de : Env → R PV) (env : Env) : R PV := (d env).bind fun p => match p with | .str x => (de env).bind fun q => f x [q] | _ => .bad
section
variable {G : Ga} {X : Cx} {W : WX} {o e a b : Expr} {d de da db : Env → R PV} {id : String} {name : Str} {apos pos : Pos} {f : Str → List PV → R PV}
theorem je_tm0 (slot : Slot "str" name id) (ty : typeOf (.builtin id) = pure (.type "method_descriptor")) (M : MthJ G X id f) (ho : JE G X W o d)
    (hbase : attributeBase o name X.env (eval o X.env) = eval o X.env := by rfl) (hline : (apos.endLine == pos.line) = true := by rfl) : JE G X W (.Call (.Attribute o name apos) [] [] pos) (tm0 f d) := by
  obtain ⟨t, pt, jt⟩ := ho
  obtain ⟨r, hm, k⟩ := M
  refine ⟨_, pe_m0 slot ty hm pt hbase hline, fun H0 Hf H env σ Q s E h => jt H0 Hf H env σ _ s E (PostG.bind h fun p v Hf1 H1 _ g1 r1 h1 => ?_)⟩
  cases r1 with
  | str x => exact ⟨⟨x, rfl⟩, k W Hf1 H1 σ x [] [] Q g1.sub .nil h1⟩
  | _ => exact h1.elim
theorem je_tm1 (slot : Slot "str" name id) (ty : typeOf (.builtin id) = pure (.type "method_descriptor")) (M : MthJ G X id f) (ho : JE G X W o d) (he : JE G X W e de)
    (hs : starEach [e] X.env = [(false, eval e X.env)] := by rfl) (hbase : attributeBase o name X.env (eval o X.env) = eval o X.env := by rfl) (hline : (apos.endLine == pos.line) = true := by rfl) :
    JE G X W (.Call (.Attribute o name apos) [e] [] pos) (tm1 f d de) := by
  obtain ⟨t, pt, jt⟩ := ho
  obtain ⟨u, pu, ju⟩ := he
  obtain ⟨r, hm, k⟩ := M
  refine ⟨_, pe_m1 slot ty hm pt pu hs hbase hline, fun H0 Hf H env σ Q s E h => jt H0 Hf H env σ _ s E (PostG.bind h fun p v Hf1 H1 _ g1 r1 h1 => ?_)⟩
  cases r1 with
  | str x => exact ⟨⟨x, rfl⟩, ju H0 Hf1 H1 env σ _ g1.sub (E.grow g1) (PostG.bind h1 fun q w Hf2 H2 _ g2 r2 h2 => k W Hf2 H2 σ x [w] [q] Q g2.sub (.cons r2 .nil) h2)⟩
  | _ => exact h1.elim
def isdigT (x : Str) (l : List PV) : R PV := match l with | [] => .ok (.bl (Txt.isdigit x)) | _ => .bad
theorem m_isdigit : MthJ G X "str.isdigit" isdigT := ⟨_, mt_isdigit, fun W Hf H σ x vs l Q s r h => by
  unfold isdigT at h
  split at h
  · cases r
    exact ⟨x, rfl, rfl, trivial, h _ Hf H (Gr.refl s) (.bl _)⟩
  · exact h.elim⟩
def startT (x : Str) (l : List PV) : R PV := match l with | [.str b] => .ok (.bl (Txt.startswith x b)) | _ => .bad
theorem m_startswith : MthJ G X "str.startswith" startT := ⟨_, mt_startswith, fun W Hf H σ x vs l Q s r h => by
  unfold startT at h
  split at h
  · cases r with
    | cons r1 r2 => cases r2; cases r1; exact ⟨x, _, rfl, rfl, h _ Hf H (Gr.refl s) (.bl _)⟩
  · exact h.elim⟩
def rmpreT (x : Str) (l : List PV) : R PV := match l with | [.str b] => if x.length ≤ sizeLine then .ok (.str (Txt.removeprefix x b)) else .bad | _ => .bad
theorem m_removeprefix : MthJ G X "str.removeprefix" rmpreT := ⟨_, mt_removeprefix, fun W Hf H σ x vs l Q s r h => by
  unfold rmpreT at h
  split at h
  · by_cases z : x.length ≤ sizeLine
    · rw [if_pos z] at h
      cases r with
      | cons r1 r2 => cases r2; cases r1; exact ⟨x, _, rfl, rfl, z, h _ Hf H (Gr.refl s) (.str _)⟩
    · rw [if_neg z] at h; exact h.elim
  · exact h.elim⟩
def partT (x : Str) (l : List PV) : R PV := match l with | [.str b] => if (b.length == 0) = false ∧ x.length ≤ sizeLine then .ok (.tup [.str (Txt.partition x b).1, .str (Txt.partition x b).2.1, .str (Txt.partition x b).2.2]) else .bad | _ => .bad
theorem m_partition : MthJ G X "str.partition" partT := ⟨_, mt_partition, fun W Hf H σ x vs l Q s r h => by
  unfold partT at h
  split at h
  · rename_i b
    by_cases z : (b.length == 0) = false ∧ x.length ≤ sizeLine
    · rw [if_pos z] at h
      cases r with
      | cons r1 r2 =>
        cases r2
        cases r1
        exact ⟨x, _, rfl, rfl, z.1, z.2, fun p hp => h _ _ _ (Gr.one (o := .tup [.str (Txt.partition x b).1, .str (Txt.partition x b).2.1, .str (Txt.partition x b).2.2]) s hp) (.tup (SqT.of upd_same) (.cons (.str _) (.cons (.str _) (.cons (.str _) .nil))))⟩
    · rw [if_neg z] at h; exact h.elim
  · exact h.elim⟩
theorem reps_strs {Hf : Hp} (ys : List Str) : Reps G Hf (ys.map PV.str) (ys.map V.str) := by
  induction ys with
  | nil => exact .nil
  | cons y r h => exact .cons (.str y) h
def splitT (x : Str) (l : List PV) : R PV := match l with | [.str b] => if (b.length == 0) = false ∧ x.length + 2 ≤ sizeLine then .ok (.lst ((Txt.split x b).map PV.str)) else .bad | _ => .bad
theorem m_split : MthJ G X "str.split" splitT := ⟨_, mt_split, fun W Hf H σ x vs l Q s r h => by
  unfold splitT at h
  split at h
  · rename_i b
    by_cases z : (b.length == 0) = false ∧ x.length + 2 ≤ sizeLine
    · rw [if_pos z] at h
      cases r with
      | cons r1 r2 =>
        cases r2
        cases r1
        exact ⟨x, _, rfl, rfl, z.1, z.2, fun p hp => h _ _ _ (Gr.one (o := .lst ((Txt.split x b).map V.str)) s hp) (.lst (SqL.of upd_same) (reps_strs _))⟩
    · rw [if_neg z] at h; exact h.elim
  · exact h.elim⟩
/-! ### str(int), int(text) -/
noncomputable def strB (l : List PV) : R PV := match l with | [.int i] => (open Classical in if i.natAbs.log2 < 1920 then .ok (.str (toString i)) else .bad) | [.str x] => .ok (.str x) | _ => .bad
theorem b_str : CallJ G X (.type "str") strB := ⟨_, CallR.or call_str_int SkE.call_str_str, fun W Hf H σ vs l Q s r h => by
  unfold strB at h
  split at h
  · rename_i i
    cases r with
    | cons r1 r2 =>
      cases r2
      cases r1
      by_cases z : i.natAbs.log2 < 1920
      · rw [if_pos z] at h
        exact .inl ⟨i, rfl, z, h _ Hf H (Gr.refl s) (.str _)⟩
      · rw [if_neg z] at h; exact h.elim
  · rename_i x
    cases r with
    | cons r1 r2 =>
      cases r2
      cases r1
      exact .inr ⟨x, rfl, h _ Hf H (Gr.refl s) (.str _)⟩
  · exact h.elim⟩
noncomputable def intS (l : List PV) : R PV := match l with | [.str x] => (match PySem.intText? x with | some n => if x.length ≤ 640 then .ok (.int n) else .bad | none => .bad) | _ => .bad
theorem b_intS : CallJ G X (.type "int") intS := ⟨_, call_int_str, fun W Hf H σ vs l Q s r h => by
  unfold intS at h
  split at h
  · rename_i x
    cases r with
    | cons r1 r2 =>
      cases r2
      cases r1
      cases e : PySem.intText? x with
      | none => simp only [e] at h; exact h.elim
      | some n =>
        simp only [e] at h
        by_cases z : x.length ≤ 640
        · rw [if_pos z] at h
          exact ⟨x, n, rfl, e, z, h _ Hf H (Gr.refl s) (.int _)⟩
        · rw [if_neg z] at h; exact h.elim
  · exact h.elim⟩
/-! ### text + text, text * int, in -/
def catX (a b : PV) : R PV := match a, b with | .str x, .str y => if x.length + y.length ≤ sizeLine then .ok (.str (x ++ y)) else .bad | _, _ => .bad
theorem o_catX : OpJ G X W (binaryOp .Add) catX := ⟨_, OpS.of op_add_str, fun Hf H σ x y a b Q s ra rb h => by
  unfold catX at h
  split at h
  · rename_i u v
    by_cases z : u.length + v.length ≤ sizeLine
    · rw [if_pos z] at h
      cases ra
      cases rb
      exact ⟨u, v, rfl, rfl, z, h _ Hf H (Gr.refl s) (.str _)⟩
    · rw [if_neg z] at h; exact h.elim
  · exact h.elim⟩
def inX (a b : PV) : R PV := match a, b with | .str x, .str y => .ok (.bl (!(Builtin.Str.occurrences y x 0 y.length 1).isEmpty)) | _, _ => .bad
theorem o_inX : OpJ G X W (compareOp .In) inX := ⟨_, OpS.of op_in_str, fun Hf H σ x y a b Q s ra rb h => by
  unfold inX at h
  split at h
  · cases ra
    cases rb
    exact ⟨_, _, rfl, rfl, h _ Hf H (Gr.refl s) (.bl _)⟩
  · exact h.elim⟩
def ninX (a b : PV) : R PV := match a, b with | .str x, .str y => .ok (.bl (!(!(Builtin.Str.occurrences y x 0 y.length 1).isEmpty))) | _, _ => .bad
theorem o_ninX : OpJ G X W (compareOp .NotIn) ninX := ⟨_, OpS.of op_notin_str, fun Hf H σ x y a b Q s ra rb h => by
  unfold ninX at h
  split at h
  · cases ra
    cases rb
    exact ⟨_, _, rfl, rfl, h _ Hf H (Gr.refl s) (.bl _)⟩
  · exact h.elim⟩
/-! ### slices and signs of a text -/
def sliceX (d : Env → R PV) (lo hi : Env → R (Option Int)) (env : Env) : R PV := (d env).bind fun p => (lo env).bind fun l => (hi env).bind fun h => match p with
  | .str x => if x.length ≤ sizeLine then .ok (.str (Txt.slice x l h)) else .bad
  | _ => .bad
theorem je_sliceX {elo ehi : Option Expr} {lo hi : Env → R (Option Int)} {p2 : Pos} (h : JE G X W e d) (hl : JO G X W elo lo) (hh : JO G X W ehi hi) : JE G X W (.Subscript e (.Slice elo ehi none p2) pos) (sliceX d lo hi) := by
  obtain ⟨t, pt, jt⟩ := h
  obtain ⟨u, pu, ju⟩ := hl
  obtain ⟨w, pw, jw⟩ := hh
  refine ⟨_, pe_slice C8.sl_txt pt pu pw, fun H0 Hf H env σ Q s E h => jt H0 Hf H env σ _ s E (PostG.bind h fun p v Hf1 H1 _ g1 r1 h1 => ?_)⟩
  refine ju H0 Hf1 H1 env σ _ g1.sub (E.grow g1) (PostG.bind h1 fun l lv Hf2 H2 _ g2 r2 h2 => ?_)
  refine jw H0 Hf2 H2 env σ _ g2.sub ((E.grow g1).grow g2) (PostG.bind h2 fun m mv Hf3 H3 _ g3 r3 h3 => ?_)
  subst r2 r3
  cases r1 with
  | str x =>
    by_cases z : x.length ≤ sizeLine
    · simp only [if_pos z] at h3
      exact ⟨x, rfl, z, h3 _ Hf3 H3 (Gr.refl g3.sub) (.str _)⟩
    · simp only [if_neg z] at h3; exact h3.elim
  | _ => exact h3.elim
def ixX (a b : PV) : R PV := match b with
  | .int i => match a with
    | .str z => if z.length ≤ sizeLine then (match atI z.cps.toList i with | some c => .ok (.str ⟨#[c]⟩) | none => .bad) else .bad
    | _ => .bad
  | _ => .bad
theorem je_ixX (ha : JE G X W a da) (hb : JE G X W b db) (hs : PlainIx b := by exact fun _ _ => rfl) : JE G X W (.Subscript a b pos) (bin2 ixX da db) := by
  obtain ⟨t, pt, jt⟩ := ha
  obtain ⟨u, pu, ju⟩ := hb
  refine ⟨_, pe_ix ix_str pt pu hs, fun H0 Hf H env σ Q s E h => jt H0 Hf H env σ _ s E (PostG.bind h fun p v Hf1 H1 _ g1 r1 h1 => ?_)⟩
  refine ju H0 Hf1 H1 env σ _ g1.sub (E.grow g1) (PostG.bind h1 fun q w Hf2 H2 _ g2 r2 h2 => ?_)
  unfold ixX at h2
  cases r2 with
  | int i =>
    cases r1 with
    | str z =>
      simp only at h2
      by_cases k : z.length ≤ sizeLine
      · simp only [if_pos k] at h2
        cases e : atI z.cps.toList i with
        | none => simp only [e] at h2; exact h2.elim
        | some c =>
          simp only [e] at h2
          exact ⟨z, i, c, rfl, rfl, k, e, h2 _ Hf2 H2 (Gr.refl g2.sub) (.str _)⟩
      · simp only [if_neg k] at h2; exact h2.elim
    | _ => exact h2.elim
  | _ => exact h2.elim
/-! ### f-strings of texts and ints -/
noncomputable def fmtE (d : Env → R PV) (env : Env) : R PV := (d env).bind fun p => match p with
  | .str y => if y.length ≤ sizeLine then .ok (.str y) else .bad
  | .int i => (open Classical in if i.natAbs.log2 < 1920 then .ok (.str (toString i)) else .bad)
  | _ => .bad
theorem je_fmt (h : JE G X W e d) : JE G X W (.FormattedValue e (-1) none pos) (fmtE d) := by
  obtain ⟨t, pt, jt⟩ := h
  refine ⟨_, pe_fmt pt, fun H0 Hf H env σ Q s E h => jt H0 Hf H env σ _ s E (PostG.bind h fun p v Hf1 H1 _ g1 r1 h1 => ?_)⟩
  cases r1 with
  | str y =>
    by_cases z : y.length ≤ sizeLine
    · simp only [if_pos z] at h1
      exact .inl ⟨y, rfl, z, h1 _ Hf1 H1 (Gr.refl g1.sub) (.str _)⟩
    · simp only [if_neg z] at h1; exact h1.elim
  | int i =>
    by_cases z : i.natAbs.log2 < 1920
    · simp only [if_pos z] at h1
      exact .inr ⟨i, rfl, z, h1 _ Hf1 H1 (Gr.refl g1.sub) (.str _)⟩
    · simp only [if_neg z] at h1; exact h1.elim
  | _ => exact h1.elim
def jnE : List (Env → R PV) → Str → Env → R PV
  | [], acc, _ => .ok (.str acc)
  | d :: ds, acc, env => (d env).bind fun p => match p with | .str y => if (acc ++ y).length ≤ sizeLine then jnE ds (acc ++ y) env else .bad | _ => .bad
structure JJ (G : Ga) (X : Cx) (W : WX) (es : List Expr) (ds : List (Env → R PV)) : Prop where
  ex : ∃ ts, L2.PJ X es ts ∧ ∀ (acc : Str) (H0 Hf H : Hp) (env : Env) (σ : L2.St) (Q : VK), Same Hf H → EnvOk G H0 Hf H env σ → Post G W Hf H σ (jnE ds acc env) Q → tJs ts acc σ H fun out H1 => Q (.str out) H1
theorem jj_nil : JJ G X W [] [] := ⟨[], .nil, fun acc H0 Hf H env σ Q s E h => h _ Hf H (Gr.refl s) (.str _)⟩
theorem jj_cons {es : List Expr} {ds : List (Env → R PV)} (h : JE G X W e d) (r : JJ G X W es ds) : JJ G X W (e :: es) (d :: ds) := by
  obtain ⟨t, pt, jt⟩ := h
  obtain ⟨ts, pts, jts⟩ := r
  refine ⟨t :: ts, .cons pt pts, fun acc H0 Hf H env σ Q s E h => jt H0 Hf H env σ _ s E (PostG.bind h fun p v Hf1 H1 _ g1 r1 h1 => ?_)⟩
  cases r1 with
  | str y =>
    by_cases z : (acc ++ y).length ≤ sizeLine
    · simp only [if_pos z] at h1
      exact ⟨y, rfl, z, jts (acc ++ y) H0 Hf1 H1 env σ Q g1.sub (E.grow g1) h1⟩
    · simp only [if_neg z] at h1; exact h1.elim
  | _ => exact h1.elim
def fstrE (ds : List (Env → R PV)) (env : Env) : R PV := jnE ds Str.empty env
theorem je_fstr {v1 v2 : Expr} {rest : List Expr} {ds : List (Env → R PV)} (h : JJ G X W (v1 :: v2 :: rest) ds) : JE G X W (.JoinedStr (v1 :: v2 :: rest) pos) (fstrE ds) := by
  obtain ⟨ts, pts, jts⟩ := h
  exact ⟨_, pe_joined pts, fun H0 Hf H env σ Q s E h => jts Str.empty H0 Hf H env σ Q s E h⟩
end
end J

namespace J
open PySem.Spec PySem PyProof.Rows
open L2 hiding St Takes XE CX takes_of PMk MkP ps_raise mk_of ps_try_as ps_try_many pmk_own passAt passes_call takes0 passL
open L2N hiding St
open Bp (takes0 passL OpS R2S IsI)
/-! ### text * int -/
def repX (a : Str) (n : Int) : Str := if n < 1 then Str.empty else if (n == 1 || a.length == 0) = true then a else ⟨(List.replicate n.toNat a.cps).foldl (· ++ ·) #[]⟩
theorem fold_size (l : Array Nat) : ∀ (k : Nat) (acc : Array Nat), ((List.replicate k l).foldl (· ++ ·) acc).size = acc.size + k * l.size := by
  intro k
  induction k with
  | zero => intro acc; simp
  | succ k ih =>
    intro acc
    rw [List.replicate_succ, List.foldl_cons, ih, Array.size_append, Nat.succ_mul]
    omega
theorem op_repX {X : Cx} : OpR X (binaryOp .Mult) (fun x y H Q => ∃ (a : Str) (n : Int), x = .str a ∧ y = .int n ∧ -1000000 ≤ n ∧ n ≤ 1000000 ∧ a.length * n.toNat ≤ 10000000 ∧ Q (.str (repX a n)) H) := by
  intro pins s σ H x y v u Q I rx ry h
  obtain ⟨a, n, rfl, rfl, h0, h1, h2, q⟩ := h
  obtain ⟨t, rfl⟩ := rx
  obtain ⟨t2, rfl⟩ := ry
  refine PySem.P.mul_str ?_ (fun hn _ => ?_) (fun hn _ => ?_) ?_
  · rw [decide_eq_false (by omega), decide_eq_false (by omega)]; rfl
  · have e : (n.toNat : Int) = n := Int.toNat_of_nonneg (by omega)
    have h3 : ((a.length * n.toNat : Nat) : Int) ≤ ((10000000 : Nat) : Int) := Int.ofNat_le.mpr h2
    rw [Int.natCast_mul, e] at h3
    have h4 : (a.length : Int) ≤ (2 ^ 63 - 1) / n := by
      rw [Int.le_ediv_iff_mul_le (by omega)]
      omega
    omega
  · unfold Builtin.Str.tooLong sizeLine
    exact decide_eq_false (by omega)
  · unfold repX at q
    by_cases k : n < 1
    · rw [if_pos k] at q ⊢
      exact ⟨by show 0 ≤ _; exact Nat.zero_le _, .str _, H, I.tok _, ⟨_, rfl⟩, q⟩
    · rw [if_neg k] at q ⊢
      by_cases k2 : (n == 1 || a.length == 0) = true
      · rw [if_pos k2] at q ⊢
        exact ⟨.str a, H, I, ⟨t, rfl⟩, q⟩
      · rw [if_neg k2] at q ⊢
        refine ⟨?_, .str _, H, I.tok _, ⟨_, rfl⟩, q⟩
        show ((List.replicate n.toNat a.cps).foldl (· ++ ·) #[]).size ≤ sizeLine
        rw [fold_size]
        have e : a.cps.size = a.length := rfl
        rw [e]
        unfold sizeLine
        show 0 + _ ≤ _
        rw [Nat.mul_comm]
        omega
def mulX (a b : PV) : R PV := match a, b with | .str x, .int n => if -1000000 ≤ n ∧ n ≤ 1000000 ∧ x.length * n.toNat ≤ 10000000 then .ok (.str (repX x n)) else .bad | _, _ => .bad
section
variable {G : Ga} {X : Cx} {W : WX}
theorem o_mulX : OpJ G X W (binaryOp .Mult) mulX := ⟨_, OpS.of op_repX, fun Hf H σ x y a b Q s ra rb h => by
  unfold mulX at h
  split at h
  · rename_i u n
    by_cases z : -1000000 ≤ n ∧ n ≤ 1000000 ∧ u.length * n.toNat ≤ 10000000
    · rw [if_pos z] at h
      cases ra
      cases rb
      exact ⟨u, n, rfl, rfl, z.1, z.2.1, z.2.2, h _ Hf H (Gr.refl s) (.str _)⟩
    · rw [if_neg z] at h; exact h.elim
  · exact h.elim⟩
end
end J

namespace J
open PySem.Spec PySem PyProof.Rows
open L2 hiding St Takes XE CX takes_of PMk MkP ps_raise mk_of ps_try_as ps_try_many pmk_own passAt passes_call takes0 passL
open L2N hiding St
open Bp (takes0 passL OpS R2S IsI)
section
variable {prog : Program} {w : World} {A : Around} {E : Value → Shared → Prop} {s : Shared} {K : PySem.W.Frag} {x C f : Addr} {ox : Obj} {od : Option Obj} {Q : Value → Shared → Prop}
/-- str(x) by the own def -/
theorem str_own (hu : A.in1.in1.units < cLine) (X : K.In s.heap) (I : PySem.W.InstAt s.heap x ox C od) (hs : PySem.W.findIn K (.ref C) "__str__" = some (some (.ref f))) (hf : PySem.W.isFn K (.ref f) = true)
    (h : wpAny (model prog w) A.in1.in1 (call (.ref f) [.ref x]) (fun r s₁ => ∃ y t, r = Value.str y t ∧ Q r s₁) E s) : wpAny (model prog w) A (call (.type "str") [.ref x]) Q E s := by
  refine callType_codes (T := "str") (Bi := Builtin.«object.__init__») (Q₁ := fun r s₁ => ∃ y t, r = Value.str y t ∧ Q r s₁) PySem.F.called_str (PySem.F.typeCall_str_1 _) PySem.F.entry_object_init ?_ ?_
  · refine codeAny_of_tree ?_
    show wpAny _ A.in1.in1 (checkBuiltinCall "str.__new__" ⟨[.type "str", .ref x], []⟩ >>= fun _ => again (.builtin "str.__new__" ⟨[.type "str", .ref x], []⟩)) _ _ s
    refine wpAny_bind (wpAny_of_eq (PySem.F.newCall_str_1 _) (wpAny_pure ⟨plainId_quiet (by decide +kernel) _, codeAny_builtin PySem.F.entry_str_new ?_⟩))
    rw [Around.under_plainId (by decide +kernel) _]
    rw [str_new_tree]
    refine wpAny_bind (wpAny_pure ?_)
    refine wpAny_bind (wpAny_of_eq isSubtype_str_str ?_)
    have tr : wpAny (model prog w) A.in1.in1 (Builtin.Str.strOf (.ref x)) (fun r s₁ => ∃ y t, r = Value.str y t ∧ Q r s₁) E s := by
      unfold Builtin.Str.strOf
      refine wpAny_bind (wpAny_cRoomFor hu ?_)
      refine wpAny_bind (m := callSpecial? (.ref x) (Str.ofString "__str__")) (PySem.W.special_fn X I hs (beq_iff_eq.mp hf) (wpAny_mono h (fun r s' hr => ?_) fun _ _ y => y))
      obtain ⟨y, t, rfl, q⟩ := hr
      exact wpAny_pure ⟨y, t, rfl, q⟩
    exact wpAny_bind (wpAny_mono tr (fun r s' h' => wpAny_pure h') fun _ _ e => e)
  · rintro obj s₁ ⟨y, t, rfl, hq⟩
    refine ⟨typeIs_str _ _ _, PySem.F.args_object_init_2 _ _, ?_⟩
    exact object_init_meets PySem.F.called_str.init.lookup PySem.F.called_str.made (by decide) prog w A.in1 _ s₁ ⟨typeIs_str _ _ _, rfl, hq⟩
end
section
variable {X : Cx} {k : Nat} {C : Addr} {ps : List Str} {sp : Sp}
def rStrO (C : Addr) (sp : Sp) : List V → Hp → VK → Prop := fun xs H Q => ∃ x, xs = [x] ∧ IsI C H x ∧ sp [x] H (fun z H' => ∃ y, z = .str y ∧ Q z H') E0
theorem call_strO (D : Bp.MDef X.prog X.w X.K X.mg X.base k C "__str__" ps sp) (hr : Room (k + 2) X.A) : CallR X (.type "str") (rStrO C sp) := by
  intro pins s σ H xs us Q I r h
  obtain ⟨x, rfl, ⟨a, dx, fs, rfl, ha⟩, q⟩ := h
  obtain ⟨u, rfl, ru⟩ := vals1 r
  cases (show u = Value.ref a from ru)
  obtain ⟨f, fd, hm, b, F⟩ := D.ex
  obtain ⟨_, od, J⟩ := Bp.inst_of I ha
  have r2 : Room (k + 1) X.A.in1 := hr.in1
  have r3 : Room k X.A.in1.in1 := r2.in1
  refine str_own (by have := r3.un; omega) I.kIn J hm.at_ hm.fn (thn (Bp.run_below (us := [.ref a]) (vs := [.ref a]) F r3 I.env0.in1.in1 b I (.cons rfl .nil) q) fun w s' z => ?_)
  obtain ⟨z', H', I', rz, i, ei, qz⟩ := z
  subst ei
  obtain ⟨t, rfl⟩ := (show ∃ t, w = Value.str i t from rz)
  exact ⟨i, t, rfl, .str i, H', I', ⟨t, rfl⟩, qz⟩
end
/-- str(x) of an own instance -/
def strO (c : Nat) (f : List PV → R PV) (l : List PV) : R PV := match l with
  | [p] => if isC c p = true then (match f [p] with | .ok (.str b) => .ok (.str b) | _ => .bad) else .bad
  | _ => .bad
theorem b_strO {G : Gb} {X : Cx} {k c : Nat} {C : Addr} {ps : List Str} {f : List PV → R PV} (D : Bp.MDef X.prog X.w X.K X.mg X.base k C "__str__" ps (spJ G f)) (hC : C = G.cm c) (hr : Room (k + 2) X.A) : CallJ G X (.type "str") (strO c f) := ⟨_, call_strO D hr, fun W Hf H σ vs l Q s r h => by
  subst hC
  unfold strO at h
  split at h
  · rename_i p
    cases r with
    | cons r1 r2 =>
      cases r2
      by_cases z : isC c p = true
      · rw [if_pos z] at h
        refine ⟨_, rfl, rep_isC z r1 s, Hf, [p], s, .cons r1 .nil, ?_⟩
        cases e : f [p] with
        | ok q =>
          rw [e] at h
          intro v Hf' H' g r
          cases r with
          | str b => exact ⟨b, rfl, h _ Hf' H' g (.str b)⟩
          | _ => exact h.elim
        | er c fs => rw [e] at h; exact h.elim
        | bad => rw [e] at h; exact h.elim
      · rw [if_neg z] at h
        exact h.elim
  · exact h.elim⟩
end J

namespace J
open PySem.Spec PySem PyProof.Rows
open L2 hiding St Takes XE CX takes_of PMk MkP ps_raise mk_of ps_try_as ps_try_many pmk_own passAt passes_call takes0 passL
open L2N hiding St
open Bp (takes0 passL OpS R2S IsI)
section
variable {G : Ga} {X : Cx} {W : WX} {a b e : Expr} {da db d : Env → R PV} {x y : Str} {pos py p : Pos}
/-! ### x = list + list, an own list from then on -/
def setCatO (i : Nat) (da db : Env → R PV) (env : Env) : F := match da env, db env with
  | .ok (.lst l), .ok (.lst m) => if l.length + m.length ≤ 1000 then .nx (env.set i (.own (l ++ m))) else .bad
  | _, _ => .bad
theorem js_setCatO (i : Nat) (nd : X.N.Nodup) (hK : X.K = G.K) (ha : JE G X W a da) (hb : JE G X W b db) (hi : X.N[i]? = some y := by rfl) (hx : Loc X.env.scope y := by first | exact Or.inl rfl | exact Or.inr rfl)
    (hs : swapsWith (.BinOp a .Add b p) (some (.Name y py)) pos.line X.env = pure false := by rfl) (hf : X.fn y = true ∨ X.env.scope.names.lookup y = some .local := by first | exact .inl rfl | exact .inr rfl) :
    JS G X W (.Assign [.Name y py] (.BinOp a .Add b p) pos) (setCatO i da db) := by
  obtain ⟨ta, pa, ja⟩ := ha
  obtain ⟨tb, pb, jb⟩ := hb
  refine ⟨_, ps_set nd hi hx (Bp.pe_opS (OpS.of op_catS) pa pb) hs hf, fun Hf0 H0 Hf H env σ D S h => ?_⟩
  unfold setCatO at h
  split at h
  · rename_i l m ea eb
    by_cases k : l.length + m.length ≤ 1000
    · rw [if_pos k] at h
      refine ja H0 Hf H env σ _ S.gr.sub S.env ?_
      rw [ea]
      intro u Hf1 H1 g1 r1
      refine jb H0 Hf1 H1 env σ _ g1.sub (S.env.grow g1) ?_
      rw [eb]
      intro v Hf2 H2 g2 r2
      have r1' := r1.mono g2.fz
      cases r1' with
      | lst t1 q1 =>
        cases r2 with
        | lst t2 q2 =>
          rename_i aa xs bb ys
          refine ⟨aa, bb, xs, ys, rfl, rfl, by rw [hK]; exact g2.sub.seq t1, by rw [hK]; exact g2.sub.seq t2, ?_, fun c hc => ?_⟩
          · rw [← q1.length, ← q2.length]
            exact line1000 k
          · have g : Gr Hf H Hf2 (upd H2 c (.lst (xs ++ ys))) := (g1.trans g2).trans (Gr.up g2.sub (Same.new hc))
            exact h _ Hf2 _ ⟨S.gr.trans g, own_put S.env g S.gr.hp (none_back (g1.trans g2).hp hc) (none_back g2.sub hc) upd_same (q1.append q2)⟩ g.fz
    · rw [if_neg k] at h
      exact h.elim
  · exact h.elim
end
end J

namespace J
open PySem.Spec PySem PyProof.Rows
open L2 hiding St Takes XE CX takes_of PMk MkP ps_raise mk_of ps_try_as ps_try_many pmk_own passAt passes_call takes0 passL
open L2N hiding St
open Bp (takes0 passL OpS R2S IsI)
open RZ
section
variable {G : Ga} {X : Cx} {W : WX} {tg iter o : Expr} {d : Env → R PV} {x : Str} {pos p : Pos}
/-! ### for sign in text -/
def sgnL (x : Str) : List PV := x.cps.toList.map fun c => .str ⟨#[c]⟩
theorem items_str {G : Gb} {Hf : Hp} (x : Str) : Items G Hf Hf (sgnL x) (Its x) := by
  have l : (sgnL x).length = x.cps.size := by unfold sgnL; simp
  refine ⟨fun _ => True, fun i H v H' => H' = H ∧ ∃ c, x.cps[i]? = some c ∧ v = .str ⟨#[c]⟩, l.symm ▸ walk_str, fun _ _ _ _ => trivial, fun i Hf2 H2 y H3 hi s1 s2 ⟨e, c, ec, ex⟩ => ?_⟩
  subst e
  subst ex
  refine ⟨Hf2, Gr.refl s2, .str ⟨#[c]⟩, ?_, .str _⟩
  unfold sgnL
  rw [List.getElem?_map, Array.getElem?_toList, ec]
  rfl
def signsE (d : Env → R PV) (env : Env) : R (List PV) := (d env).bind fun p => match p with | .str x => .ok (sgnL x) | _ => .bad
theorem ji_str (h : JE G X W iter d) : JI G X W tg iter (signsE d) := by
  obtain ⟨t, pt, jt⟩ := h
  refine ⟨_, pi_str pt, fun H0 Hf H env σ R s E h => jt H0 Hf H env σ _ s E (PostG.bind h fun p v Hf1 H1 _ g1 r1 h1 => ?_)⟩
  cases r1 with
  | str x => exact ⟨x, rfl, h1 _ Hf1 H1 (Gr.refl g1.sub) (items_str x)⟩
  | _ => exact h1.elim
/-! ### C.name: a whole number that the class holds -/
structure CInt (K : PySem.W.Frag) (mg : Str → Option Value) (x : Str) (C : Addr) (f : Str) (n : Int) : Prop where
  ex : ∃ mc t, ClX.CRead K C mc ∧ PySem.W.findCls K (.ref C) mc f = some (.val (.int n t)) ∧ mg x = some (.ref C)
theorem je_cint {C : Addr} {f : Str} {n : Int} (T : CInt X.K X.mg x C f n) (hg : Gl X x := by rfl) (hd : (x == ("__debug__" : Str)) = false := by decide)
    (hb : attributeBase (.Name x p) f X.env (eval (.Name x p) X.env) = eval (.Name x p) X.env := by rfl) : JE G X W (.Attribute (.Name x p) f pos) (fun _ => .ok (.int n)) := by
  obtain ⟨mc, t, r, k, m⟩ := T.ex
  refine ⟨_, ClX.pe_cval (pe_glob (v := .ref C) hg m rfl hd) hb, fun H0 Hf H env σ Q s E h => ?_⟩
  exact ⟨C, mc, .int n, .int n t, rfl, r, ⟨k, ⟨t, rfl⟩⟩, h (.int n) Hf H (Gr.refl s) (.int n)⟩
end
end J

namespace J
open PySem.Spec PySem PyProof.Rows
open L2 hiding St Takes XE CX takes_of PMk MkP ps_raise mk_of ps_try_as ps_try_many pmk_own passAt passes_call takes0 passL
open L2N hiding St
open Bp (takes0 passL OpS R2S IsI)
section
variable {G : Ga} {X : Cx} {W : WX} {tg e : Expr} {d : Env → R PV} {pos : Pos} {bn : Bnd} {vs : List Nat}
/-! ### a, b, c = e -/
def asgF (bn : Bnd) (d : Env → R PV) (env : Env) : F := liftF (d env) env fun p => match bn p env with | some e' => .nx e' | none => .bad
theorem js_asg (h : JE G X W e d) (hg : JG G X tg bn vs) (hs : swapsWithSole [tg] e pos.line X.env = pure false := by rfl) (hw : swappedStores [tg] e X.env = pure none := by rfl)
    (h1 : (assignEach [tg] X.env).map (·.2) = [assign tg X.env] := by rfl) : JS G X W (.Assign [tg] e pos) (asgF bn d) := by
  obtain ⟨t, pt, jt⟩ := h
  obtain ⟨g, pg, jg⟩ := hg
  refine ⟨_, ps_asg pt pg hs hw h1, fun Hf0 H0 Hf H env σ D S h => jt H0 Hf H env σ _ S.gr.sub S.env (post_lift S h fun p v Hf' H' _ S' r k => ?_)⟩
  refine jg H0 Hf' H' env σ p v _ S'.gr.sub S'.env r ?_
  cases eb : bn p env with
  | none => rw [eb] at k; exact k.elim
  | some e' =>
    rw [eb] at k
    exact fun σ' E' _ => k σ' Hf' H' ⟨S'.gr, E'⟩ (fun _ _ h => h)
/-! ### a <= b <= c of whole numbers -/
def chE (da db dc : Env → R PV) (env : Env) : R PV := (da env).bind fun x => (db env).bind fun y => match x, y with
  | .int i, .int j => if i ≤ j then (dc env).bind fun z => match z with | .int k => .ok (.bl (decide (j ≤ k))) | _ => .bad else .ok (.bl false)
  | _, _ => .bad
theorem je_chain {a b c : Expr} {da db dc : Env → R PV} (ha : JE G X W a da) (hb : JE G X W b db) (hc : JE G X W c dc) (hm : lastMarks [.LtE, .LtE] [b, c] = false := by with_unfolding_all rfl) :
    JE G X W (.Compare a [.LtE, .LtE] [b, c] pos) (chE da db dc) := by
  obtain ⟨ta, pa, ja⟩ := ha
  obtain ⟨tb, pb, jb⟩ := hb
  obtain ⟨tc, pc, jc⟩ := hc
  refine ⟨_, pe_chain op_le op_le pa pb pc hm, fun H0 Hf H env σ Q s E h => ja H0 Hf H env σ _ s E (PostG.bind h fun x v Hf1 H1 _ g1 r1 h1 => ?_)⟩
  refine jb H0 Hf1 H1 env σ _ g1.sub (E.grow g1) (PostG.bind h1 fun y u Hf2 H2 _ g2 r2 h2 => ?_)
  cases r1 with
  | int i =>
    cases r2 with
    | int j =>
      simp only at h2
      refine ⟨i, j, rfl, rfl, decide (i ≤ j), rfl, ?_⟩
      by_cases k : i ≤ j
      · rw [if_pos (decide_eq_true k)]
        rw [if_pos k] at h2
        refine jc H0 Hf2 H2 env σ _ g2.sub ((E.grow g1).grow g2) (PostG.bind h2 fun z w Hf3 H3 _ g3 r3 h3 => ?_)
        cases r3 with
        | int m => exact ⟨j, m, rfl, rfl, h3 _ Hf3 H3 (Gr.refl g3.sub) (.bl _)⟩
        | _ => exact h3.elim
      · rw [if_neg (by rw [decide_eq_false k]; decide)]
        rw [if_neg k] at h2
        exact h2 _ Hf2 H2 (Gr.refl g2.sub) (.bl _)
    | _ => exact h2.elim
  | _ => exact h2.elim
end
end J

namespace J
open PySem.Spec PySem PyProof.Rows
open L2 hiding St Takes XE CX takes_of PMk MkP ps_raise mk_of ps_try_as ps_try_many pmk_own passAt passes_call takes0 passL
open L2N hiding St
open Bp (takes0 passL OpS R2S IsI)

open Bp (s_wall s_BadNumber_init s_as_frac s_gap s_are_figures s_Frac_init s_Frac_read s_Frac_over s_Frac_floor s_Frac_ceiling s_Frac_is_whole s_Frac_str s_Frac_repr s_Frac_bool s_Frac_neg s_Frac_abs s_Frac_add s_Frac_radd s_Frac_sub s_Frac_rsub s_Frac_mul s_Frac_rmul s_Frac_floordiv s_Frac_rfloordiv s_Frac_mod s_Frac_rmod s_Frac_pow s_Frac_eq s_Frac_ne s_Frac_lt s_Frac_le s_Frac_gt s_Frac_ge s_law_cell s_law_gcd s_law_low s_law_number s_law_drawn s_law_text s_law_figures s_law_reading s_law_short s_law_spoilt s_law_integer s_law_is s_law_reads s_law_writes s_law c_wall c_BadNumber_init c_as_frac c_gap c_are_figures c_Frac_init c_Frac_read c_Frac_over c_Frac_floor c_Frac_ceiling c_Frac_is_whole c_Frac_str c_Frac_repr c_Frac_bool c_Frac_neg c_Frac_abs c_Frac_add c_Frac_radd c_Frac_sub c_Frac_rsub c_Frac_mul c_Frac_rmul c_Frac_floordiv c_Frac_rfloordiv c_Frac_mod c_Frac_rmod c_Frac_pow c_Frac_eq c_Frac_ne c_Frac_lt c_Frac_le c_Frac_gt c_Frac_ge c_law_cell c_law_gcd c_law_low c_law_number c_law_drawn c_law_text c_law_figures c_law_reading c_law_short c_law_spoilt c_law_integer c_law_is c_law_reads c_law_writes c_law)
def it_int : Kd → Option Bool := fun c => match c with | .non => some false | .bl => some true | .int => some true | .str => some false | .tup => some false | .lst => some false | .obj 0 => some false | _ => none
def it_bool : Kd → Option Bool := fun c => match c with | .non => some false | .bl => some true | .int => some false | .str => some false | .tup => some false | .lst => some false | .obj 0 => some false | _ => none
def cat_BestError : Nat → Option Bool := fun c => match c with | 3 => some true | 2 => some true | _ => none
def xt_is_BadNumber : Nat → Option Bool := fun c => match c with | 3 => some true | 2 => some false | _ => none
def xt_is_DivisionByZero : Nat → Option Bool := fun c => match c with | 3 => some false | 2 => some true | _ => none
def xt_is_ValueError : Nat → Option Bool := fun c => match c with | 3 => some true | 2 => some true | _ => none
def it_str : Kd → Option Bool := fun c => match c with | .non => some false | .bl => some false | .int => some false | .str => some true | .tup => some false | .lst => some false | .obj 0 => some false | _ => none
def it_Frac : Kd → Option Bool := fun c => match c with | .non => some false | .bl => some false | .int => some false | .str => some false | .tup => some false | .lst => some false | .obj 0 => some true | _ => none
def it_int_Frac : Kd → Option Bool := fun c => match c with | .non => some false | .bl => some true | .int => some true | .str => some false | .tup => some false | .lst => some false | .obj 0 => some true | _ => none
structure TX (mg : Str → Option Value) (G : Gb) : Prop where
  ci_Frac_MOST_FIGURES : CInt G.K mg "Frac" (G.cm 0) "MOST_FIGURES" 40
  b_isinstance : mg "isinstance" = none
  b_int : mg "int" = none
  hit_int : IsT G (.type "int") it_int
  b_bool : mg "bool" = none
  hit_bool : IsT G (.type "bool") it_bool
  f_law_integer : Bp.GFun G.K mg "_law_integer" s_law_integer ["told", "due"]
  b_len : mg "len" = none
  f_law_cell : Bp.GFun G.K mg "_law_cell" s_law_cell ["script", "k"]
  b_range : mg "range" = none
  f_law_number : Bp.GFun G.K mg "_law_number" s_law_number ["script", "k", "figures"]
  b_abs : mg "abs" = none
  f_law_gcd : Bp.GFun G.K mg "_law_gcd" s_law_gcd ["first", "second"]
  f_law_low : Bp.GFun G.K mg "_law_low" s_law_low ["num", "den"]
  f_law_drawn : Bp.GFun G.K mg "_law_drawn" s_law_drawn ["script"]
  b_str : mg "str" = none
  f_law_text : Bp.GFun G.K mg "_law_text" s_law_text ["value"]
  f_law_figures : Bp.GFun G.K mg "_law_figures" s_law_figures ["word"]
  f_law_reading : Bp.GFun G.K mg "_law_reading" s_law_reading ["text"]
  hcat_BestError : ∀ c b, cat_BestError c = some b → PySem.W.exmOne G.K (.ref (G.cm c)) (.ref (G.cm 1)) = some b
  f_are_figures : Bp.GFun G.K mg "are_figures" s_are_figures ["text"]
  x_BadNumber : ∃ f fd, L2.Fun G.K "__init__" "BadNumber.__init__" s_BadNumber_init f fd ∧ OexC G.K (G.cm 3) ∧ PySem.W.findIn G.K (.ref (G.cm 3)) "__init__" = some (some (.ref f)) ∧ PySem.W.typeIn G.K (.ref f) = some (.type "function") ∧ L2.Binds G.K fd ["self", "text"] []
  nx_BadNumber_text : PySem.W.findIn G.K (.ref (G.cm 3)) "text" = some none
  g_BadNumber : mg "BadNumber" = some (.ref (G.cm 3))
  fi : FrI G.K mg (G.cm 0) (G.cm 2)
  cl_Frac : Cls G.K (G.cm 0)
  na_Frac_den : NoAttr G.K (G.cm 0) "den"
  na_Frac_num : NoAttr G.K (G.cm 0) "num"
  m_Frac_str : Bp.MFun G.K (G.cm 0) "__str__" "Frac.__str__" s_Frac_str ["self"]
  sm_Frac_read : SFun G.K mg "Frac" (G.cm 0) "read" "Frac.read" s_Frac_read ["text"]
  hxt_is_BadNumber : ∀ c b, xt_is_BadNumber c = some b → ExcC G.K (G.cm c) ∧ PySem.W.kitOne G.K (.ref (G.cm c)) (.ref (G.cm 3)) = some b
  g_DivisionByZero : mg "DivisionByZero" = some (.ref (G.cm 2))
  hxt_is_DivisionByZero : ∀ c b, xt_is_DivisionByZero c = some b → ExcC G.K (G.cm c) ∧ PySem.W.kitOne G.K (.ref (G.cm c)) (.ref (G.cm 2)) = some b
  b_ValueError : mg "ValueError" = none
  hxt_is_ValueError : ∀ c b, xt_is_ValueError c = some b → ExcC G.K (G.cm c) ∧ PySem.W.kitOne G.K (.ref (G.cm c)) (.type "ValueError") = some b
  xf_BadNumber : XfC G.K (G.cm 3)
  hit_str : IsT G (.type "str") it_str
  g_BestError : mg "BestError" = some (.ref (G.cm 1))
  g_Frac : mg "Frac" = some (.ref (G.cm 0))
  hit_Frac : IsT G (.ref (G.cm 0)) it_Frac
  f_law_is : Bp.GFun G.K mg "_law_is" s_law_is ["told", "due"]
  f_law_reads : Bp.GFun G.K mg "_law_reads" s_law_reads ["text"]
  f_law_short : Bp.GFun G.K mg "_law_short" s_law_short ["k"]
  f_law_spoilt : Bp.GFun G.K mg "_law_spoilt" s_law_spoilt ["value", "kind", "place", "char"]
  hit_int_Frac : IsTs G [.type "int", .ref (G.cm 0)] it_int_Frac
  f_as_frac : Bp.GFun G.K mg "as_frac" s_as_frac ["number"]
  m_Frac_mul : Bp.MFun G.K (G.cm 0) "__mul__" "Frac.__mul__" s_Frac_mul ["self", "other"]
  ow_Frac : OwT G.K (G.cm 0)
  of_Frac_mul : OpF G.K (G.cm 0) "mul"
  m_Frac_neg : Bp.MFun G.K (G.cm 0) "__neg__" "Frac.__neg__" s_Frac_neg ["self"]
  f_law_writes : Bp.GFun G.K mg "_law_writes" s_law_writes ["value", "other"]
  f_law : Bp.GFun G.K mg "law" s_law ["script"]
end J

namespace J
open PySem.Spec PySem PyProof.Rows
open L2 hiding St Takes XE CX takes_of PMk MkP ps_raise mk_of ps_try_as ps_try_many pmk_own passAt passes_call takes0 passL
open L2N hiding St
open Bp (takes0 passL OpS R2S IsI)
open Bp (s_wall s_BadNumber_init s_as_frac s_gap s_are_figures s_Frac_init s_Frac_read s_Frac_over s_Frac_floor s_Frac_ceiling s_Frac_is_whole s_Frac_str s_Frac_repr s_Frac_bool s_Frac_neg s_Frac_abs s_Frac_add s_Frac_radd s_Frac_sub s_Frac_rsub s_Frac_mul s_Frac_rmul s_Frac_floordiv s_Frac_rfloordiv s_Frac_mod s_Frac_rmod s_Frac_pow s_Frac_eq s_Frac_ne s_Frac_lt s_Frac_le s_Frac_gt s_Frac_ge s_law_cell s_law_gcd s_law_low s_law_number s_law_drawn s_law_text s_law_figures s_law_reading s_law_short s_law_spoilt s_law_integer s_law_is s_law_reads s_law_writes s_law c_wall c_BadNumber_init c_as_frac c_gap c_are_figures c_Frac_init c_Frac_read c_Frac_over c_Frac_floor c_Frac_ceiling c_Frac_is_whole c_Frac_str c_Frac_repr c_Frac_bool c_Frac_neg c_Frac_abs c_Frac_add c_Frac_radd c_Frac_sub c_Frac_rsub c_Frac_mul c_Frac_rmul c_Frac_floordiv c_Frac_rfloordiv c_Frac_mod c_Frac_rmod c_Frac_pow c_Frac_eq c_Frac_ne c_Frac_lt c_Frac_le c_Frac_gt c_Frac_ge c_law_cell c_law_gcd c_law_low c_law_number c_law_drawn c_law_text c_law_figures c_law_reading c_law_short c_law_spoilt c_law_integer c_law_is c_law_reads c_law_writes c_law)
noncomputable def p_law_integer : Env → F := (retF (andV (un1 (isiP it_int) (rdV 0)) (andV (notV (un1 (isiP it_bool) (rdV 0))) (bin2 eqS (rdV 0) (rdV 1)))))
noncomputable def f_law_integer : List PV → R PV := fnJ 2 2 p_law_integer
theorem d_law_integer {P : Program} {w : World} {K : PySem.W.Frag} {mg : Str → Option Value} {base : Heap} {cm : Nat → Addr} (T : TX mg ⟨K, cm⟩) : Bp.Def P w K mg base 1 "_law_integer" ["told", "due"] (spJ ⟨K, cm⟩ f_law_integer) := jdef T.f_law_integer c_law_integer fun f cdv A outer s H E hr => (jss_one (js_ret (je_and (je_isi T.hit_int rfl T.b_isinstance (je_var 0) (pe_bltn (v := .ty "int") rfl T.b_int (by decide +kernel) rfl) (.ty _)) (je_and (je_not (je_isi T.hit_bool rfl T.b_isinstance (je_var 0) (pe_bltn (v := .ty "bool") rfl T.b_bool (by decide +kernel) rfl) (.ty _))) (je_one (je_cmp o_eq (je_var 0) (je_var 1)))))))
noncomputable def p_law_cell : Env → F := (seqF (iteF (toB (bin2 ltI (rdV 1) (callE lenB (argsC (rdV 0) args0))))
  (retF (bin2 modI (callE intB (argsC (bin2 ixP (rdV 0) (rdV 1)) args0)) (bin2 powI (fun _ => .ok (.int 10)) (fun _ => .ok (.int 18)))))
  nextF)
  (retF (bin2 addI (bin2 mulI (fun _ => .ok (.int 5)) (rdV 1)) (fun _ => .ok (.int 1)))))
noncomputable def f_law_cell : List PV → R PV := fnJ 2 2 p_law_cell
theorem d_law_cell {P : Program} {w : World} {K : PySem.W.Frag} {mg : Str → Option Value} {base : Heap} {cm : Nat → Addr} (T : TX mg ⟨K, cm⟩) : Bp.Def P w K mg base 1 "_law_cell" ["script", "k"] (spJ ⟨K, cm⟩ f_law_cell) := jdef T.f_law_cell c_law_cell fun f cdv A outer s H E hr => (jss_cons (js_if (jt_cmp o_lt (je_var 1) (je_callB (b_len rfl) T.b_len (by decide +kernel) (ja_cons (je_var 0) ja_nil)))
      (jss_one (js_ret (je_op o_mod (je_callT b_int T.b_int (by decide +kernel) (ja_cons (je_ix rfl (je_var 0) (je_var 1)) ja_nil)) (je_op o_pow je_int je_int))))
      jss_nil)
      (jss_one (js_ret (je_op o_add (je_op o_mul je_int (je_var 1)) je_int))))
noncomputable def lb_law_number_1 : Env → F := (setF 3 (bin2 addI (bin2 mulI (rdV 3) (bin2 powI (fun _ => .ok (.int 10)) (fun _ => .ok (.int 18)))) (callE f_law_cell (argsC (rdV 0) (argsC (bin2 addI (rdV 1) (rdV 4)) args0)))))
noncomputable def lb_law_number_2 : Env → F := (setF 5 (bin2 mulI (rdV 5) (fun _ => .ok (.int 10))))
noncomputable def p_law_number : Env → F := (seqF (setF 3 (fun _ => .ok (.int 0)))
  (seqF (forE (fun env => ((argsC (fun _ => .ok (.int 3)) args0) env).bind rng1) (bdN 4) lb_law_number_1)
  (seqF (setF 5 (fun _ => .ok (.int 1)))
  (seqF (forE (fun env => ((argsC (bin2 subI (rdV 2) (fun _ => .ok (.int 1))) args0) env).bind rng1) (bdN 4) lb_law_number_2)
  (retF (bin2 addI (rdV 5) (bin2 modI (callE intB (argsC (rdV 3) args0)) (bin2 mulI (fun _ => .ok (.int 9)) (rdV 5)))))))))
noncomputable def f_law_number : List PV → R PV := fnJ 3 6 p_law_number
theorem d_law_number {P : Program} {w : World} {K : PySem.W.Frag} {mg : Str → Option Value} {base : Heap} {cm : Nat → Addr} (T : TX mg ⟨K, cm⟩) : Bp.Def P w K mg base 2 "_law_number" ["script", "k", "figures"] (spJ ⟨K, cm⟩ f_law_number) := jdef T.f_law_number c_law_number fun f cdv A outer s H E hr => (jss_cons (js_set 3 c_law_number.nd je_int)
      (jss_cons (js_for (vs := [4]) (passes_of rfl) rfl (ji_rng1 T.b_range (ja_cons je_int ja_nil)) (jg_name 4 c_law_number.nd (by decide))
      (jss_one (js_set 3 c_law_number.nd (je_op o_add (je_op o_mul (je_var 3) (je_op o_pow je_int je_int)) (je_call (d_law_cell T) (hr.mono (by decide)) (takes_of rfl rfl rfl rfl) (ja_cons (je_var 0) (ja_cons (je_op o_add (je_var 1) (je_var 4)) ja_nil)))))))
      (jss_cons (js_set 5 c_law_number.nd je_int)
      (jss_cons (js_for (vs := [4]) (passes_of rfl) rfl (ji_rng1 T.b_range (ja_cons (je_op o_sub (je_var 2) je_int) ja_nil)) (jg_name 4 c_law_number.nd (by decide))
      (jss_one (js_set 5 c_law_number.nd (je_op o_mul (je_var 5) je_int))))
      (jss_one (js_ret (je_op o_add (je_var 5) (je_op o_mod (je_callT b_int T.b_int (by decide +kernel) (ja_cons (je_var 3) ja_nil)) (je_op o_mul je_int (je_var 5))))))))))
noncomputable def lb_law_gcd_1 : Env → F := (seqF (setF 2 (bin2 modI (callE intB (argsC (rdV 0) args0)) (rdV 1)))
  (seqF (setF 0 (rdV 1))
  (setF 1 (rdV 2))))
noncomputable def p_law_gcd : Env → F := (seqF (setF 0 (callE absB (argsC (rdV 0) args0)))
  (seqF (setF 1 (callE absB (argsC (rdV 1) args0)))
  (seqF (whileE (fuelI 1) (toB (bin2 neS (rdV 1) (fun _ => .ok (.int 0))))
  lb_law_gcd_1)
  (retF (rdV 0)))))
noncomputable def f_law_gcd : List PV → R PV := fnJ 2 3 p_law_gcd
theorem d_law_gcd {P : Program} {w : World} {K : PySem.W.Frag} {mg : Str → Option Value} {base : Heap} {cm : Nat → Addr} (T : TX mg ⟨K, cm⟩) : Bp.Def P w K mg base 1 "_law_gcd" ["first", "second"] (spJ ⟨K, cm⟩ f_law_gcd) := jdef T.f_law_gcd c_law_gcd fun f cdv A outer s H E hr => (jss_cons (js_set 0 c_law_gcd.nd (je_callB b_abs T.b_abs (by decide +kernel) (ja_cons (je_var 0) ja_nil)))
      (jss_cons (js_set 1 c_law_gcd.nd (je_callB b_abs T.b_abs (by decide +kernel) (ja_cons (je_var 1) ja_nil)))
      (jss_cons (js_while (fuelI 1) (passes_of rfl) (jt_cmp o_ne (je_var 1) je_int)
      (jss_cons (js_set 2 c_law_gcd.nd (je_op o_mod (je_callT b_int T.b_int (by decide +kernel) (ja_cons (je_var 0) ja_nil)) (je_var 1)))
      (jss_cons (js_set 0 c_law_gcd.nd (je_var 1))
      (jss_one (js_set 1 c_law_gcd.nd (je_var 2))))))
      (jss_one (js_ret (je_var 0))))))
end J

namespace J
open PySem.Spec PySem PyProof.Rows
open L2 hiding St Takes XE CX takes_of PMk MkP ps_raise mk_of ps_try_as ps_try_many pmk_own passAt passes_call takes0 passL
open L2N hiding St
open Bp (takes0 passL OpS R2S IsI)
open Bp (s_wall s_BadNumber_init s_as_frac s_gap s_are_figures s_Frac_init s_Frac_read s_Frac_over s_Frac_floor s_Frac_ceiling s_Frac_is_whole s_Frac_str s_Frac_repr s_Frac_bool s_Frac_neg s_Frac_abs s_Frac_add s_Frac_radd s_Frac_sub s_Frac_rsub s_Frac_mul s_Frac_rmul s_Frac_floordiv s_Frac_rfloordiv s_Frac_mod s_Frac_rmod s_Frac_pow s_Frac_eq s_Frac_ne s_Frac_lt s_Frac_le s_Frac_gt s_Frac_ge s_law_cell s_law_gcd s_law_low s_law_number s_law_drawn s_law_text s_law_figures s_law_reading s_law_short s_law_spoilt s_law_integer s_law_is s_law_reads s_law_writes s_law c_wall c_BadNumber_init c_as_frac c_gap c_are_figures c_Frac_init c_Frac_read c_Frac_over c_Frac_floor c_Frac_ceiling c_Frac_is_whole c_Frac_str c_Frac_repr c_Frac_bool c_Frac_neg c_Frac_abs c_Frac_add c_Frac_radd c_Frac_sub c_Frac_rsub c_Frac_mul c_Frac_rmul c_Frac_floordiv c_Frac_rfloordiv c_Frac_mod c_Frac_rmod c_Frac_pow c_Frac_eq c_Frac_ne c_Frac_lt c_Frac_le c_Frac_gt c_Frac_ge c_law_cell c_law_gcd c_law_low c_law_number c_law_drawn c_law_text c_law_figures c_law_reading c_law_short c_law_spoilt c_law_integer c_law_is c_law_reads c_law_writes c_law)
noncomputable def p_law_low : Env → F := (seqF (setF 2 (callE f_law_gcd (argsC (rdV 0) (argsC (rdV 1) args0))))
  (retF (tupE (argsC (bin2 fdivI (rdV 0) (rdV 2)) (argsC (bin2 fdivI (rdV 1) (rdV 2)) args0)))))
noncomputable def f_law_low : List PV → R PV := fnJ 2 3 p_law_low
theorem d_law_low {P : Program} {w : World} {K : PySem.W.Frag} {mg : Str → Option Value} {base : Heap} {cm : Nat → Addr} (T : TX mg ⟨K, cm⟩) : Bp.Def P w K mg base 2 "_law_low" ["num", "den"] (spJ ⟨K, cm⟩ f_law_low) := jdef T.f_law_low c_law_low fun f cdv A outer s H E hr => (jss_cons (js_set 2 c_law_low.nd (je_call (d_law_gcd T) (hr.mono (by decide)) (takes_of rfl rfl rfl rfl) (ja_cons (je_var 0) (ja_cons (je_var 1) ja_nil))))
      (jss_one (js_ret (je_tup (ja_cons (je_op o_fdiv (je_var 0) (je_var 2)) (ja_cons (je_op o_fdiv (je_var 1) (je_var 2)) ja_nil))))))
noncomputable def p_law_drawn : Env → F := (seqF (setF 1 (bin2 addI (fun _ => .ok (.int 1)) (bin2 modI (callE intB (argsC (callE f_law_cell (argsC (rdV 0) (argsC (fun _ => .ok (.int 0)) args0))) args0)) (fun _ => .ok (.int 41)))))
  (seqF (setF 2 (bin2 addI (fun _ => .ok (.int 1)) (bin2 modI (callE intB (argsC (bin2 fdivI (callE f_law_cell (argsC (rdV 0) (argsC (fun _ => .ok (.int 4)) args0))) (fun _ => .ok (.int 3))) args0)) (fun _ => .ok (.int 41)))))
  (seqF (setF 3 (callE f_law_cell (argsC (rdV 0) (argsC (fun _ => .ok (.int 8)) args0))))
  (seqF (setF 4 (bin2 modI (callE intB (argsC (bin2 fdivI (rdV 3) (fun _ => .ok (.int 18))) args0)) (fun _ => .ok (.int 8))))
  (seqF (iteF (orT (toB (bin2 eqS (rdV 4) (fun _ => .ok (.int 1)))) (toB (bin2 eqS (rdV 4) (fun _ => .ok (.int 5)))))
  (setF 1 (fun _ => .ok (.int 40)))
  nextF)
  (seqF (iteF (toB (bin2 eqS (rdV 4) (fun _ => .ok (.int 2))))
  (setF 1 (fun _ => .ok (.int 41)))
  nextF)
  (seqF (iteF (orT (toB (bin2 eqS (rdV 4) (fun _ => .ok (.int 3)))) (toB (bin2 eqS (rdV 4) (fun _ => .ok (.int 5)))))
  (setF 2 (fun _ => .ok (.int 40)))
  nextF)
  (seqF (iteF (toB (bin2 eqS (rdV 4) (fun _ => .ok (.int 4))))
  (setF 2 (fun _ => .ok (.int 41)))
  nextF)
  (seqF (setF 5 (callE f_law_number (argsC (rdV 0) (argsC (fun _ => .ok (.int 1)) (argsC (rdV 1) args0)))))
  (seqF (setF 6 (fun _ => .ok (.int 1)))
  (seqF (iteF (toB (bin2 neS (bin2 modI (callE intB (argsC (callE f_law_cell (argsC (rdV 0) (argsC (fun _ => .ok (.int 4)) args0))) args0)) (fun _ => .ok (.int 3))) (fun _ => .ok (.int 0))))
  (setF 6 (callE f_law_number (argsC (rdV 0) (argsC (fun _ => .ok (.int 5)) (argsC (rdV 2) args0)))))
  nextF)
  (seqF (iteF (toB (bin2 eqS (bin2 modI (callE intB (argsC (rdV 3) args0)) (fun _ => .ok (.int 2))) (fun _ => .ok (.int 1))))
  (setF 5 (un1 negI (rdV 5)))
  nextF)
  (seqF (iteF (toB (bin2 eqS (bin2 modI (callE intB (argsC (bin2 fdivI (rdV 3) (fun _ => .ok (.int 2))) args0)) (fun _ => .ok (.int 9))) (fun _ => .ok (.int 4))))
  (setF 5 (fun _ => .ok (.int 0)))
  nextF)
  (retF (callE f_law_low (argsC (rdV 5) (argsC (rdV 6) args0)))))))))))))))))
noncomputable def f_law_drawn : List PV → R PV := fnJ 1 7 p_law_drawn
theorem d_law_drawn {P : Program} {w : World} {K : PySem.W.Frag} {mg : Str → Option Value} {base : Heap} {cm : Nat → Addr} (T : TX mg ⟨K, cm⟩) : Bp.Def P w K mg base 3 "_law_drawn" ["script"] (spJ ⟨K, cm⟩ f_law_drawn) := jdef T.f_law_drawn c_law_drawn fun f cdv A outer s H E hr => (jss_cons (js_set 1 c_law_drawn.nd (je_op o_add je_int (je_op o_mod (je_callT b_int T.b_int (by decide +kernel) (ja_cons (je_call (d_law_cell T) (hr.mono (by decide)) (takes_of rfl rfl rfl rfl) (ja_cons (je_var 0) (ja_cons je_int ja_nil))) ja_nil)) je_int)))
      (jss_cons (js_set 2 c_law_drawn.nd (je_op o_add je_int (je_op o_mod (je_callT b_int T.b_int (by decide +kernel) (ja_cons (je_op o_fdiv (je_call (d_law_cell T) (hr.mono (by decide)) (takes_of rfl rfl rfl rfl) (ja_cons (je_var 0) (ja_cons je_int ja_nil))) je_int) ja_nil)) je_int)))
      (jss_cons (js_set 3 c_law_drawn.nd (je_call (d_law_cell T) (hr.mono (by decide)) (takes_of rfl rfl rfl rfl) (ja_cons (je_var 0) (ja_cons je_int ja_nil))))
      (jss_cons (js_set 4 c_law_drawn.nd (je_op o_mod (je_callT b_int T.b_int (by decide +kernel) (ja_cons (je_op o_fdiv (je_var 3) je_int) ja_nil)) je_int))
      (jss_cons (js_if (jt_w (jw_or (jt_cmp o_eq (je_var 4) je_int) (jw_or1 (jt_cmp o_eq (je_var 4) je_int))))
      (jss_one (js_set 1 c_law_drawn.nd je_int))
      jss_nil)
      (jss_cons (js_if (jt_cmp o_eq (je_var 4) je_int)
      (jss_one (js_set 1 c_law_drawn.nd je_int))
      jss_nil)
      (jss_cons (js_if (jt_w (jw_or (jt_cmp o_eq (je_var 4) je_int) (jw_or1 (jt_cmp o_eq (je_var 4) je_int))))
      (jss_one (js_set 2 c_law_drawn.nd je_int))
      jss_nil)
      (jss_cons (js_if (jt_cmp o_eq (je_var 4) je_int)
      (jss_one (js_set 2 c_law_drawn.nd je_int))
      jss_nil)
      (jss_cons (js_set 5 c_law_drawn.nd (je_call (d_law_number T) (hr.mono (by decide)) (takes_of rfl rfl rfl rfl) (ja_cons (je_var 0) (ja_cons je_int (ja_cons (je_var 1) ja_nil)))))
      (jss_cons (js_set 6 c_law_drawn.nd je_int)
      (jss_cons (js_if (jt_cmp o_ne (je_op o_mod (je_callT b_int T.b_int (by decide +kernel) (ja_cons (je_call (d_law_cell T) (hr.mono (by decide)) (takes_of rfl rfl rfl rfl) (ja_cons (je_var 0) (ja_cons je_int ja_nil))) ja_nil)) je_int) je_int)
      (jss_one (js_set 6 c_law_drawn.nd (je_call (d_law_number T) (hr.mono (by decide)) (takes_of rfl rfl rfl rfl) (ja_cons (je_var 0) (ja_cons je_int (ja_cons (je_var 2) ja_nil))))))
      jss_nil)
      (jss_cons (js_if (jt_cmp o_eq (je_op o_mod (je_callT b_int T.b_int (by decide +kernel) (ja_cons (je_var 3) ja_nil)) je_int) je_int)
      (jss_one (js_set 5 c_law_drawn.nd (je_un u_neg (je_var 5))))
      jss_nil)
      (jss_cons (js_if (jt_cmp o_eq (je_op o_mod (je_callT b_int T.b_int (by decide +kernel) (ja_cons (je_op o_fdiv (je_var 3) je_int) ja_nil)) je_int) je_int)
      (jss_one (js_set 5 c_law_drawn.nd je_int))
      jss_nil)
      (jss_one (js_ret (je_call (d_law_low T) (hr.mono (by decide)) (takes_of rfl rfl rfl rfl) (ja_cons (je_var 5) (ja_cons (je_var 6) ja_nil))))))))))))))))))
noncomputable def p_law_text : Env → F := (seqF (setF 1 (callE strB (argsC (bin2 ixP (rdV 0) (fun _ => .ok (.int 0))) args0)))
  (seqF (iteF (toB (bin2 neS (bin2 ixP (rdV 0) (fun _ => .ok (.int 1))) (fun _ => .ok (.int 1))))
  (setF 1 (bin2 catX (bin2 catX (rdV 1) (fun _ => .ok (.str "/"))) (callE strB (argsC (bin2 ixP (rdV 0) (fun _ => .ok (.int 1))) args0))))
  nextF)
  (retF (rdV 1))))
noncomputable def f_law_text : List PV → R PV := fnJ 1 2 p_law_text
theorem d_law_text {P : Program} {w : World} {K : PySem.W.Frag} {mg : Str → Option Value} {base : Heap} {cm : Nat → Addr} (T : TX mg ⟨K, cm⟩) : Bp.Def P w K mg base 1 "_law_text" ["value"] (spJ ⟨K, cm⟩ f_law_text) := jdef T.f_law_text c_law_text fun f cdv A outer s H E hr => (jss_cons (js_set 1 c_law_text.nd (je_callT b_str T.b_str (by decide +kernel) (ja_cons (je_ix rfl (je_var 0) je_int) ja_nil)))
      (jss_cons (js_if (jt_cmp o_ne (je_ix rfl (je_var 0) je_int) je_int)
      (jss_one (js_set 1 c_law_text.nd (je_op o_catX (je_op o_catX (je_var 1) je_str) (je_callT b_str T.b_str (by decide +kernel) (ja_cons (je_ix rfl (je_var 0) je_int) ja_nil)))))
      jss_nil)
      (jss_one (js_ret (je_var 1)))))
noncomputable def lb_law_figures_1 : Env → F := (iteF (toB (bin2 ninX (rdV 1) (fun _ => .ok (.str "0123456789"))))
  (retF (un1 negI (fun _ => .ok (.int 1))))
  nextF)
noncomputable def p_law_figures : Env → F := (seqF (iteF (orT (toB (bin2 eqS (rdV 0) (fun _ => .ok (.str "")))) (orT (toB (bin2 gtI (callE lenB (argsC (rdV 0) args0)) (fun _ => .ok (.int 40)))) (andT (toB (bin2 gtI (callE lenB (argsC (rdV 0) args0)) (fun _ => .ok (.int 1)))) (toB (bin2 eqS (bin2 ixX (rdV 0) (fun _ => .ok (.int 0))) (fun _ => .ok (.str "0")))))))
  (retF (un1 negI (fun _ => .ok (.int 1))))
  nextF)
  (seqF (forE (signsE (rdV 0)) (bdN 1) lb_law_figures_1)
  (retF (callE intS (argsC (rdV 0) args0)))))
noncomputable def f_law_figures : List PV → R PV := fnJ 1 2 p_law_figures
theorem d_law_figures {P : Program} {w : World} {K : PySem.W.Frag} {mg : Str → Option Value} {base : Heap} {cm : Nat → Addr} (T : TX mg ⟨K, cm⟩) : Bp.Def P w K mg base 1 "_law_figures" ["word"] (spJ ⟨K, cm⟩ f_law_figures) := jdef T.f_law_figures c_law_figures fun f cdv A outer s H E hr => (jss_cons (js_if (jt_w (jw_or (jt_cmp o_eq (je_var 0) je_str) (jw_or (jt_cmp o_gt (je_callB (b_len rfl) T.b_len (by decide +kernel) (ja_cons (je_var 0) ja_nil)) je_int) (jw_or1 (jt_w (jw_and (jt_cmp o_gt (je_callB (b_len rfl) T.b_len (by decide +kernel) (ja_cons (je_var 0) ja_nil)) je_int) (jw_and1 (jt_cmp o_eq (je_ixX (je_var 0) je_int) je_str))))))))
      (jss_one (js_ret (je_un u_neg je_int)))
      jss_nil)
      (jss_cons (js_for (vs := [1]) (passes_of rfl) rfl (ji_str (je_var 0)) (jg_name 1 c_law_figures.nd (by decide))
      (jss_one (js_if (jt_cmp o_ninX (je_var 1) je_str)
      (jss_one (js_ret (je_un u_neg je_int)))
      jss_nil)))
      (jss_one (js_ret (je_callT b_intS T.b_int (by decide +kernel) (ja_cons (je_var 0) ja_nil))))))
end J

namespace J
open PySem.Spec PySem PyProof.Rows
open L2 hiding St Takes XE CX takes_of PMk MkP ps_raise mk_of ps_try_as ps_try_many pmk_own passAt passes_call takes0 passL
open L2N hiding St
open Bp (takes0 passL OpS R2S IsI)
open Bp (s_wall s_BadNumber_init s_as_frac s_gap s_are_figures s_Frac_init s_Frac_read s_Frac_over s_Frac_floor s_Frac_ceiling s_Frac_is_whole s_Frac_str s_Frac_repr s_Frac_bool s_Frac_neg s_Frac_abs s_Frac_add s_Frac_radd s_Frac_sub s_Frac_rsub s_Frac_mul s_Frac_rmul s_Frac_floordiv s_Frac_rfloordiv s_Frac_mod s_Frac_rmod s_Frac_pow s_Frac_eq s_Frac_ne s_Frac_lt s_Frac_le s_Frac_gt s_Frac_ge s_law_cell s_law_gcd s_law_low s_law_number s_law_drawn s_law_text s_law_figures s_law_reading s_law_short s_law_spoilt s_law_integer s_law_is s_law_reads s_law_writes s_law c_wall c_BadNumber_init c_as_frac c_gap c_are_figures c_Frac_init c_Frac_read c_Frac_over c_Frac_floor c_Frac_ceiling c_Frac_is_whole c_Frac_str c_Frac_repr c_Frac_bool c_Frac_neg c_Frac_abs c_Frac_add c_Frac_radd c_Frac_sub c_Frac_rsub c_Frac_mul c_Frac_rmul c_Frac_floordiv c_Frac_rfloordiv c_Frac_mod c_Frac_rmod c_Frac_pow c_Frac_eq c_Frac_ne c_Frac_lt c_Frac_le c_Frac_gt c_Frac_ge c_law_cell c_law_gcd c_law_low c_law_number c_law_drawn c_law_text c_law_figures c_law_reading c_law_short c_law_spoilt c_law_integer c_law_is c_law_reads c_law_writes c_law)
noncomputable def p_law_reading : Env → F := (seqF (setF 1 (fun _ => .ok (.int 1)))
  (seqF (iteF (toB (bin2 eqS (sliceX (rdV 0) noB (someB (fun _ => .ok (.int 1)))) (fun _ => .ok (.str "-"))))
  (seqF (setF 1 (un1 negI (fun _ => .ok (.int 1))))
  (setF 0 (sliceX (rdV 0) (someB (fun _ => .ok (.int 1))) noB)))
  nextF)
  (seqF (setF 2 (tm1 splitT (rdV 0) (fun _ => .ok (.str "/"))))
  (seqF (iteF (toB (bin2 gtI (callE lenB (argsC (rdV 2) args0)) (fun _ => .ok (.int 2))))
  (retF (fun _ => .ok .non))
  nextF)
  (seqF (setF 3 (callE f_law_figures (argsC (bin2 ixP (rdV 2) (fun _ => .ok (.int 0))) args0)))
  (seqF (setF 4 (fun _ => .ok (.int 1)))
  (seqF (iteF (toB (bin2 eqS (callE lenB (argsC (rdV 2) args0)) (fun _ => .ok (.int 2))))
  (seqF (setF 4 (callE f_law_figures (argsC (bin2 ixP (rdV 2) (fun _ => .ok (.int 1))) args0)))
  (iteF (toB (bin2 ltI (rdV 4) (fun _ => .ok (.int 2))))
  (retF (fun _ => .ok .non))
  nextF))
  nextF)
  (seqF (iteF (orT (toB (bin2 ltI (rdV 3) (fun _ => .ok (.int 0)))) (andT (toB (bin2 eqS (rdV 3) (fun _ => .ok (.int 0)))) (orT (toB (bin2 ltI (rdV 1) (fun _ => .ok (.int 0)))) (toB (bin2 neS (rdV 4) (fun _ => .ok (.int 1)))))))
  (retF (fun _ => .ok .non))
  nextF)
  (seqF (iteF (toB (bin2 neS (callE f_law_gcd (argsC (rdV 3) (argsC (rdV 4) args0))) (fun _ => .ok (.int 1))))
  (retF (fun _ => .ok .non))
  nextF)
  (retF (tupE (argsC (bin2 mulI (rdV 1) (rdV 3)) (argsC (rdV 4) args0)))))))))))))
noncomputable def f_law_reading : List PV → R PV := fnJ 1 5 p_law_reading
theorem d_law_reading {P : Program} {w : World} {K : PySem.W.Frag} {mg : Str → Option Value} {base : Heap} {cm : Nat → Addr} (T : TX mg ⟨K, cm⟩) : Bp.Def P w K mg base 2 "_law_reading" ["text"] (spJ ⟨K, cm⟩ f_law_reading) := jdef T.f_law_reading c_law_reading fun f cdv A outer s H E hr => (jss_cons (js_set 1 c_law_reading.nd je_int)
      (jss_cons (js_if (jt_cmp o_eq (je_sliceX (je_var 0) jo_none (jo_some je_int)) je_str)
      (jss_cons (js_set 1 c_law_reading.nd (je_un u_neg je_int))
      (jss_one (js_set 0 c_law_reading.nd (je_sliceX (je_var 0) (jo_some je_int) jo_none))))
      jss_nil)
      (jss_cons (js_set 2 c_law_reading.nd (je_tm1 PySem.F.slot_str_split PySem.F.type_str_split m_split (je_var 0) je_str))
      (jss_cons (js_if (jt_cmp o_gt (je_callB (b_len rfl) T.b_len (by decide +kernel) (ja_cons (je_var 2) ja_nil)) je_int)
      (jss_one (js_ret je_non))
      jss_nil)
      (jss_cons (js_set 3 c_law_reading.nd (je_call (d_law_figures T) (hr.mono (by decide)) (takes_of rfl rfl rfl rfl) (ja_cons (je_ix rfl (je_var 2) je_int) ja_nil)))
      (jss_cons (js_set 4 c_law_reading.nd je_int)
      (jss_cons (js_if (jt_cmp o_eq (je_callB (b_len rfl) T.b_len (by decide +kernel) (ja_cons (je_var 2) ja_nil)) je_int)
      (jss_cons (js_set 4 c_law_reading.nd (je_call (d_law_figures T) (hr.mono (by decide)) (takes_of rfl rfl rfl rfl) (ja_cons (je_ix rfl (je_var 2) je_int) ja_nil)))
      (jss_one (js_if (jt_cmp o_lt (je_var 4) je_int)
      (jss_one (js_ret je_non))
      jss_nil)))
      jss_nil)
      (jss_cons (js_if (jt_w (jw_or (jt_cmp o_lt (je_var 3) je_int) (jw_or1 (jt_w (jw_and (jt_cmp o_eq (je_var 3) je_int) (jw_and1 (jt_w (jw_or (jt_cmp o_lt (je_var 1) je_int) (jw_or1 (jt_cmp o_ne (je_var 4) je_int))))))))))
      (jss_one (js_ret je_non))
      jss_nil)
      (jss_cons (js_if (jt_cmp o_ne (je_call (d_law_gcd T) (hr.mono (by decide)) (takes_of rfl rfl rfl rfl) (ja_cons (je_var 3) (ja_cons (je_var 4) ja_nil))) je_int)
      (jss_one (js_ret je_non))
      jss_nil)
      (jss_one (js_ret (je_tup (ja_cons (je_op o_mul (je_var 1) (je_var 3)) (ja_cons (je_var 4) ja_nil))))))))))))))
noncomputable def p_are_figures : Env → F := (retF (andV (chE (fun _ => .ok (.int 1)) (callE lenB (argsC (rdV 0) args0)) (fun _ => .ok (.int 40))) (tm0 isdigT (rdV 0))))
noncomputable def f_are_figures : List PV → R PV := fnJ 1 1 p_are_figures
theorem d_are_figures {P : Program} {w : World} {K : PySem.W.Frag} {mg : Str → Option Value} {base : Heap} {cm : Nat → Addr} (T : TX mg ⟨K, cm⟩) : Bp.Def P w K mg base 1 "are_figures" ["text"] (spJ ⟨K, cm⟩ f_are_figures) := jdef T.f_are_figures c_are_figures fun f cdv A outer s H E hr => (jss_one (js_ret (je_and (je_chain je_int (je_callB (b_len rfl) T.b_len (by decide +kernel) (ja_cons (je_var 0) ja_nil)) (je_cint T.ci_Frac_MOST_FIGURES)) (je_one (je_tm0 PySem.F.slot_str_isdigit PySem.F.type_str_isdigit m_isdigit (je_var 0))))))
theorem e_BadNumber {P : Program} {w : World} {K : PySem.W.Frag} {mg : Str → Option Value} {base : Heap} {cm : Nat → Addr} (T : TX mg ⟨K, cm⟩) : EDef P w K mg base 1 "BadNumber" (cm 3) ["text"] := by
  obtain ⟨f, fd, F, O, iC, tI, b⟩ := T.x_BadNumber
  exact ⟨f, fd, _, T.g_BadNumber, O, iC, tI, b, e1_ok c_BadNumber_init F O T.nx_BadNumber_text (by rfl)⟩
noncomputable def p_Frac_str : Env → F := (seqF (iteF (toB (bin2 eqS (denE (rdV 0)) (fun _ => .ok (.int 1))))
  (retF (callE strB (argsC (numE (rdV 0)) args0)))
  nextF)
  (retF (fstrE [(fmtE (numE (rdV 0))), (fun _ => .ok (.str "/")), (fmtE (denE (rdV 0)))])))
noncomputable def f_Frac_str : List PV → R PV := fnJ 1 1 p_Frac_str
theorem d_Frac_str {P : Program} {w : World} {K : PySem.W.Frag} {mg : Str → Option Value} {base : Heap} {cm : Nat → Addr} (T : TX mg ⟨K, cm⟩) : Bp.MDef P w K mg base 1 (cm 0) "__str__" ["self"] (spJ ⟨K, cm⟩ f_Frac_str) := jmeth T.m_Frac_str c_Frac_str fun f cdv A outer s H E hr => (jss_cons (js_if (jt_cmp o_eq (je_den T.cl_Frac T.na_Frac_den (je_var 0)) je_int)
      (jss_one (js_ret (je_callT b_str T.b_str (by decide +kernel) (ja_cons (je_num T.cl_Frac T.na_Frac_num (je_var 0)) ja_nil))))
      jss_nil)
      (jss_one (js_ret (je_fstr (jj_cons (je_fmt (je_num T.cl_Frac T.na_Frac_num (je_var 0))) (jj_cons je_str (jj_cons (je_fmt (je_den T.cl_Frac T.na_Frac_den (je_var 0))) jj_nil)))))))
noncomputable def p_Frac_read : Env → F := (seqF (asgF (bdT [(bdN 1), (bdN 2), (bdN 3)]) (tm1 partT (rdV 0) (fun _ => .ok (.str "/"))))
  (seqF (iteF (notT (toB (callE f_are_figures (argsC (tm1 rmpreT (rdV 1) (fun _ => .ok (.str "-"))) args0))))
  (raiseF 3 ["text"] (argsC (rdV 0) args0))
  nextF)
  (seqF (iteF (andT (toTru (rdV 2)) (orT (notT (toB (callE f_are_figures (argsC (rdV 3) args0)))) (toB (tm1 startT (rdV 3) (fun _ => .ok (.str "0"))))))
  (raiseF 3 ["text"] (argsC (rdV 0) args0))
  nextF)
  (seqF (setF 4 (mkF2 2 (argsC (callE intS (argsC (rdV 1) args0)) (argsC (iteE (toTru (rdV 2)) (callE intS (argsC (rdV 3) args0)) (fun _ => .ok (.int 1))) args0))))
  (seqF (iteF (toB (bin2 neS (callE (strO 0 f_Frac_str) (argsC (rdV 4) args0)) (rdV 0)))
  (raiseF 3 ["text"] (argsC (rdV 0) args0))
  nextF)
  (retF (rdV 4)))))))
noncomputable def f_Frac_read : List PV → R PV := fnJ 1 5 p_Frac_read
theorem d_Frac_read {P : Program} {w : World} {K : PySem.W.Frag} {mg : Str → Option Value} {base : Heap} {cm : Nat → Addr} (T : TX mg ⟨K, cm⟩) : SDef P w K mg base 4 "Frac" (cm 0) "read" ["text"] (spJ ⟨K, cm⟩ f_Frac_read) := jsm T.sm_Frac_read c_Frac_read fun f cdv A outer s H E hr => (jss_cons (js_asg (vs := [1, 2, 3]) (je_tm1 PySem.F.slot_str_partition PySem.F.type_str_partition m_partition (je_var 0) je_str) (jg_tup rfl rfl (jgs_cons (jg_name 1 c_Frac_read.nd (by decide)) (jgs_cons (jg_name 2 c_Frac_read.nd (by decide)) (jgs_cons (jg_name 3 c_Frac_read.nd (by decide)) jgs_nil)))))
      (jss_cons (js_if (jt_not (jt_val (je_call (d_are_figures T) (hr.mono (by decide)) (takes_of rfl rfl rfl rfl) (ja_cons (je_tm1 PySem.F.slot_str_removeprefix PySem.F.type_str_removeprefix m_removeprefix (je_var 1) je_str) ja_nil))))
      (jss_one (js_raise (c := 3) (e_BadNumber T) rfl (hr.mono (by decide)) (takes_of rfl rfl rfl rfl) (ja_cons (je_var 0) ja_nil)))
      jss_nil)
      (jss_cons (js_if (jt_w (jw_and (jt_tru (je_var 2) rfl) (jw_and1 (jt_w (jw_or (jt_not (jt_val (je_call (d_are_figures T) (hr.mono (by decide)) (takes_of rfl rfl rfl rfl) (ja_cons (je_var 3) ja_nil)))) (jw_or1 (jt_val (je_tm1 PySem.F.slot_str_startswith PySem.F.type_str_startswith m_startswith (je_var 3) je_str))))))))
      (jss_one (js_raise (c := 3) (e_BadNumber T) rfl (hr.mono (by decide)) (takes_of rfl rfl rfl rfl) (ja_cons (je_var 0) ja_nil)))
      jss_nil)
      (jss_cons (js_set 4 c_Frac_read.nd (je_mkF2 (T.fi) (hr.mono (by decide)) (takes_of rfl rfl rfl rfl) (ja_cons (je_callT b_intS T.b_int (by decide +kernel) (ja_cons (je_var 1) ja_nil)) (ja_cons (je_if (jt_tru (je_var 2) rfl) (je_callT b_intS T.b_int (by decide +kernel) (ja_cons (je_var 3) ja_nil)) je_int) ja_nil))))
      (jss_cons (js_if (jt_cmp o_ne (je_callT (b_strO (d_Frac_str T) rfl (hr.mono (by decide))) T.b_str (by decide +kernel) (ja_cons (je_var 4) ja_nil)) (je_var 0))
      (jss_one (js_raise (c := 3) (e_BadNumber T) rfl (hr.mono (by decide)) (takes_of rfl rfl rfl rfl) (ja_cons (je_var 0) ja_nil)))
      jss_nil)
      (jss_one (js_ret (je_var 4))))))))
end J

namespace J
open PySem.Spec PySem PyProof.Rows
open L2 hiding St Takes XE CX takes_of PMk MkP ps_raise mk_of ps_try_as ps_try_many pmk_own passAt passes_call takes0 passL
open L2N hiding St
open Bp (takes0 passL OpS R2S IsI)
open Bp (s_wall s_BadNumber_init s_as_frac s_gap s_are_figures s_Frac_init s_Frac_read s_Frac_over s_Frac_floor s_Frac_ceiling s_Frac_is_whole s_Frac_str s_Frac_repr s_Frac_bool s_Frac_neg s_Frac_abs s_Frac_add s_Frac_radd s_Frac_sub s_Frac_rsub s_Frac_mul s_Frac_rmul s_Frac_floordiv s_Frac_rfloordiv s_Frac_mod s_Frac_rmod s_Frac_pow s_Frac_eq s_Frac_ne s_Frac_lt s_Frac_le s_Frac_gt s_Frac_ge s_law_cell s_law_gcd s_law_low s_law_number s_law_drawn s_law_text s_law_figures s_law_reading s_law_short s_law_spoilt s_law_integer s_law_is s_law_reads s_law_writes s_law c_wall c_BadNumber_init c_as_frac c_gap c_are_figures c_Frac_init c_Frac_read c_Frac_over c_Frac_floor c_Frac_ceiling c_Frac_is_whole c_Frac_str c_Frac_repr c_Frac_bool c_Frac_neg c_Frac_abs c_Frac_add c_Frac_radd c_Frac_sub c_Frac_rsub c_Frac_mul c_Frac_rmul c_Frac_floordiv c_Frac_rfloordiv c_Frac_mod c_Frac_rmod c_Frac_pow c_Frac_eq c_Frac_ne c_Frac_lt c_Frac_le c_Frac_gt c_Frac_ge c_law_cell c_law_gcd c_law_low c_law_number c_law_drawn c_law_text c_law_figures c_law_reading c_law_short c_law_spoilt c_law_integer c_law_is c_law_reads c_law_writes c_law)
noncomputable def p_law_is : Env → F := (seqF (iteF (notT (toB (un1 (isiP it_Frac) (rdV 0))))
  (retF (fun _ => .ok (.bl false)))
  nextF)
  (retF (andV (callE f_law_integer (argsC (numE (rdV 0)) (argsC (bin2 ixP (rdV 1) (fun _ => .ok (.int 0))) args0))) (callE f_law_integer (argsC (denE (rdV 0)) (argsC (bin2 ixP (rdV 1) (fun _ => .ok (.int 1))) args0))))))
noncomputable def f_law_is : List PV → R PV := fnJ 2 2 p_law_is
theorem d_law_is {P : Program} {w : World} {K : PySem.W.Frag} {mg : Str → Option Value} {base : Heap} {cm : Nat → Addr} (T : TX mg ⟨K, cm⟩) : Bp.Def P w K mg base 2 "_law_is" ["told", "due"] (spJ ⟨K, cm⟩ f_law_is) := jdef T.f_law_is c_law_is fun f cdv A outer s H E hr => (jss_cons (js_if (jt_not (jt_val (je_isi T.hit_Frac rfl T.b_isinstance (je_var 0) (pe_glob (v := .ref (cm 0)) rfl T.g_Frac rfl) (.own _))))
      (jss_one (js_ret je_bl))
      jss_nil)
      (jss_one (js_ret (je_and (je_call (d_law_integer T) (hr.mono (by decide)) (takes_of rfl rfl rfl rfl) (ja_cons (je_num T.cl_Frac T.na_Frac_num (je_var 0)) (ja_cons (je_ix rfl (je_var 1) je_int) ja_nil))) (je_one (je_call (d_law_integer T) (hr.mono (by decide)) (takes_of rfl rfl rfl rfl) (ja_cons (je_den T.cl_Frac T.na_Frac_den (je_var 0)) (ja_cons (je_ix rfl (je_var 1) je_int) ja_nil))))))))
noncomputable def p_law_reads : Env → F := (seqF (setF 1 (callE f_law_reading (argsC (rdV 0) args0)))
  (seqF (setF 2 (fun _ => .ok .non))
  (seqF (tryF cat_BestError 3 (setF 2 (callE f_Frac_read (argsC (rdV 0) args0)))
  (seqF (iteF (orT (notT (toB (isxP xt_is_BadNumber 3))) (toB (isxP xt_is_DivisionByZero 3)))
  (retF (fun _ => .ok (.bl false)))
  nextF)
  (seqF (iteF (orT (toB (bin2 notNP (rdV 1) (fun _ => .ok .non))) (notT (toB (isxP xt_is_ValueError 3))))
  (retF (fun _ => .ok (.bl false)))
  nextF)
  (retF (andV (un1 (isiP it_str) (fldx [3] "text" 3)) (bin2 eqS (fldx [3] "text" 3) (rdV 0)))))))
  (seqF (iteF (toB (bin2 isNP (rdV 1) (fun _ => .ok .non)))
  (retF (fun _ => .ok (.bl false)))
  nextF)
  (retF (andV (callE f_law_is (argsC (rdV 2) (argsC (rdV 1) args0))) (bin2 eqS (callE (strO 0 f_Frac_str) (argsC (rdV 2) args0)) (rdV 0))))))))
noncomputable def f_law_reads : List PV → R PV := fnJ 1 4 p_law_reads
theorem d_law_reads {P : Program} {w : World} {K : PySem.W.Frag} {mg : Str → Option Value} {base : Heap} {cm : Nat → Addr} (T : TX mg ⟨K, cm⟩) : Bp.Def P w K mg base 5 "_law_reads" ["text"] (spJ ⟨K, cm⟩ f_law_reads) := jdef T.f_law_reads c_law_reads fun f cdv A outer s H E hr => (jss_cons (js_set 1 c_law_reads.nd (je_call (d_law_reading T) (hr.mono (by decide)) (takes_of rfl rfl rfl rfl) (ja_cons (je_var 0) ja_nil)))
      (jss_cons (js_set 2 c_law_reads.nd je_non)
      (jss_cons (js_try (cat := cat_BestError) 3 rfl rfl rfl c_law_reads.nd ⟨rfl, by decide, .inl T.g_BestError⟩ (takes_of rfl rfl rfl rfl) T.hcat_BestError (fun W' pn xe tk pw => (jss_one (js_set 2 c_law_reads.nd (je_sm (d_Frac_read T) (hr.mono (by decide)) tk (ja_cons (je_var 0) ja_nil)))))
      (fun a oe cls d pn hz hf => (jss_cons (js_if (jt_w (jw_or (jt_not (jt_val (je_isx (G := gA K cm) (tb := xt_is_BadNumber) 3 hz hf T.hxt_is_BadNumber rfl T.b_isinstance (pe_glob (v := .ref (cm 3)) rfl T.g_BadNumber rfl) (.own _)))) (jw_or1 (jt_val (je_isx (G := gA K cm) (tb := xt_is_DivisionByZero) 3 hz hf T.hxt_is_DivisionByZero rfl T.b_isinstance (pe_glob (v := .ref (cm 2)) rfl T.g_DivisionByZero rfl) (.own _))))))
      (jss_one (js_ret je_bl))
      jss_nil)
      (jss_cons (js_if (jt_w (jw_or (jt_cmp o_notN (je_var 1) je_non) (jw_or1 (jt_not (jt_val (je_isx (G := gA K cm) (tb := xt_is_ValueError) 3 hz hf T.hxt_is_ValueError rfl T.b_isinstance (pe_bltn (v := .ty "ValueError") rfl T.b_ValueError (by decide +kernel) rfl) (.ty _)))))))
      (jss_one (js_ret je_bl))
      jss_nil)
      (jss_one (js_ret (je_and (je_isi T.hit_str rfl T.b_isinstance (je_fldx (G := gA K cm) (cs := [3]) 3 hz hf rfl (by simp only [List.mem_cons, List.not_mem_nil, or_false]; rintro c rfl; exact ⟨T.xf_BadNumber, T.nx_BadNumber_text⟩)) (pe_bltn (v := .ty "str") rfl T.b_str (by decide +kernel) rfl) (.ty _)) (je_one (je_cmp o_eq (je_fldx (G := gA K cm) (cs := [3]) 3 hz hf rfl (by simp only [List.mem_cons, List.not_mem_nil, or_false]; rintro c rfl; exact ⟨T.xf_BadNumber, T.nx_BadNumber_text⟩)) (je_var 0))))))))))
      (jss_cons (js_if (jt_cmp o_isN (je_var 1) je_non)
      (jss_one (js_ret je_bl))
      jss_nil)
      (jss_one (js_ret (je_and (je_call (d_law_is T) (hr.mono (by decide)) (takes_of rfl rfl rfl rfl) (ja_cons (je_var 2) (ja_cons (je_var 1) ja_nil))) (je_one (je_cmp o_eq (je_callT (b_strO (d_Frac_str T) rfl (hr.mono (by decide))) T.b_str (by decide +kernel) (ja_cons (je_var 2) ja_nil)) (je_var 0))))))))))
noncomputable def p_law_short : Env → F := (seqF (setF 1 (lstE (argsC (fun _ => .ok (.str "")) (argsC (fun _ => .ok (.str "-")) (argsC (fun _ => .ok (.str "/")) (argsC (fun _ => .ok (.str "-0")) (argsC (fun _ => .ok (.str "0/1")) (argsC (fun _ => .ok (.str "00")) (argsC (fun _ => .ok (.str "1/0")) (argsC (fun _ => .ok (.str "0/0")) (argsC (fun _ => .ok (.str "-/2")) (argsC (fun _ => .ok (.str "3/")) (argsC (fun _ => .ok (.str "/3")) (argsC (fun _ => .ok (.str "1/2/3")) (argsC (fun _ => .ok (.str "0")) (argsC (fun _ => .ok (.str "-1/2")) args0))))))))))))))))
  (retF (bin2 ixP (rdV 1) (bin2 modI (callE intB (argsC (rdV 0) args0)) (fun _ => .ok (.int 14))))))
noncomputable def f_law_short : List PV → R PV := fnJ 1 2 p_law_short
theorem d_law_short {P : Program} {w : World} {K : PySem.W.Frag} {mg : Str → Option Value} {base : Heap} {cm : Nat → Addr} (T : TX mg ⟨K, cm⟩) : Bp.Def P w K mg base 1 "_law_short" ["k"] (spJ ⟨K, cm⟩ f_law_short) := jdef T.f_law_short c_law_short fun f cdv A outer s H E hr => (jss_cons (js_set 1 c_law_short.nd (je_lst (ja_cons je_str (ja_cons je_str (ja_cons je_str (ja_cons je_str (ja_cons je_str (ja_cons je_str (ja_cons je_str (ja_cons je_str (ja_cons je_str (ja_cons je_str (ja_cons je_str (ja_cons je_str (ja_cons je_str (ja_cons je_str ja_nil))))))))))))))))
      (jss_one (js_ret (je_ix rfl (je_var 1) (je_op o_mod (je_callT b_int T.b_int (by decide +kernel) (ja_cons (je_var 0) ja_nil)) je_int)))))
noncomputable def p_law_spoilt : Env → F := (seqF (setF 4 (callE f_law_text (argsC (rdV 0) args0)))
  (seqF (setF 2 (bin2 modI (callE intB (argsC (rdV 2) args0)) (bin2 addI (callE lenB (argsC (rdV 4) args0)) (fun _ => .ok (.int 1)))))
  (seqF (setF 5 (sliceX (rdV 4) noB (someB (rdV 2))))
  (seqF (setF 6 (sliceX (rdV 4) (someB (rdV 2)) noB))
  (seqF (setF 7 (callE strB (argsC (bin2 ixP (rdV 0) (fun _ => .ok (.int 0))) args0)))
  (seqF (setF 8 (callE strB (argsC (callE absB (argsC (bin2 ixP (rdV 0) (fun _ => .ok (.int 0))) args0)) args0)))
  (seqF (setF 9 (sliceX (rdV 7) noB (someB (bin2 subI (callE lenB (argsC (rdV 7) args0)) (callE lenB (argsC (rdV 8) args0))))))
  (seqF (setF 10 (callE strB (argsC (bin2 ixP (rdV 0) (fun _ => .ok (.int 1))) args0)))
  (seqF (iteF (toB (bin2 eqS (rdV 1) (fun _ => .ok (.int 0))))
  (retF (bin2 catX (bin2 catX (rdV 5) (rdV 3)) (rdV 6)))
  nextF)
  (seqF (iteF (toB (bin2 eqS (rdV 1) (fun _ => .ok (.int 1))))
  (retF (bin2 catX (rdV 5) (sliceX (rdV 6) (someB (fun _ => .ok (.int 1))) noB)))
  nextF)
  (seqF (iteF (toB (bin2 eqS (rdV 1) (fun _ => .ok (.int 2))))
  (retF (bin2 catX (bin2 catX (rdV 5) (sliceX (rdV 6) noB (someB (fun _ => .ok (.int 1))))) (rdV 6)))
  nextF)
  (seqF (iteF (toB (bin2 eqS (rdV 1) (fun _ => .ok (.int 3))))
  (retF (bin2 catX (bin2 catX (rdV 5) (rdV 3)) (sliceX (rdV 6) (someB (fun _ => .ok (.int 1))) noB)))
  nextF)
  (seqF (iteF (toB (bin2 eqS (rdV 1) (fun _ => .ok (.int 4))))
  (retF (bin2 catX (bin2 catX (callE strB (argsC (bin2 mulI (bin2 ixP (rdV 0) (fun _ => .ok (.int 0))) (bin2 addI (fun _ => .ok (.int 2)) (rdV 2))) args0)) (fun _ => .ok (.str "/"))) (callE strB (argsC (bin2 mulI (bin2 ixP (rdV 0) (fun _ => .ok (.int 1))) (bin2 addI (fun _ => .ok (.int 2)) (rdV 2))) args0))))
  nextF)
  (seqF (setF 11 (sliceX (rdV 4) (someB (callE lenB (argsC (rdV 7) args0))) noB))
  (seqF (setF 12 (lstE (argsC (bin2 catX (rdV 4) (fun _ => .ok (.str "/1"))) (argsC (bin2 catX (fun _ => .ok (.str "-")) (rdV 4)) (argsC (bin2 catX (fun _ => .ok (.str "+")) (rdV 4)) (argsC (bin2 catX (bin2 catX (rdV 7) (fun _ => .ok (.str "/-"))) (rdV 10)) args0))))))
  (seqF (setF 12 (bin2 catL (rdV 12) (lstE (argsC (bin2 catX (bin2 catX (rdV 7) (fun _ => .ok (.str "/0"))) (rdV 10)) (argsC (bin2 catX (bin2 catX (bin2 catX (rdV 9) (fun _ => .ok (.str "0"))) (rdV 8)) (rdV 11)) args0)))))
  (seqF (setF 12 (bin2 catL (rdV 12) (lstE (argsC (bin2 catX (fun _ => .ok (.str " ")) (rdV 4)) (argsC (bin2 catX (rdV 4) (fun _ => .ok (.str " "))) (argsC (bin2 catX (rdV 4) (fun _ => .ok (.str "\n"))) args0))))))
  (seqF (setF 12 (bin2 catL (rdV 12) (lstE (argsC (bin2 catX (bin2 catX (rdV 7) (fun _ => .ok (.str " /"))) (rdV 10)) (argsC (bin2 catX (bin2 catX (rdV 7) (fun _ => .ok (.str "/ "))) (rdV 10)) args0)))))
  (seqF (setF 12 (bin2 catL (rdV 12) (lstE (argsC (bin2 catX (bin2 catX (bin2 catX (rdV 9) (fun _ => .ok (.str "1"))) (bin2 mulX (fun _ => .ok (.str "0")) (fun _ => .ok (.int 40)))) (rdV 11)) (argsC (bin2 catX (bin2 catX (rdV 9) (fun _ => .ok (.str "1"))) (bin2 mulX (fun _ => .ok (.str "0")) (fun _ => .ok (.int 39)))) args0)))))
  (seqF (setCatO 12 (rdV 12) (lstE (argsC (bin2 catX (rdV 4) (fun _ => .ok (.str "0"))) (argsC (rdV 4) args0))))
  (seqF (appF 12 (callE f_law_text (argsC (tupE (argsC (un1 negI (bin2 ixP (rdV 0) (fun _ => .ok (.int 0)))) (argsC (bin2 ixP (rdV 0) (fun _ => .ok (.int 1))) args0))) args0)))
  (seqF (iteF (toB (bin2 ltI (rdV 1) (fun _ => .ok (.int 21))))
  (fun env => (retF (bin2 ixP (rdV 12) (bin2 subI (rdV 1) (fun _ => .ok (.int 5))))) (frz 12 env))
  nextF)
  (retF (callE f_law_short (argsC (rdV 2) args0)))))))))))))))))))))))))
noncomputable def f_law_spoilt : List PV → R PV := fnJ 4 13 p_law_spoilt
theorem d_law_spoilt {P : Program} {w : World} {K : PySem.W.Frag} {mg : Str → Option Value} {base : Heap} {cm : Nat → Addr} (T : TX mg ⟨K, cm⟩) : Bp.Def P w K mg base 2 "_law_spoilt" ["value", "kind", "place", "char"] (spJ ⟨K, cm⟩ f_law_spoilt) := jdef T.f_law_spoilt c_law_spoilt fun f cdv A outer s H E hr => (jss_cons (js_set 4 c_law_spoilt.nd (je_call (d_law_text T) (hr.mono (by decide)) (takes_of rfl rfl rfl rfl) (ja_cons (je_var 0) ja_nil)))
      (jss_cons (js_set 2 c_law_spoilt.nd (je_op o_mod (je_callT b_int T.b_int (by decide +kernel) (ja_cons (je_var 2) ja_nil)) (je_op o_add (je_callB (b_len rfl) T.b_len (by decide +kernel) (ja_cons (je_var 4) ja_nil)) je_int)))
      (jss_cons (js_set 5 c_law_spoilt.nd (je_sliceX (je_var 4) jo_none (jo_some (je_var 2))))
      (jss_cons (js_set 6 c_law_spoilt.nd (je_sliceX (je_var 4) (jo_some (je_var 2)) jo_none))
      (jss_cons (js_set 7 c_law_spoilt.nd (je_callT b_str T.b_str (by decide +kernel) (ja_cons (je_ix rfl (je_var 0) je_int) ja_nil)))
      (jss_cons (js_set 8 c_law_spoilt.nd (je_callT b_str T.b_str (by decide +kernel) (ja_cons (je_callB b_abs T.b_abs (by decide +kernel) (ja_cons (je_ix rfl (je_var 0) je_int) ja_nil)) ja_nil)))
      (jss_cons (js_set 9 c_law_spoilt.nd (je_sliceX (je_var 7) jo_none (jo_some (je_op o_sub (je_callB (b_len rfl) T.b_len (by decide +kernel) (ja_cons (je_var 7) ja_nil)) (je_callB (b_len rfl) T.b_len (by decide +kernel) (ja_cons (je_var 8) ja_nil))))))
      (jss_cons (js_set 10 c_law_spoilt.nd (je_callT b_str T.b_str (by decide +kernel) (ja_cons (je_ix rfl (je_var 0) je_int) ja_nil)))
      (jss_cons (js_if (jt_cmp o_eq (je_var 1) je_int)
      (jss_one (js_ret (je_op o_catX (je_op o_catX (je_var 5) (je_var 3)) (je_var 6))))
      jss_nil)
      (jss_cons (js_if (jt_cmp o_eq (je_var 1) je_int)
      (jss_one (js_ret (je_op o_catX (je_var 5) (je_sliceX (je_var 6) (jo_some je_int) jo_none))))
      jss_nil)
      (jss_cons (js_if (jt_cmp o_eq (je_var 1) je_int)
      (jss_one (js_ret (je_op o_catX (je_op o_catX (je_var 5) (je_sliceX (je_var 6) jo_none (jo_some je_int))) (je_var 6))))
      jss_nil)
      (jss_cons (js_if (jt_cmp o_eq (je_var 1) je_int)
      (jss_one (js_ret (je_op o_catX (je_op o_catX (je_var 5) (je_var 3)) (je_sliceX (je_var 6) (jo_some je_int) jo_none))))
      jss_nil)
      (jss_cons (js_if (jt_cmp o_eq (je_var 1) je_int)
      (jss_one (js_ret (je_op o_catX (je_op o_catX (je_callT b_str T.b_str (by decide +kernel) (ja_cons (je_op o_mul (je_ix rfl (je_var 0) je_int) (je_op o_add je_int (je_var 2))) ja_nil)) je_str) (je_callT b_str T.b_str (by decide +kernel) (ja_cons (je_op o_mul (je_ix rfl (je_var 0) je_int) (je_op o_add je_int (je_var 2))) ja_nil)))))
      jss_nil)
      (jss_cons (js_set 11 c_law_spoilt.nd (je_sliceX (je_var 4) (jo_some (je_callB (b_len rfl) T.b_len (by decide +kernel) (ja_cons (je_var 7) ja_nil))) jo_none))
      (jss_cons (js_set 12 c_law_spoilt.nd (je_lst (ja_cons (je_op o_catX (je_var 4) je_str) (ja_cons (je_op o_catX je_str (je_var 4)) (ja_cons (je_op o_catX je_str (je_var 4)) (ja_cons (je_op o_catX (je_op o_catX (je_var 7) je_str) (je_var 10)) ja_nil))))))
      (jss_cons (js_set 12 c_law_spoilt.nd (je_op (o_catL rfl) (je_var 12) (je_lst (ja_cons (je_op o_catX (je_op o_catX (je_var 7) je_str) (je_var 10)) (ja_cons (je_op o_catX (je_op o_catX (je_op o_catX (je_var 9) je_str) (je_var 8)) (je_var 11)) ja_nil)))))
      (jss_cons (js_set 12 c_law_spoilt.nd (je_op (o_catL rfl) (je_var 12) (je_lst (ja_cons (je_op o_catX je_str (je_var 4)) (ja_cons (je_op o_catX (je_var 4) je_str) (ja_cons (je_op o_catX (je_var 4) je_str) ja_nil))))))
      (jss_cons (js_set 12 c_law_spoilt.nd (je_op (o_catL rfl) (je_var 12) (je_lst (ja_cons (je_op o_catX (je_op o_catX (je_var 7) je_str) (je_var 10)) (ja_cons (je_op o_catX (je_op o_catX (je_var 7) je_str) (je_var 10)) ja_nil)))))
      (jss_cons (js_set 12 c_law_spoilt.nd (je_op (o_catL rfl) (je_var 12) (je_lst (ja_cons (je_op o_catX (je_op o_catX (je_op o_catX (je_var 9) je_str) (je_op o_mulX je_str je_int)) (je_var 11)) (ja_cons (je_op o_catX (je_op o_catX (je_var 9) je_str) (je_op o_mulX je_str je_int)) ja_nil)))))
      (jss_cons (js_setCatO 12 c_law_spoilt.nd rfl (je_var 12) (je_lst (ja_cons (je_op o_catX (je_var 4) je_str) (ja_cons (je_var 4) ja_nil))))
      (jss_cons (js_app 12 (je_call (d_law_text T) (hr.mono (by decide)) (takes_of rfl rfl rfl rfl) (ja_cons (je_tup (ja_cons (je_un u_neg (je_ix rfl (je_var 0) je_int)) (ja_cons (je_ix rfl (je_var 0) je_int) ja_nil))) ja_nil)))
      (jss_cons (js_if (jt_cmp o_lt (je_var 1) je_int)
      (jss_frz 12 (jss_one (js_ret (je_ix rfl (je_var 12) (je_op o_sub (je_var 1) je_int)))))
      jss_nil)
      (jss_one (js_ret (je_call (d_law_short T) (hr.mono (by decide)) (takes_of rfl rfl rfl rfl) (ja_cons (je_var 2) ja_nil))))))))))))))))))))))))))
end J

namespace J
open PySem.Spec PySem PyProof.Rows
open L2 hiding St Takes XE CX takes_of PMk MkP ps_raise mk_of ps_try_as ps_try_many pmk_own passAt passes_call takes0 passL
open L2N hiding St
open Bp (takes0 passL OpS R2S IsI)
open Bp (s_wall s_BadNumber_init s_as_frac s_gap s_are_figures s_Frac_init s_Frac_read s_Frac_over s_Frac_floor s_Frac_ceiling s_Frac_is_whole s_Frac_str s_Frac_repr s_Frac_bool s_Frac_neg s_Frac_abs s_Frac_add s_Frac_radd s_Frac_sub s_Frac_rsub s_Frac_mul s_Frac_rmul s_Frac_floordiv s_Frac_rfloordiv s_Frac_mod s_Frac_rmod s_Frac_pow s_Frac_eq s_Frac_ne s_Frac_lt s_Frac_le s_Frac_gt s_Frac_ge s_law_cell s_law_gcd s_law_low s_law_number s_law_drawn s_law_text s_law_figures s_law_reading s_law_short s_law_spoilt s_law_integer s_law_is s_law_reads s_law_writes s_law c_wall c_BadNumber_init c_as_frac c_gap c_are_figures c_Frac_init c_Frac_read c_Frac_over c_Frac_floor c_Frac_ceiling c_Frac_is_whole c_Frac_str c_Frac_repr c_Frac_bool c_Frac_neg c_Frac_abs c_Frac_add c_Frac_radd c_Frac_sub c_Frac_rsub c_Frac_mul c_Frac_rmul c_Frac_floordiv c_Frac_rfloordiv c_Frac_mod c_Frac_rmod c_Frac_pow c_Frac_eq c_Frac_ne c_Frac_lt c_Frac_le c_Frac_gt c_Frac_ge c_law_cell c_law_gcd c_law_low c_law_number c_law_drawn c_law_text c_law_figures c_law_reading c_law_short c_law_spoilt c_law_integer c_law_is c_law_reads c_law_writes c_law)
noncomputable def lb_law_1 : Env → F := (seqF (setF 3 (bin2 modI (callE intB (argsC (callE f_law_cell (argsC (rdV 0) (argsC (bin2 addI (fun _ => .ok (.int 9)) (bin2 mulI (fun _ => .ok (.int 3)) (rdV 2))) args0))) args0)) (fun _ => .ok (.int 22))))
  (seqF (setF 4 (bin2 ixX (fun _ => .ok (.str "0123456789-+/ ._aeE\n")) (bin2 modI (callE intB (argsC (callE f_law_cell (argsC (rdV 0) (argsC (bin2 addI (fun _ => .ok (.int 11)) (bin2 mulI (fun _ => .ok (.int 3)) (rdV 2))) args0))) args0)) (fun _ => .ok (.int 20)))))
  (seqF (setF 5 (callE f_law_spoilt (argsC (rdV 1) (argsC (rdV 3) (argsC (callE f_law_cell (argsC (rdV 0) (argsC (bin2 addI (fun _ => .ok (.int 10)) (bin2 mulI (fun _ => .ok (.int 3)) (rdV 2))) args0))) (argsC (rdV 4) args0))))))
  (iteF (orT (notT (toB (callE f_law_reads (argsC (rdV 5) args0)))) (notT (toB (callE f_law_reads (argsC (rdV 5) args0)))))
  (retF (fun _ => .ok (.bl false)))
  nextF))))
noncomputable def p_as_frac : Env → F := (seqF (iteF (toB (un1 (isiP it_int) (rdV 0)))
  (retF (mkF1 2 (argsC (rdV 0) args0)))
  nextF)
  (retF (rdV 0)))
noncomputable def f_as_frac : List PV → R PV := fnJ 1 1 p_as_frac
theorem d_as_frac {P : Program} {w : World} {K : PySem.W.Frag} {mg : Str → Option Value} {base : Heap} {cm : Nat → Addr} (T : TX mg ⟨K, cm⟩) : Bp.Def P w K mg base 3 "as_frac" ["number"] (spJ ⟨K, cm⟩ f_as_frac) := jdef T.f_as_frac c_as_frac fun f cdv A outer s H E hr => (jss_cons (js_if (jt_val (je_isi T.hit_int rfl T.b_isinstance (je_var 0) (pe_bltn (v := .ty "int") rfl T.b_int (by decide +kernel) rfl) (.ty _)))
      (jss_one (js_ret (je_mkF1 (T.fi) (hr.mono (by decide)) (takes_of rfl rfl rfl rfl) (ja_cons (je_var 0) ja_nil))))
      jss_nil)
      (jss_one (js_ret (je_var 0))))
noncomputable def p_Frac_mul : Env → F := (seqF (iteF (notT (toB (un1 (isiP it_int_Frac) (rdV 1))))
  (fun _ => .bad)
  nextF)
  (seqF (setF 2 (callE f_as_frac (argsC (rdV 1) args0)))
  (retF (mkF2 2 (argsC (bin2 mulI (numE (rdV 0)) (numE (rdV 2))) (argsC (bin2 mulI (denE (rdV 0)) (denE (rdV 2))) args0))))))
noncomputable def f_Frac_mul : List PV → R PV := fnJ 2 3 p_Frac_mul
theorem d_Frac_mul {P : Program} {w : World} {K : PySem.W.Frag} {mg : Str → Option Value} {base : Heap} {cm : Nat → Addr} (T : TX mg ⟨K, cm⟩) : Bp.MDef P w K mg base 4 (cm 0) "__mul__" ["self", "other"] (spJ ⟨K, cm⟩ f_Frac_mul) := jmeth T.m_Frac_mul c_Frac_mul fun f cdv A outer s H E hr => (jss_cons (js_if (jt_not (jt_val (je_isi2 T.hit_int_Frac rfl T.b_isinstance (je_var 1) (pe_bltn (v := .ty "int") rfl T.b_int (by decide +kernel) rfl) (pe_glob (v := .ref (cm 0)) rfl T.g_Frac rfl) (.ty _) (.own _))))
      (jss_one js_never)
      jss_nil)
      (jss_cons (js_set 2 c_Frac_mul.nd (je_call (d_as_frac T) (hr.mono (by decide)) (takes_of rfl rfl rfl rfl) (ja_cons (je_var 1) ja_nil)))
      (jss_one (js_ret (je_mkF2 (T.fi) (hr.mono (by decide)) (takes_of rfl rfl rfl rfl) (ja_cons (je_op o_mul (je_num T.cl_Frac T.na_Frac_num (je_var 0)) (je_num T.cl_Frac T.na_Frac_num (je_var 2))) (ja_cons (je_op o_mul (je_den T.cl_Frac T.na_Frac_den (je_var 0)) (je_den T.cl_Frac T.na_Frac_den (je_var 2))) ja_nil)))))))
noncomputable def qMult_I_LFrac : PV → PV → R PV := (alt mulI (ownL 0 f_Frac_mul))
theorem sMult_I_LFrac {cm : Nat → Addr} {X : Cx} {W : WX} (T : TX X.mg ⟨X.K, cm⟩) (hr : Room 4 X.A) (tk : Takes X W) : OpJ (gA X.K cm) X W (binaryOp .Mult) qMult_I_LFrac := (OpJ.alt o_mul (o_ownL (G := gA X.K cm) T.ow_Frac T.of_Frac_mul (d_Frac_mul (P := X.prog) (w := X.w) (base := X.base) T) rfl (hr.mono (by decide)) tk))
noncomputable def p_Frac_neg : Env → F := (retF (mkF2 2 (argsC (un1 negI (numE (rdV 0))) (argsC (denE (rdV 0)) args0))))
noncomputable def f_Frac_neg : List PV → R PV := fnJ 1 1 p_Frac_neg
theorem d_Frac_neg {P : Program} {w : World} {K : PySem.W.Frag} {mg : Str → Option Value} {base : Heap} {cm : Nat → Addr} (T : TX mg ⟨K, cm⟩) : Bp.MDef P w K mg base 3 (cm 0) "__neg__" ["self"] (spJ ⟨K, cm⟩ f_Frac_neg) := jmeth T.m_Frac_neg c_Frac_neg fun f cdv A outer s H E hr => (jss_one (js_ret (je_mkF2 (T.fi) (hr.mono (by decide)) (takes_of rfl rfl rfl rfl) (ja_cons (je_un u_neg (je_num T.cl_Frac T.na_Frac_num (je_var 0))) (ja_cons (je_den T.cl_Frac T.na_Frac_den (je_var 0)) ja_nil)))))
end J

namespace J
open PySem.Spec PySem PyProof.Rows
open L2 hiding St Takes XE CX takes_of PMk MkP ps_raise mk_of ps_try_as ps_try_many pmk_own passAt passes_call takes0 passL
open L2N hiding St
open Bp (takes0 passL OpS R2S IsI)
open Bp (s_wall s_BadNumber_init s_as_frac s_gap s_are_figures s_Frac_init s_Frac_read s_Frac_over s_Frac_floor s_Frac_ceiling s_Frac_is_whole s_Frac_str s_Frac_repr s_Frac_bool s_Frac_neg s_Frac_abs s_Frac_add s_Frac_radd s_Frac_sub s_Frac_rsub s_Frac_mul s_Frac_rmul s_Frac_floordiv s_Frac_rfloordiv s_Frac_mod s_Frac_rmod s_Frac_pow s_Frac_eq s_Frac_ne s_Frac_lt s_Frac_le s_Frac_gt s_Frac_ge s_law_cell s_law_gcd s_law_low s_law_number s_law_drawn s_law_text s_law_figures s_law_reading s_law_short s_law_spoilt s_law_integer s_law_is s_law_reads s_law_writes s_law c_wall c_BadNumber_init c_as_frac c_gap c_are_figures c_Frac_init c_Frac_read c_Frac_over c_Frac_floor c_Frac_ceiling c_Frac_is_whole c_Frac_str c_Frac_repr c_Frac_bool c_Frac_neg c_Frac_abs c_Frac_add c_Frac_radd c_Frac_sub c_Frac_rsub c_Frac_mul c_Frac_rmul c_Frac_floordiv c_Frac_rfloordiv c_Frac_mod c_Frac_rmod c_Frac_pow c_Frac_eq c_Frac_ne c_Frac_lt c_Frac_le c_Frac_gt c_Frac_ge c_law_cell c_law_gcd c_law_low c_law_number c_law_drawn c_law_text c_law_figures c_law_reading c_law_short c_law_spoilt c_law_integer c_law_is c_law_reads c_law_writes c_law)
noncomputable def p_law_writes : Env → F := (seqF (setF 2 (callE f_law_text (argsC (rdV 0) args0)))
  (seqF (iteF (toB (bin2 isNP (callE f_law_reading (argsC (rdV 2) args0)) (fun _ => .ok .non)))
  (retF (fun _ => .ok (.bl true)))
  nextF)
  (seqF (setF 3 (callE f_Frac_read (argsC (rdV 2) args0)))
  (seqF (setF 4 (callE f_law_low (argsC (bin2 qMult_I_LFrac (bin2 ixP (rdV 0) (fun _ => .ok (.int 0))) (bin2 ixP (rdV 1) (fun _ => .ok (.int 0)))) (argsC (bin2 qMult_I_LFrac (bin2 ixP (rdV 0) (fun _ => .ok (.int 1))) (bin2 ixP (rdV 1) (fun _ => .ok (.int 1)))) args0))))
  (seqF (setF 5 (bin2 qMult_I_LFrac (rdV 3) (mkF2 2 (argsC (bin2 ixP (rdV 1) (fun _ => .ok (.int 0))) (argsC (bin2 ixP (rdV 1) (fun _ => .ok (.int 1))) args0)))))
  (seqF (iteF (orT (toB (bin2 neS (callE (strO 0 f_Frac_str) (argsC (rdV 5) args0)) (callE f_law_text (argsC (rdV 4) args0)))) (notT (toB (callE f_law_reads (argsC (callE f_law_text (argsC (rdV 4) args0)) args0)))))
  (retF (fun _ => .ok (.bl false)))
  nextF)
  (seqF (setF 6 (tupE (argsC (bin2 qMult_I_LFrac (bin2 ixP (rdV 0) (fun _ => .ok (.int 0))) (bin2 ixP (rdV 0) (fun _ => .ok (.int 0)))) (argsC (bin2 qMult_I_LFrac (bin2 ixP (rdV 0) (fun _ => .ok (.int 1))) (bin2 ixP (rdV 0) (fun _ => .ok (.int 1)))) args0))))
  (seqF (iteF (orT (toB (bin2 neS (callE (strO 0 f_Frac_str) (argsC (bin2 qMult_I_LFrac (rdV 3) (rdV 3)) args0)) (callE f_law_text (argsC (rdV 6) args0)))) (notT (toB (callE f_law_reads (argsC (callE f_law_text (argsC (rdV 6) args0)) args0)))))
  (retF (fun _ => .ok (.bl false)))
  nextF)
  (seqF (iteF (toB (bin2 neS (callE (strO 0 f_Frac_str) (argsC (un1 (altU negI (unO 0 f_Frac_neg)) (rdV 3)) args0)) (callE f_law_text (argsC (tupE (argsC (un1 (altU negI (unO 0 f_Frac_neg)) (bin2 ixP (rdV 0) (fun _ => .ok (.int 0)))) (argsC (bin2 ixP (rdV 0) (fun _ => .ok (.int 1))) args0))) args0))))
  (retF (fun _ => .ok (.bl false)))
  nextF)
  (retF (andV (bin2 eqS (callE (strO 0 f_Frac_str) (argsC (rdV 3) args0)) (rdV 2)) (callE f_law_is (argsC (rdV 3) (argsC (rdV 0) args0))))))))))))))
noncomputable def f_law_writes : List PV → R PV := fnJ 2 7 p_law_writes
theorem d_law_writes {P : Program} {w : World} {K : PySem.W.Frag} {mg : Str → Option Value} {base : Heap} {cm : Nat → Addr} (T : TX mg ⟨K, cm⟩) : Bp.Def P w K mg base 6 "_law_writes" ["value", "other"] (spJ ⟨K, cm⟩ f_law_writes) := jdef T.f_law_writes c_law_writes fun f cdv A outer s H E hr => (jss_cons (js_set 2 c_law_writes.nd (je_call (d_law_text T) (hr.mono (by decide)) (takes_of rfl rfl rfl rfl) (ja_cons (je_var 0) ja_nil)))
      (jss_cons (js_if (jt_cmp o_isN (je_call (d_law_reading T) (hr.mono (by decide)) (takes_of rfl rfl rfl rfl) (ja_cons (je_var 2) ja_nil)) je_non)
      (jss_one (js_ret je_bl))
      jss_nil)
      (jss_cons (js_set 3 c_law_writes.nd (je_sm (d_Frac_read T) (hr.mono (by decide)) (takes_of rfl rfl rfl rfl) (ja_cons (je_var 2) ja_nil)))
      (jss_cons (js_set 4 c_law_writes.nd (je_call (d_law_low T) (hr.mono (by decide)) (takes_of rfl rfl rfl rfl) (ja_cons (je_op (sMult_I_LFrac T (hr.mono (by decide)) (takes_of rfl rfl rfl rfl)) (je_ix rfl (je_var 0) je_int) (je_ix rfl (je_var 1) je_int)) (ja_cons (je_op (sMult_I_LFrac T (hr.mono (by decide)) (takes_of rfl rfl rfl rfl)) (je_ix rfl (je_var 0) je_int) (je_ix rfl (je_var 1) je_int)) ja_nil))))
      (jss_cons (js_set 5 c_law_writes.nd (je_op (sMult_I_LFrac T (hr.mono (by decide)) (takes_of rfl rfl rfl rfl)) (je_var 3) (je_mkF2 (T.fi) (hr.mono (by decide)) (takes_of rfl rfl rfl rfl) (ja_cons (je_ix rfl (je_var 1) je_int) (ja_cons (je_ix rfl (je_var 1) je_int) ja_nil)))))
      (jss_cons (js_if (jt_w (jw_or (jt_cmp o_ne (je_callT (b_strO (d_Frac_str T) rfl (hr.mono (by decide))) T.b_str (by decide +kernel) (ja_cons (je_var 5) ja_nil)) (je_call (d_law_text T) (hr.mono (by decide)) (takes_of rfl rfl rfl rfl) (ja_cons (je_var 4) ja_nil))) (jw_or1 (jt_not (jt_val (je_call (d_law_reads T) (hr.mono (by decide)) (takes_of rfl rfl rfl rfl) (ja_cons (je_call (d_law_text T) (hr.mono (by decide)) (takes_of rfl rfl rfl rfl) (ja_cons (je_var 4) ja_nil)) ja_nil)))))))
      (jss_one (js_ret je_bl))
      jss_nil)
      (jss_cons (js_set 6 c_law_writes.nd (je_tup (ja_cons (je_op (sMult_I_LFrac T (hr.mono (by decide)) (takes_of rfl rfl rfl rfl)) (je_ix rfl (je_var 0) je_int) (je_ix rfl (je_var 0) je_int)) (ja_cons (je_op (sMult_I_LFrac T (hr.mono (by decide)) (takes_of rfl rfl rfl rfl)) (je_ix rfl (je_var 0) je_int) (je_ix rfl (je_var 0) je_int)) ja_nil))))
      (jss_cons (js_if (jt_w (jw_or (jt_cmp o_ne (je_callT (b_strO (d_Frac_str T) rfl (hr.mono (by decide))) T.b_str (by decide +kernel) (ja_cons (je_op (sMult_I_LFrac T (hr.mono (by decide)) (takes_of rfl rfl rfl rfl)) (je_var 3) (je_var 3)) ja_nil)) (je_call (d_law_text T) (hr.mono (by decide)) (takes_of rfl rfl rfl rfl) (ja_cons (je_var 6) ja_nil))) (jw_or1 (jt_not (jt_val (je_call (d_law_reads T) (hr.mono (by decide)) (takes_of rfl rfl rfl rfl) (ja_cons (je_call (d_law_text T) (hr.mono (by decide)) (takes_of rfl rfl rfl rfl) (ja_cons (je_var 6) ja_nil)) ja_nil)))))))
      (jss_one (js_ret je_bl))
      jss_nil)
      (jss_cons (js_if (jt_cmp o_ne (je_callT (b_strO (d_Frac_str T) rfl (hr.mono (by decide))) T.b_str (by decide +kernel) (ja_cons (je_un (UnJ.alt (G := gA K cm) u_neg (u_own (G := gA K cm) (d_Frac_neg T) rfl (hr.mono (by decide)))) (je_var 3)) ja_nil)) (je_call (d_law_text T) (hr.mono (by decide)) (takes_of rfl rfl rfl rfl) (ja_cons (je_tup (ja_cons (je_un (UnJ.alt (G := gA K cm) u_neg (u_own (G := gA K cm) (d_Frac_neg T) rfl (hr.mono (by decide)))) (je_ix rfl (je_var 0) je_int)) (ja_cons (je_ix rfl (je_var 0) je_int) ja_nil))) ja_nil)))
      (jss_one (js_ret je_bl))
      jss_nil)
      (jss_one (js_ret (je_and (je_cmp o_eq (je_callT (b_strO (d_Frac_str T) rfl (hr.mono (by decide))) T.b_str (by decide +kernel) (ja_cons (je_var 3) ja_nil)) (je_var 2)) (je_one (je_call (d_law_is T) (hr.mono (by decide)) (takes_of rfl rfl rfl rfl) (ja_cons (je_var 3) (ja_cons (je_var 0) ja_nil))))))))))))))))
noncomputable def p_law : Env → F := (seqF (setF 0 (sliceE (rdV 0) noB (someB (fun _ => .ok (.int 63)))))
  (seqF (iteF (notT (toB (callE f_law_integer (argsC (fun _ => .ok (.int 40)) (argsC (fun _ => .ok (.int 40)) args0)))))
  (retF (fun _ => .ok (.bl false)))
  nextF)
  (seqF (setF 1 (callE f_law_drawn (argsC (rdV 0) args0)))
  (seqF (iteF (notT (toB (callE f_law_reads (argsC (callE f_law_text (argsC (rdV 1) args0)) args0))))
  (retF (fun _ => .ok (.bl false)))
  nextF)
  (seqF (forE (fun env => ((argsC (fun _ => .ok (.int 8)) args0) env).bind rng1) (bdN 2) lb_law_1)
  (seqF (setF 6 (bin2 addI (bin2 modI (callE intB (argsC (callE f_law_cell (argsC (rdV 0) (argsC (fun _ => .ok (.int 34)) args0))) args0)) (bin2 powI (fun _ => .ok (.int 10)) (fun _ => .ok (.int 12)))) (fun _ => .ok (.int 1))))
  (seqF (setF 7 (callE f_law_low (argsC (bin2 subI (bin2 modI (callE intB (argsC (callE f_law_cell (argsC (rdV 0) (argsC (fun _ => .ok (.int 33)) args0))) args0)) (bin2 addI (bin2 mulI (fun _ => .ok (.int 2)) (bin2 powI (fun _ => .ok (.int 10)) (fun _ => .ok (.int 12)))) (fun _ => .ok (.int 1)))) (bin2 powI (fun _ => .ok (.int 10)) (fun _ => .ok (.int 12)))) (argsC (rdV 6) args0))))
  (seqF (iteF (toB (bin2 neS (callE (strO 0 f_Frac_str) (argsC (mkF2 2 (argsC (bin2 ixP (rdV 7) (fun _ => .ok (.int 0))) (argsC (bin2 ixP (rdV 7) (fun _ => .ok (.int 1))) args0))) args0)) (callE f_law_text (argsC (rdV 7) args0))))
  (retF (fun _ => .ok (.bl false)))
  nextF)
  (seqF (setF 8 (bin2 mulX (fun _ => .ok (.str "7")) (bin2 addI (fun _ => .ok (.int 41)) (bin2 modI (callE intB (argsC (callE f_law_cell (argsC (rdV 0) (argsC (fun _ => .ok (.int 35)) args0))) args0)) (fun _ => .ok (.int 19000))))))
  (seqF (iteF (orT (notT (toB (callE f_law_reads (argsC (rdV 8) args0)))) (notT (toB (callE f_law_reads (argsC (bin2 catX (fun _ => .ok (.str "1/")) (rdV 8)) args0)))))
  (retF (fun _ => .ok (.bl false)))
  nextF)
  (retF (andV (callE f_law_writes (argsC (rdV 1) (argsC (rdV 7) args0))) (callE f_law_writes (argsC (rdV 7) (argsC (rdV 7) args0)))))))))))))))
noncomputable def f_law : List PV → R PV := fnJ 1 9 p_law
theorem d_law {P : Program} {w : World} {K : PySem.W.Frag} {mg : Str → Option Value} {base : Heap} {cm : Nat → Addr} (T : TX mg ⟨K, cm⟩) : Bp.Def P w K mg base 7 "law" ["script"] (spJ ⟨K, cm⟩ f_law) := jdef T.f_law c_law fun f cdv A outer s H E hr => (jss_cons (js_set 0 c_law.nd (je_slice rfl (je_var 0) jo_none (jo_some je_int)))
      (jss_cons (js_if (jt_not (jt_val (je_call (d_law_integer T) (hr.mono (by decide)) (takes_of rfl rfl rfl rfl) (ja_cons (je_cint T.ci_Frac_MOST_FIGURES) (ja_cons je_int ja_nil)))))
      (jss_one (js_ret je_bl))
      jss_nil)
      (jss_cons (js_set 1 c_law.nd (je_call (d_law_drawn T) (hr.mono (by decide)) (takes_of rfl rfl rfl rfl) (ja_cons (je_var 0) ja_nil)))
      (jss_cons (js_if (jt_not (jt_val (je_call (d_law_reads T) (hr.mono (by decide)) (takes_of rfl rfl rfl rfl) (ja_cons (je_call (d_law_text T) (hr.mono (by decide)) (takes_of rfl rfl rfl rfl) (ja_cons (je_var 1) ja_nil)) ja_nil))))
      (jss_one (js_ret je_bl))
      jss_nil)
      (jss_cons (js_for (vs := [2]) (passes_of rfl) rfl (ji_rng1 T.b_range (ja_cons je_int ja_nil)) (jg_name 2 c_law.nd (by decide))
      (jss_cons (js_set 3 c_law.nd (je_op o_mod (je_callT b_int T.b_int (by decide +kernel) (ja_cons (je_call (d_law_cell T) (hr.mono (by decide)) (takes_of rfl rfl rfl rfl) (ja_cons (je_var 0) (ja_cons (je_op o_add je_int (je_op o_mul je_int (je_var 2))) ja_nil))) ja_nil)) je_int))
      (jss_cons (js_set 4 c_law.nd (je_ixX je_str (je_op o_mod (je_callT b_int T.b_int (by decide +kernel) (ja_cons (je_call (d_law_cell T) (hr.mono (by decide)) (takes_of rfl rfl rfl rfl) (ja_cons (je_var 0) (ja_cons (je_op o_add je_int (je_op o_mul je_int (je_var 2))) ja_nil))) ja_nil)) je_int)))
      (jss_cons (js_set 5 c_law.nd (je_call (d_law_spoilt T) (hr.mono (by decide)) (takes_of rfl rfl rfl rfl) (ja_cons (je_var 1) (ja_cons (je_var 3) (ja_cons (je_call (d_law_cell T) (hr.mono (by decide)) (takes_of rfl rfl rfl rfl) (ja_cons (je_var 0) (ja_cons (je_op o_add je_int (je_op o_mul je_int (je_var 2))) ja_nil))) (ja_cons (je_var 4) ja_nil))))))
      (jss_one (js_if (jt_w (jw_or (jt_not (jt_val (je_call (d_law_reads T) (hr.mono (by decide)) (takes_of rfl rfl rfl rfl) (ja_cons (je_var 5) ja_nil)))) (jw_or1 (jt_not (jt_val (je_call (d_law_reads T) (hr.mono (by decide)) (takes_of rfl rfl rfl rfl) (ja_cons (je_var 5) ja_nil)))))))
      (jss_one (js_ret je_bl))
      jss_nil))))))
      (jss_cons (js_set 6 c_law.nd (je_op o_add (je_op o_mod (je_callT b_int T.b_int (by decide +kernel) (ja_cons (je_call (d_law_cell T) (hr.mono (by decide)) (takes_of rfl rfl rfl rfl) (ja_cons (je_var 0) (ja_cons je_int ja_nil))) ja_nil)) (je_op o_pow je_int je_int)) je_int))
      (jss_cons (js_set 7 c_law.nd (je_call (d_law_low T) (hr.mono (by decide)) (takes_of rfl rfl rfl rfl) (ja_cons (je_op o_sub (je_op o_mod (je_callT b_int T.b_int (by decide +kernel) (ja_cons (je_call (d_law_cell T) (hr.mono (by decide)) (takes_of rfl rfl rfl rfl) (ja_cons (je_var 0) (ja_cons je_int ja_nil))) ja_nil)) (je_op o_add (je_op o_mul je_int (je_op o_pow je_int je_int)) je_int)) (je_op o_pow je_int je_int)) (ja_cons (je_var 6) ja_nil))))
      (jss_cons (js_if (jt_cmp o_ne (je_callT (b_strO (d_Frac_str T) rfl (hr.mono (by decide))) T.b_str (by decide +kernel) (ja_cons (je_mkF2 (T.fi) (hr.mono (by decide)) (takes_of rfl rfl rfl rfl) (ja_cons (je_ix rfl (je_var 7) je_int) (ja_cons (je_ix rfl (je_var 7) je_int) ja_nil))) ja_nil)) (je_call (d_law_text T) (hr.mono (by decide)) (takes_of rfl rfl rfl rfl) (ja_cons (je_var 7) ja_nil)))
      (jss_one (js_ret je_bl))
      jss_nil)
      (jss_cons (js_set 8 c_law.nd (je_op o_mulX je_str (je_op o_add je_int (je_op o_mod (je_callT b_int T.b_int (by decide +kernel) (ja_cons (je_call (d_law_cell T) (hr.mono (by decide)) (takes_of rfl rfl rfl rfl) (ja_cons (je_var 0) (ja_cons je_int ja_nil))) ja_nil)) je_int))))
      (jss_cons (js_if (jt_w (jw_or (jt_not (jt_val (je_call (d_law_reads T) (hr.mono (by decide)) (takes_of rfl rfl rfl rfl) (ja_cons (je_var 8) ja_nil)))) (jw_or1 (jt_not (jt_val (je_call (d_law_reads T) (hr.mono (by decide)) (takes_of rfl rfl rfl rfl) (ja_cons (je_op o_catX je_str (je_var 8)) ja_nil)))))))
      (jss_one (js_ret je_bl))
      jss_nil)
      (jss_one (js_ret (je_and (je_call (d_law_writes T) (hr.mono (by decide)) (takes_of rfl rfl rfl rfl) (ja_cons (je_var 1) (ja_cons (je_var 7) ja_nil))) (je_one (je_call (d_law_writes T) (hr.mono (by decide)) (takes_of rfl rfl rfl rfl) (ja_cons (je_var 7) (ja_cons (je_var 7) ja_nil)))))))))))))))))
end J


namespace J
open PySem.Spec PySem
open Bp (Sm)
/-! ### reckoning with whole numbers, apart from any law -/
@[simp] theorem asB_okS (b : Bool) : asB (.bl b) = .ok b := rfl
/-! ### whole numbers -/
@[simp] theorem addI_int (a b : Int) : addI (.int a) (.int b) = .ok (.int (a + b)) := rfl
@[simp] theorem subI_int (a b : Int) : subI (.int a) (.int b) = .ok (.int (a - b)) := rfl
@[simp] theorem ltI_int (a b : Int) : ltI (.int a) (.int b) = .ok (.bl (decide (a < b))) := rfl
@[simp] theorem leI_int (a b : Int) : leI (.int a) (.int b) = .ok (.bl (decide (a ≤ b))) := rfl
@[simp] theorem gtI_int (a b : Int) : gtI (.int a) (.int b) = .ok (.bl (decide (b < a))) := rfl
@[simp] theorem geI_int (a b : Int) : geI (.int a) (.int b) = .ok (.bl (decide (b ≤ a))) := rfl
@[simp] theorem negI_int (a : Int) : negI (.int a) = .ok (.int (-a)) := rfl
theorem mulI_int {a b : Int} (ha : a.natAbs < 2 ^ 400000) (hb : b.natAbs < 2 ^ 400000) : mulI (.int a) (.int b) = .ok (.int (a * b)) := by
  unfold mulI iOp
  dsimp only
  rw [if_pos ⟨⟨ha⟩, ⟨hb⟩⟩]
theorem fdivI_int {a b : Int} (h : 0 < b) (hb : b.natAbs < 2 ^ 8999) : fdivI (.int a) (.int b) = .ok (.int (a / b)) := by
  unfold fdivI iOp
  dsimp only
  rw [if_pos ⟨h, ⟨hb⟩⟩]
theorem modI_int {a b : Int} (h : 0 < b) : modI (.int a) (.int b) = .ok (.int (a % b)) := by
  unfold modI iOp
  dsimp only
  rw [if_pos h]
theorem powI_int {a b : Int} (h : 0 ≤ b ∧ b ≤ 1000) (ha : a.natAbs < 2 ^ 63) : powI (.int a) (.int b) = .ok (.int (a ^ b.toNat)) := by
  unfold powI iOp
  dsimp only
  rw [if_pos ⟨h.1, h.2, ⟨ha⟩⟩]
@[simp] theorem intB_int (a : Int) : intB [.int a] = .ok (.int a) := rfl
@[simp] theorem absB_int (a : Int) : absB [.int a] = .ok (.int (a.natAbs : Int)) := by
  show R.ok (PV.int _) = _
  congr 2
  split <;> omega
@[simp] theorem lenB_lst (l : List PV) : lenB [.lst l] = .ok (.int l.length) := rfl
@[simp] theorem lenB_tup (l : List PV) : lenB [.tup l] = .ok (.int l.length) := rfl
theorem small {a : Int} {n : Nat} (h : a.natAbs < n) (k : n ≤ 2 ^ 8000 := by decide) : a.natAbs < 2 ^ 400000 := Nat.lt_of_lt_of_le h (Nat.le_trans k (Nat.pow_le_pow_right (by decide) (by decide)))
theorem sm_pow {a : Int} {n m : Nat} (h : a.natAbs < 2 ^ n) (k : n ≤ m) : a.natAbs < 2 ^ m := Nat.lt_of_lt_of_le h (Nat.pow_le_pow_right (by decide) k)
theorem atI_map {xs : List Int} {k : Nat} (h : k < xs.length) : L2.atI (xs.map PV.int) (k : Int) = some (.int xs[k]) := by
  unfold L2.atI L2.ixN
  rw [if_pos (by omega), if_pos (by simpa using h)]
  simp [h]
abbrev scr (xs : List Int) : PV := .lst (xs.map .int)
def tq (q : Rat) : PV := .tup [.int q.num, .int q.den]
theorem low_pos {a b : Int} (h : 0 < b) : a / (Int.gcd a b : Int) = (Rat.divInt a b).num ∧ b / (Int.gcd a b : Int) = ((Rat.divInt a b).den : Int) := by
  have hb : b ≠ 0 := by omega
  constructor
  · rw [Rat.num_divInt]
    simp [Int.sign_eq_one_of_pos h, Int.gcd_comm]
  · rw [Rat.den_divInt, if_neg hb]
    rw [Int.gcd_comm]
    have : b.natAbs = b.toNat := by omega
    have e : (b : Int) = (b.natAbs : Int) := by omega
    rw [Int.natCast_ediv, ← e]
theorem tup2 {a b : PV} : tupE (argsC (fun _ => .ok a) (argsC (fun _ => .ok b) args0)) [] = .ok (.tup [a, b]) := rfl
theorem gcd_pos2 {a b : Int} (h : b ≠ 0) : 0 < (Int.gcd a b : Int) := by
  have := Int.gcd_pos_of_ne_zero_right a h
  omega
theorem gcd_le2 {a b : Int} (h : b ≠ 0) : (Int.gcd a b : Int).natAbs ≤ b.natAbs := by
  have := Nat.gcd_le_right a.natAbs (show 0 < b.natAbs by omega)
  simpa [Int.gcd] using this
theorem tq_ix (q : Rat) : L2.atI [PV.int q.num, .int q.den] 0 = some (.int q.num) ∧ L2.atI [PV.int q.num, .int q.den] 1 = some (.int q.den) := ⟨rfl, rfl⟩
theorem ixT0 (q : Rat) : ixP (tq q) (.int 0) = .ok (.int q.num) := rfl
theorem ixT1 (q : Rat) : ixP (tq q) (.int 1) = .ok (.int q.den) := rfl
theorem big {a : Int} {n : Nat} (h : a.natAbs < 2 ^ n) (k : n ≤ 4000 := by decide) : a.natAbs < 2 ^ 400000 := sm_pow h (by omega)
theorem bigD {q : Rat} {n : Nat} (h : Sm n q) (k : n ≤ 4000 := by decide) : (q.den : Int).natAbs < 2 ^ 400000 := sm_pow (n := n) h.2 (by omega)
theorem den2 {p q : Rat} (hp : Sm 1000 p) (hq : Sm 1000 q) : ((p.den : Int) * q.den).natAbs < 2 ^ 2000 := Bp.imul_lt (a := 1000) (b := 1000) hp.2 hq.2
theorem den2n {p q : Rat} : ((p.den : Int) * q.den) ≠ 0 := Int.mul_ne_zero (Bp.den_ne p) (Bp.den_ne q)
theorem app_ok {i : Nat} {d : Env → R PV} {e : Env} {l : List PV} {p : PV} (ho : e.at i = .own l) (h : d e = .ok p) (hl : l.length < 1000) : appF i d e = .nx (List.set e i (.own (l ++ [p]))) := by
  unfold appF; rw [ho]; simp only [liftF, h, if_pos hl]
theorem rng_get {n j : Nat} {p : PV} (h : (rngL 0 n)[j]? = some p) : j < n ∧ p = .int j := by
  unfold rngL at h
  rw [List.getElem?_map] at h
  by_cases hj : j < n
  · rw [List.getElem?_range hj] at h
    simp at h
    exact ⟨hj, h.symm⟩
  · rw [List.getElem?_eq_none (by simpa using hj)] at h
    cases h
theorem rng_len (n : Nat) : (rngL 0 n).length = n := by simp [rngL]
theorem rng1_ok {n : Nat} (h : n ≤ 1000) : rng1 [.int (n : Int)] = .ok (rngL 0 n) := by
  unfold rng1
  simp only [Int.toNat_natCast]
  rw [if_pos (by omega)]
theorem args1_ok {d : Env → R PV} {e : Env} {p : PV} (h : d e = .ok p) : argsC d args0 e = .ok [p] := by
  unfold argsC args0
  rw [h]
  rfl
theorem rngB {r : R (List PV)} {n : Nat} (h : r = .ok [.int n]) (hn : n ≤ 1000) : r.bind rng1 = .ok (rngL 0 n) := by
  rw [h, R.bind_ok]
  exact rng1_ok hn
theorem rngE {d : Env → R PV} {e : Env} {n : Nat} (h : d e = .ok (.int n)) (hn : n ≤ 1000) : (fun env => ((argsC d args0) env).bind rng1) e = .ok (rngL 0 n) := rngB (args1_ok h) hn
theorem argsC_ok {d : Env → R PV} {r : Env → R (List PV)} {e : Env} {p : PV} {l : List PV} (h : d e = .ok p) (k : r e = .ok l) : argsC d r e = .ok (p :: l) := by
  unfold argsC
  rw [h, R.bind_ok, k, R.bind_ok]
theorem args2_ok {d d2 : Env → R PV} {e : Env} {p q : PV} (h : d e = .ok p) (k : d2 e = .ok q) : argsC d (argsC d2 args0) e = .ok [p, q] := argsC_ok h (args1_ok k)
theorem args3_ok {d d2 d3 : Env → R PV} {e : Env} {p q r : PV} (h : d e = .ok p) (k : d2 e = .ok q) (l : d3 e = .ok r) : argsC d (argsC d2 (argsC d3 args0)) e = .ok [p, q, r] := argsC_ok h (args2_ok k l)
theorem call_ok {f : List PV → R PV} {dl : Env → R (List PV)} {e : Env} {l : List PV} {r : R PV} (h : dl e = .ok l) (k : f l = r) : callE f dl e = r := by unfold callE; rw [h]; exact k
theorem rd_ok {i : Nat} {e : Env} {p : PV} (h : Env.at e i = .val p) : rdV i e = .ok p := by unfold rdV; rw [h]
theorem toB_ok {d : Env → R PV} {e : Env} {b : Bool} (h : d e = .ok (.bl b)) : toB d e = .ok b := by unfold toB; rw [h]; rfl
theorem notT_ok {t : Env → R Bool} {e : Env} {b : Bool} (h : t e = .ok b) : notT t e = .ok (!b) := by unfold notT; rw [h]; rfl
theorem no_ok {d : Env → R PV} {e : Env} (h : d e = .ok (.bl true)) : notT (toB d) e = .ok false := notT_ok (toB_ok h)
theorem orT_ok {t u : Env → R Bool} {e : Env} (h : t e = .ok false) (k : u e = .ok false) : orT t u e = .ok false := by unfold orT; rw [h, R.bind_ok]; exact k
theorem ite_t {t : Env → R Bool} {f g : Env → F} {e : Env} {r : F} (h : t e = .ok true) (k : f e = r) : iteF t f g e = r := by unfold iteF; rw [h]; exact k
theorem ite_n {t : Env → R Bool} {f g : Env → F} {e : Env} {r : F} (h : t e = .ok false) (k : g e = r) : iteF t f g e = r := by unfold iteF; rw [h]; exact k
theorem set_er {i : Nat} {d : Env → R PV} {e : Env} {c : Nat} {l : List (Str × PV)} (h : d e = .er c l) : setF i d e = .er e c l := by unfold setF liftF; rw [h]
theorem un_ok {f : PV → R PV} {d : Env → R PV} {e : Env} {p : PV} {r : R PV} (h : d e = .ok p) (k : f p = r) : un1 f d e = r := by unfold un1; rw [h]; exact k
theorem bin_ok {f : PV → PV → R PV} {d u : Env → R PV} {e : Env} {p q : PV} {r : R PV} (h : d e = .ok p) (h2 : u e = .ok q) (k : f p q = r) : bin2 f d u e = r := by unfold bin2; rw [h, R.bind_ok, h2, R.bind_ok]; exact k
theorem andV_ok {d u : Env → R PV} {e : Env} {r : R PV} (h : d e = .ok (.bl true)) (k : u e = r) : andV d u e = r := by
  unfold andV
  rw [h]
  exact k
theorem seq_to {f g : Env → F} {e e' : Env} {r : F} (h : f e = .nx e') (k : g e' = r) : seqF f g e = r := by unfold seqF; rw [h]; exact k
end J

namespace J
open PySem.Spec PySem
open Bp (Sm)
theorem cell_ok (xs : List Int) (k : Nat) (hk : k ≤ 1000) : ∃ c : Int, 0 ≤ c ∧ c < 10 ^ 18 ∧ f_law_cell [.lst (xs.map .int), .int k] = .ok (.int c) := by
  have e10 : powI (.int 10) (.int 18) = .ok (.int (10 ^ 18)) := powI_int (by decide) (by decide)
  unfold f_law_cell p_law_cell
  by_cases h : k < xs.length
  · refine ⟨xs[k] % 10 ^ 18, Int.emod_nonneg _ (by decide), Int.emod_lt_of_pos _ (by decide), ?_⟩
    simp only [fnJ, ansF, env0, List.length_cons, List.length_nil, List.map_cons, List.map_nil, List.cons_append, List.nil_append, List.replicate, Nat.reduceAdd, Nat.reduceSub, if_true, if_false, at_cons_zero, at_cons_succ, List.set_cons_zero, List.set_cons_succ, seqF, nextF, retF, setF, dropF, iteF, liftF, callE, argsC, args0, rdV, bin2, un1, toB, toTru, truP, asB, notT, andT, orT, notV, andV, orV, iteE, R.bind_ok, R.bind_er, R.bind_bad, ixP, Bool.false_eq_true, Bool.not_true, Bool.not_false, reduceIte]
    simp only [lenB_lst, List.length_map, R.bind_ok, ltI_int, asB, atI_map h, intB_int, e10, modI_int (show (0 : Int) < 10 ^ 18 by decide)]
    simp [h]
  · refine ⟨5 * k + 1, by omega, by omega, ?_⟩
    simp only [fnJ, ansF, env0, List.length_cons, List.length_nil, List.map_cons, List.map_nil, List.cons_append, List.nil_append, List.replicate, Nat.reduceAdd, Nat.reduceSub, if_true, if_false, at_cons_zero, at_cons_succ, List.set_cons_zero, List.set_cons_succ, seqF, nextF, retF, setF, dropF, iteF, liftF, callE, argsC, args0, rdV, bin2, un1, toB, toTru, truP, asB, notT, andT, orT, notV, andV, orV, iteE, R.bind_ok, R.bind_er, R.bind_bad, ixP, Bool.false_eq_true, Bool.not_true, Bool.not_false, reduceIte]
    have e5 : mulI (.int 5) (.int k) = .ok (.int (5 * k)) := mulI_int (by decide +kernel) (small (n := 1001) (by omega) (by decide +kernel))
    simp only [lenB_lst, List.length_map, R.bind_ok, ltI_int, asB]
    simp [h, e5, at_cons_succ, at_cons_zero]
theorem cellI (xs : List Int) {k : Int} (h0 : 0 ≤ k) (h1 : k ≤ 1000) : ∃ c : Int, 0 ≤ c ∧ c < 10 ^ 18 ∧ f_law_cell [scr xs, .int k] = .ok (.int c) := by
  obtain ⟨n, rfl⟩ : ∃ n : Nat, k = n := ⟨k.toNat, by omega⟩
  exact cell_ok xs n (by omega)
abbrev gC : Env → R Bool := toB (bin2 neS (rdV 1) (fun _ => .ok (.int 0)))
noncomputable abbrev gB : Env → F := lb_law_gcd_1
theorem gcd_loop : ∀ (n : Nat) (a b : Nat) (c : Sl), b < n → ∃ c', whileP gC gB n [.val (.int (a : Int)), .val (.int (b : Int)), c] = .nx [.val (.int (Nat.gcd a b : Int)), .val (.int 0), c'] := by
  intro n
  induction n with
  | zero => intro a b c h; omega
  | succ n ih =>
    intro a b c h
    unfold whileP
    by_cases hb : b = 0
    · subst hb
      refine ⟨c, ?_⟩
      have e : gC [.val (.int (a : Int)), .val (.int ((0 : Nat) : Int)), c] = .ok false := by simp only [fnJ, ansF, env0, List.length_cons, List.length_nil, List.map_cons, List.map_nil, List.cons_append, List.nil_append, List.replicate, Nat.reduceAdd, Nat.reduceSub, if_true, if_false, at_cons_zero, at_cons_succ, List.set_cons_zero, List.set_cons_succ, seqF, nextF, retF, setF, dropF, iteF, liftF, callE, argsC, args0, rdV, bin2, un1, toB, toTru, truP, asB, notT, andT, orT, notV, andV, orV, iteE, R.bind_ok, R.bind_er, R.bind_bad, ixP, Bool.false_eq_true, Bool.not_true, Bool.not_false, reduceIte]; simp
      rw [e]
      simp
    · have hb' : (0 : Int) < b := by omega
      have e : gC [.val (.int (a : Int)), .val (.int (b : Int)), c] = .ok true := by simp only [fnJ, ansF, env0, List.length_cons, List.length_nil, List.map_cons, List.map_nil, List.cons_append, List.nil_append, List.replicate, Nat.reduceAdd, Nat.reduceSub, if_true, if_false, at_cons_zero, at_cons_succ, List.set_cons_zero, List.set_cons_succ, seqF, nextF, retF, setF, dropF, iteF, liftF, callE, argsC, args0, rdV, bin2, un1, toB, toTru, truP, asB, notT, andT, orT, notV, andV, orV, iteE, R.bind_ok, R.bind_er, R.bind_bad, ixP, Bool.false_eq_true, Bool.not_true, Bool.not_false, reduceIte]; simp [hb]
      have f : gB [.val (.int (a : Int)), .val (.int (b : Int)), c] = .nx [.val (.int (b : Int)), .val (.int ((a % b : Nat) : Int)), .val (.int ((a % b : Nat) : Int))] := by
        unfold gB lb_law_gcd_1
        simp only [fnJ, ansF, env0, List.length_cons, List.length_nil, List.map_cons, List.map_nil, List.cons_append, List.nil_append, List.replicate, Nat.reduceAdd, Nat.reduceSub, if_true, if_false, at_cons_zero, at_cons_succ, List.set_cons_zero, List.set_cons_succ, seqF, nextF, retF, setF, dropF, iteF, liftF, callE, argsC, args0, rdV, bin2, un1, toB, toTru, truP, asB, notT, andT, orT, notV, andV, orV, iteE, R.bind_ok, R.bind_er, R.bind_bad, ixP, Bool.false_eq_true, Bool.not_true, Bool.not_false, reduceIte]
        simp [modI_int hb', at_cons_zero, at_cons_succ]
      rw [e, f]
      obtain ⟨c', e'⟩ := ih b (a % b) (.val (.int ((a % b : Nat) : Int))) (by have := Nat.mod_lt a (Nat.pos_of_ne_zero hb); omega)
      have g : Nat.gcd a b = Nat.gcd b (a % b) := by rw [Nat.gcd_comm, Nat.gcd_rec, Nat.gcd_comm]
      exact ⟨c', by rw [g]; exact e'⟩
theorem gcd_ok (a b : Int) : f_law_gcd [.int a, .int b] = .ok (.int (Int.gcd a b : Int)) := by
  obtain ⟨c', e⟩ := gcd_loop (b.natAbs + 1) a.natAbs b.natAbs .no (by omega)
  have hg : Int.gcd a b = Nat.gcd a.natAbs b.natAbs := rfl
  have w : whileE (fuelI 1) gC gB [.val (.int (a.natAbs : Int)), .val (.int (b.natAbs : Int)), .no] = .nx [.val (.int (Nat.gcd a.natAbs b.natAbs : Int)), .val (.int 0), c'] := by
    unfold whileE fuelI
    simp only [at_cons_zero, at_cons_succ, Int.natAbs_natCast]
    exact e
  unfold f_law_gcd p_law_gcd
  simp only [fnJ, env0, List.length_cons, List.length_nil, List.map_cons, List.map_nil, List.cons_append, List.nil_append, List.replicate, Nat.reduceAdd, Nat.reduceSub, if_true]
  rw [seqF, setF]
  simp only [liftF, callE, argsC, args0, rdV, at_cons_zero, at_cons_succ, R.bind_ok, absB_int, List.set_cons_zero]
  rw [seqF, setF]
  simp only [liftF, callE, argsC, args0, rdV, at_cons_zero, at_cons_succ, R.bind_ok, absB_int, List.set_cons_zero, List.set_cons_succ]
  rw [seqF, w]
  simp [retF, liftF, rdV, at_cons_zero, ansF, hg]
theorem low_ok {a b : Int} (hb : 0 < b) (hs : b.natAbs < 2 ^ 8000) : f_law_low [.int a, .int b] = .ok (tq (Rat.divInt a b)) := by
  have hg := gcd_pos2 (a := a) (show b ≠ 0 by omega)
  have hgs : (Int.gcd a b : Int).natAbs < 2 ^ 8999 := Nat.lt_of_le_of_lt (gcd_le2 (by omega)) (sm_pow hs (by decide))
  unfold f_law_low p_law_low
  refine An.fn rfl ?_
  simp only [env0, List.length_cons, List.length_nil, List.map_cons, List.map_nil, List.cons_append, List.nil_append, List.replicate, Nat.reduceAdd, Nat.reduceSub]
  refine An.set (p := .int (Int.gcd a b)) (call_ok (args2_ok (rd_ok rfl) (rd_ok rfl)) (gcd_ok a b)) (An.retO ?_)
  unfold tupE
  simp (config := {failIfUnchanged := false}) only [List.length_cons, List.length_nil, List.map_cons, List.map_nil, List.cons_append, List.nil_append, Nat.reduceAdd, Nat.reduceSub, if_true, if_false, at_cons_zero, at_cons_succ, List.set_cons_zero, List.set_cons_succ, callE, argsC, args0, rdV, bin2, un1, toB, asB_ok, notT, andT, orT, notV, andV, orV, iteE, R.bind_ok, R.bind_er, R.bind_bad, Bool.false_eq_true, Bool.not_true, Bool.not_false, reduceIte, decide_true, decide_false, fdivI_int hg hgs, (low_pos hb).1, (low_pos hb).2]
  rfl
end J

namespace J
open PySem.Spec PySem
open Bp (Sm)
open SX (S)
/-! ### texts of ASCII signs -/
def Asc (a : List Nat) : Prop := ∀ c ∈ a, c < 128
abbrev Dig (a : List Nat) : Prop := ∀ c ∈ a, 48 ≤ c ∧ c ≤ 57
theorem dig1 : ∀ c : Nat, c < 128 → Unicode.isDigit c = (decide (48 ≤ c) && decide (c ≤ 57)) := by decide +kernel
theorem isdig_S {a : List Nat} (h : Asc a) : Txt.isdigit (S a) = decide (a ≠ [] ∧ Dig a) := by
  unfold Txt.isdigit
  rw [SX.S_len]
  have e : (S a).cps.all Unicode.isDigit = a.all Unicode.isDigit := by show a.toArray.all _ = _; simp
  rw [e]
  have e2 : a.all Unicode.isDigit = decide (Dig a) := by
    rw [Bool.eq_iff_iff, List.all_eq_true, decide_eq_true_iff]
    constructor
    · intro z c hc
      have := z c hc
      rw [dig1 c (h c hc), Bool.and_eq_true, decide_eq_true_iff, decide_eq_true_iff] at this
      exact this
    · intro z c hc
      rw [dig1 c (h c hc), Bool.and_eq_true, decide_eq_true_iff, decide_eq_true_iff]
      exact z c hc
  rw [e2]
  cases a with
  | nil => simp
  | cons c r => simp
theorem sub1 (a : List Nat) (c : Nat) : Builtin.Str.subAt (S a) (S [c]) 0 = decide (a.head? = some c) := by
  have e : Builtin.Str.subAt (S a) (S [c]) 0 = ((a.toArray.extract 0 1) == #[c]) := rfl
  rw [e]
  cases a with
  | nil => simp
  | cons d r =>
    have e2 : (d :: r).toArray.extract 0 1 = #[d] := by simp
    rw [e2]
    have e3 : (#[d] == #[c]) = (d == c) := by simp
    rw [e3, Bool.eq_iff_iff]
    simp
theorem start_S (a : List Nat) (c : Nat) : Txt.startswith (S a) (S [c]) = decide (a.head? = some c) := by
  unfold Txt.startswith
  rw [SX.S_len, SX.S_len, sub1]
  cases a with
  | nil => simp
  | cons d r => simp
def noPre (c : Nat) (a : List Nat) : List Nat := if a.head? = some c then a.tail else a
theorem rmpre_S (a : List Nat) (c : Nat) : Txt.removeprefix (S a) (S [c]) = S (noPre c a) := by
  rw [StrLaws.removeprefix_eq]
  rw [SX.S_len, SX.S_len, sub1]
  unfold noPre
  by_cases h : a.head? = some c
  · rw [if_pos h]
    cases a with
    | nil => simp at h
    | cons d r =>
      have e : (decide (0 + [c].length ≤ (d :: r).length) && decide ((d :: r).head? = some c)) = true := by simp at h; simp [h]
      rw [if_pos e]
      show Str.mk _ = Str.mk _
      congr 1
      simp [S]
  · rw [if_neg h, decide_eq_false h, Bool.and_false, if_neg Bool.false_ne_true]
theorem lit1 : (("-" : Str) = S [45]) ∧ (("/" : Str) = S [47]) ∧ (("0" : Str) = S [48]) ∧ (("" : Str) = S []) := ⟨by decide +kernel, by decide +kernel, by decide +kernel, by decide +kernel⟩
/-- a text has no stroke, or one part before the first and one behind -/
theorem stroke (a : List Nat) : (47 ∉ a) ∨ ∃ p q, a = p ++ 47 :: q ∧ 47 ∉ p := by
  induction a with
  | nil => left; simp
  | cons c r ih =>
    by_cases h : c = 47
    · right
      exact ⟨[], r, by rw [h]; rfl, by simp⟩
    · rcases ih with ih | ⟨p, q, e, hp⟩
      · left
        intro z
        rcases List.mem_cons.mp z with z | z
        · exact h z.symm
        · exact ih z
      · right
        refine ⟨c :: p, q, by rw [e]; rfl, ?_⟩
        intro z
        rcases List.mem_cons.mp z with z | z
        · exact h z.symm
        · exact hp z
theorem part_no {a : List Nat} (h : 47 ∉ a) : Txt.partition (S a) (S [47]) = (S a, S [], S []) := SX.partition_none (by simp) (SX.par_head_none h)
theorem part_at {p q : List Nat} (h : 47 ∉ p) : Txt.partition (S (p ++ 47 :: q)) (S [47]) = (S p, S [47], S q) := SX.partition_some (by simp) (SX.par_head (sep := []) q h)
theorem split_no {a : List Nat} (h : 47 ∉ a) : Txt.split (S a) (S [47]) = [S a] := by
  rw [SX.split_S (by simp) (by decide +kernel)]
  have := SX.spl_join (c := 47) (sep := []) (parts := [a]) (by simp) (by simpa using h)
  rw [show TL.joinL [47] [a] = a from rfl] at this
  rw [this]
  rfl
theorem split_one {p q : List Nat} (h : 47 ∉ p) (k : 47 ∉ q) : Txt.split (S (p ++ 47 :: q)) (S [47]) = [S p, S q] := by
  rw [SX.split_S (by simp) (by decide +kernel)]
  have := SX.spl_join (c := 47) (sep := []) (parts := [p, q]) (by simp) (by
    intro x hx
    rcases List.mem_cons.mp hx with rfl | hx
    · exact h
    · rw [List.mem_singleton.mp hx]; exact k)
  rw [show TL.joinL [47] [p, q] = p ++ 47 :: q from rfl] at this
  rw [this]
  rfl
/-- two strokes and more: three words and more -/
theorem split_two {p q r : List Nat} (h : 47 ∉ p) (k : 47 ∉ q) : ∃ w, Txt.split (S (p ++ 47 :: (q ++ 47 :: r))) (S [47]) = S p :: S q :: w ∧ w ≠ [] := by
  rw [SX.split_S (by simp) (by decide +kernel)]
  rw [show p ++ 47 :: (q ++ 47 :: r) = p ++ ([47] ++ (q ++ ([47] ++ r))) from rfl]
  rw [SX.spl_free _ (by simp) (SX.free_head h), SX.spl_free _ (by simp) (SX.free_head k)]
  refine ⟨(TL.spl [47] 0 [] r).map S, rfl, ?_⟩
  intro z
  have : ∀ (l acc : List Nat) (n : Nat), TL.spl [47] n acc l ≠ [] := by
    intro l
    induction l with
    | nil => intro acc n; rw [TL.spl_nil]; simp
    | cons c l ih =>
      intro acc n
      cases n with
      | zero =>
        unfold TL.spl
        split
        · simp
        · exact ih _ _
      | succ n => exact ih _ _
  exact this r [] 0 (by simpa using z)
end J

namespace J
open PySem.Spec PySem
open Bp (Sm)
open SX (S)
theorem orT_v {t u : Env → R Bool} {e : Env} {b c : Bool} (h : t e = .ok b) (k : b = false → u e = .ok c) : orT t u e = .ok (b || c) := by
  unfold orT
  rw [h, R.bind_ok]
  cases b with
  | true => rfl
  | false => rw [if_neg Bool.false_ne_true, k rfl]; rfl
theorem andT_v {t u : Env → R Bool} {e : Env} {b c : Bool} (h : t e = .ok b) (k : b = true → u e = .ok c) : andT t u e = .ok (b && c) := by
  unfold andT
  rw [h, R.bind_ok]
  cases b with
  | false => rfl
  | true => rw [if_pos rfl, k rfl]; rfl
theorem c_ok {p : PV} {e : Env} : (fun _ : Env => R.ok p) e = .ok p := rfl
theorem sl_eq (l : List Nat) (h : l.length ≤ sizeLine) : lenB [.str (S l)] = .ok (.int l.length) := by
  unfold lenB
  simp only [SX.S_len, if_pos h]
theorem eqS_S (a b : List Nat) : eqS (.str (S a)) (.str (S b)) = .ok (.bl (decide (a = b))) := by
  rw [eqS_str]
  congr 2
  rw [Bool.eq_iff_iff, decide_eq_true_iff, decide_eq_true_iff]
  exact ⟨SX.S_inj, fun h => by rw [h]⟩
theorem neS_S (a b : List Nat) : neS (.str (S a)) (.str (S b)) = .ok (.bl (!decide (a = b))) := by
  rw [neS_str]
  congr 3
  rw [Bool.eq_iff_iff, decide_eq_true_iff, decide_eq_true_iff]
  exact ⟨SX.S_inj, fun h => by rw [h]⟩
theorem ixX_0 {a : List Nat} {c : Nat} (h : a.head? = some c) (hl : a.length ≤ sizeLine) : ixX (.str (S a)) (.int 0) = .ok (.str (S [c])) := by
  unfold ixX
  cases a with
  | nil => cases h
  | cons d r =>
    have e : d = c := by simpa using h
    subst e
    simp only [SX.S_len, if_pos hl]
    have e : L2.atI (S (d :: r)).cps.toList 0 = some d := by
      show L2.atI (d :: r) 0 = some d
      unfold L2.atI L2.ixN
      simp
    rw [e]
theorem dig_lit : ("0123456789" : Str) = S [48, 49, 50, 51, 52, 53, 54, 55, 56, 57] := by decide +kernel
theorem ninX_dig (c : Nat) : ninX (.str (S [c])) (.str "0123456789") = .ok (.bl (!decide (48 ≤ c ∧ c ≤ 57))) := by
  unfold ninX
  simp only
  rw [dig_lit, SX.in_one]
  congr 3
  rw [Bool.eq_iff_iff, decide_eq_true_iff, decide_eq_true_iff]
  simp only [List.mem_cons, List.not_mem_nil, or_false]
  omega
/-- a written number: no leading zero, at most 40 figures -/
def Can (a : List Nat) : Prop := a ≠ [] ∧ a.length ≤ 40 ∧ (1 < a.length → a.head? ≠ some 48) ∧ Dig a
theorem figs_loop (w : Sl) : ∀ (l : List Nat) (c : Sl), (Dig l → ∃ c', forP (bdN 1) lb_law_figures_1 (l.map fun c => PV.str (S [c])) [w, c] = .nx [w, c']) ∧ (¬ Dig l → forP (bdN 1) lb_law_figures_1 (l.map fun c => PV.str (S [c])) [w, c] = .rt (.int (-1))) := by
  intro l
  induction l with
  | nil => exact fun c => ⟨fun _ => ⟨c, rfl⟩, fun h => absurd (fun _ z => by cases z) h⟩
  | cons d r ih =>
    intro c
    have hb : bdN 1 (PV.str (S [d])) [w, c] = some [w, .val (.str (S [d]))] := rfl
    have ht : toB (bin2 ninX (rdV 1) (fun _ => .ok (.str "0123456789"))) [w, .val (.str (S [d]))] = .ok (!decide (48 ≤ d ∧ d ≤ 57)) := toB_ok (bin_ok (rd_ok rfl) rfl (ninX_dig d))
    by_cases hd : 48 ≤ d ∧ d ≤ 57
    · have hx : lb_law_figures_1 [w, .val (.str (S [d]))] = .nx [w, .val (.str (S [d]))] := by
        unfold lb_law_figures_1 iteF
        rw [ht, decide_eq_true hd]
        rfl
      have hf : forP (bdN 1) lb_law_figures_1 ((d :: r).map fun c => PV.str (S [c])) [w, c] = forP (bdN 1) lb_law_figures_1 (r.map fun c => PV.str (S [c])) [w, .val (.str (S [d]))] := by
        rw [List.map_cons, forP, hb]
        simp only [hx]
      refine ⟨fun h => ?_, fun h => ?_⟩
      · obtain ⟨c', e⟩ := (ih (.val (.str (S [d])))).1 fun x hx => h x (List.mem_cons_of_mem _ hx)
        exact ⟨c', hf.trans e⟩
      · refine hf.trans ((ih _).2 fun z => h fun x hx => ?_)
        rcases List.mem_cons.mp hx with rfl | hx
        · exact hd
        · exact z x hx
    · have hx : lb_law_figures_1 [w, .val (.str (S [d]))] = .rt (.int (-1)) := by
        unfold lb_law_figures_1 iteF
        rw [ht, decide_eq_false hd]
        rfl
      refine ⟨fun h => absurd (h d (List.mem_cons_self ..)) hd, fun _ => ?_⟩
      rw [List.map_cons, forP, hb]
      simp only [hx]
open Classical in
theorem figures_ok {a : List Nat} (hl : a.length ≤ sizeLine) : f_law_figures [.str (S a)] = .ok (.int (if Can a then (NumText.digitsVal a : Int) else -1)) := by
  unfold f_law_figures p_law_figures
  refine An.fn rfl ?_
  simp only [env0, List.length_cons, List.length_nil, List.map_cons, List.map_nil, List.cons_append, List.nil_append, List.replicate, Nat.reduceAdd, Nat.reduceSub]
  have hlen : callE lenB (argsC (rdV 0) args0) [.val (.str (S a)), .no] = .ok (.int a.length) := call_ok (args1_ok (rd_ok rfl)) (sl_eq a hl)
  have t1 : toB (bin2 eqS (rdV 0) (fun _ => .ok (.str ""))) [.val (.str (S a)), .no] = .ok (decide (a = [])) := toB_ok (bin_ok (rd_ok rfl) rfl (by rw [lit1.2.2.2]; exact eqS_S a []))
  have t2 : toB (bin2 gtI (callE lenB (argsC (rdV 0) args0)) (fun _ => .ok (.int 40))) [.val (.str (S a)), .no] = .ok (decide ((40 : Int) < a.length)) := toB_ok (bin_ok hlen rfl (gtI_int _ _))
  have t3 : toB (bin2 gtI (callE lenB (argsC (rdV 0) args0)) (fun _ => .ok (.int 1))) [.val (.str (S a)), .no] = .ok (decide ((1 : Int) < a.length)) := toB_ok (bin_ok hlen rfl (gtI_int _ _))
  have t4 : a ≠ [] → toB (bin2 eqS (bin2 ixX (rdV 0) (fun _ => .ok (.int 0))) (fun _ => .ok (.str "0"))) [.val (.str (S a)), .no] = .ok (decide (a.head? = some 48)) := fun hne => by
    cases a with
    | nil => exact absurd rfl hne
    | cons d r =>
      refine toB_ok (bin_ok (bin_ok (rd_ok rfl) rfl (ixX_0 (c := d) rfl hl)) rfl ?_)
      rw [lit1.2.2.1, eqS_S]
      congr 2
      simp
  have cond := orT_v t1 fun z => orT_v t2 fun _ => andT_v t3 fun _ => t4 (of_decide_eq_false z)
  by_cases h : (decide (a = []) || (decide ((40 : Int) < a.length) || (decide ((1 : Int) < a.length) && decide (a.head? = some 48)))) = true
  · rw [h] at cond
    have nc : ¬ Can a := by
      intro ⟨c1, c2, c3, c4⟩
      simp only [Bool.or_eq_true, Bool.and_eq_true, decide_eq_true_iff] at h
      rcases h with h | h | ⟨h, h'⟩
      · exact c1 h
      · omega
      · exact c3 (by omega) h'
    rw [if_neg nc]
    exact An.iteT cond (An.retSO rfl)
  · rw [Bool.not_eq_true] at h
    rw [h] at cond
    refine An.iteX cond ?_
    simp only [Bool.or_eq_false_iff, Bool.and_eq_false_iff, decide_eq_false_iff_not] at h
    obtain ⟨h1, h2, h3⟩ := h
    have hs : signsE (rdV 0) [.val (.str (S a)), .no] = .ok (a.map fun c => PV.str (S [c])) := rfl
    by_cases hd : Dig a
    · obtain ⟨c', e⟩ := (figs_loop (.val (.str (S a))) a .no).1 hd
      have can : Can a := ⟨h1, by omega, fun z w => h3.elim (fun q => q (by omega)) fun q => q w, hd⟩
      rw [if_pos can]
      refine An.to (forE_ok hs e) (An.retO (call_ok (args1_ok (rd_ok rfl)) ?_))
      unfold intS
      simp only
      rw [intText_digits (x := S a) hd h1 (by rw [SX.S_len]; omega)]
      simp only [SX.S_len]
      rw [if_pos (by omega)]
    · have e := (figs_loop (.val (.str (S a))) a .no).2 hd
      rw [if_neg fun c => hd c.2.2.2]
      exact An.toR (forE_rt hs e)
end J

namespace J
open PySem.Spec PySem
open Bp (Sm)
open SX (S)
/-! ### the law's own reading -/
open Classical in
noncomputable def sg (a : List Nat) : Int := if a.head? = some 45 then -1 else 1
abbrev vl (a : List Nat) : Nat := NumText.digitsVal a
theorem slX_to {e : Env} {d : Env → R PV} {a : List Nat} (h : d e = .ok (.str (S a))) (hl : a.length ≤ sizeLine) : sliceX d noB (someB (fun _ => .ok (.int 1))) e = .ok (.str (S (a.take 1))) := by
  unfold sliceX noB someB asI
  rw [h]
  simp only [R.bind_ok, SX.S_len, if_pos hl]
  rw [SX.slice_to (by decide)]
  rfl
theorem slX_from {e : Env} {d : Env → R PV} {a : List Nat} (h : d e = .ok (.str (S a))) (hl : a.length ≤ sizeLine) : sliceX d (someB (fun _ => .ok (.int 1))) noB e = .ok (.str (S (a.drop 1))) := by
  unfold sliceX noB someB asI
  rw [h]
  simp only [R.bind_ok, SX.S_len, if_pos hl]
  rw [SX.slice_from (by decide)]
  rfl
theorem sign_ok {a : List Nat} {x y z : Sl} (hl : a.length ≤ sizeLine) : (iteF (toB (bin2 eqS (sliceX (rdV 0) noB (someB (fun _ => .ok (.int 1)))) (fun _ => .ok (.str "-")))) (seqF (setF 1 (un1 negI (fun _ => .ok (.int 1)))) (setF 0 (sliceX (rdV 0) (someB (fun _ => .ok (.int 1))) noB))) nextF) [.val (.str (S a)), .val (.int 1), x, y, z] = .nx [.val (.str (S (noPre 45 a))), .val (.int (sg a)), x, y, z] := by
  have t : toB (bin2 eqS (sliceX (rdV 0) noB (someB (fun _ => .ok (.int 1)))) (fun _ => .ok (.str "-"))) [.val (.str (S a)), .val (.int 1), x, y, z] = .ok (decide (a.head? = some 45)) := by
    refine toB_ok (bin_ok (slX_to (rd_ok rfl) hl) rfl ?_)
    rw [lit1.1, eqS_S]
    congr 2
    cases a with
    | nil => simp
    | cons d r => simp
  unfold sg noPre
  by_cases h : a.head? = some 45
  · rw [decide_eq_true h] at t
    rw [if_pos h, if_pos h]
    refine ite_t t (seq_to (e' := [.val (.str (S a)), .val (.int (-1)), x, y, z]) rfl ?_)
    have e := slX_from (e := [.val (.str (S a)), .val (.int (-1)), x, y, z]) (d := rdV 0) (rd_ok rfl) hl
    unfold setF
    rw [e]
    cases a with
    | nil => cases h
    | cons d r => rfl
  · rw [decide_eq_false h] at t
    rw [if_neg h, if_neg h]
    exact ite_n t rfl
theorem noPre_len {c : Nat} {a : List Nat} : (noPre c a).length ≤ a.length := by
  unfold noPre
  split
  · cases a <;> simp
  · exact Nat.le_refl _
theorem sg_cases (a : List Nat) : sg a = 1 ∨ sg a = -1 := by
  unfold sg
  split
  · exact .inr rfl
  · exact .inl rfl
theorem splT_ok {e : Env} {d : Env → R PV} {a : List Nat} {w : List Str} (h : d e = .ok (.str (S a))) (hl : a.length + 2 ≤ sizeLine) (hw : Txt.split (S a) (S [47]) = w) : tm1 splitT d (fun _ => .ok (.str "/")) e = .ok (.lst (w.map PV.str)) := by
  unfold tm1
  rw [h]
  simp only [R.bind_ok]
  unfold splitT
  simp only
  rw [lit1.2.1, hw, if_pos ⟨by rw [SX.S_len]; rfl, by rw [SX.S_len]; exact hl⟩]
theorem sl24 : sizeLine = 2 ^ 24 := rfl
theorem can_val {a : List Nat} (h : Can a) : vl a < 10 ^ 40 := by
  have : ∀ (l : List Nat) (x : Nat), Dig l → l.foldl (fun acc c => acc * 10 + (c - 48)) x < (x + 1) * 10 ^ l.length := by
    intro l
    induction l with
    | nil => intro x _; simp
    | cons d r ih =>
      intro x hd
      have h1 := ih (x * 10 + (d - 48)) fun c hc => hd c (List.mem_cons_of_mem _ hc)
      have h2 := hd d (List.mem_cons_self ..)
      rw [List.foldl_cons, List.length_cons]
      refine Nat.lt_of_lt_of_le h1 ?_
      rw [Nat.pow_succ, Nat.mul_comm (10 ^ r.length) 10, ← Nat.mul_assoc]
      exact Nat.mul_le_mul_right _ (by omega)
  have h1 := this a 0 h.2.2.2
  have h2 : (0 + 1) * 10 ^ a.length ≤ 10 ^ 40 := by
    rw [Nat.zero_add, Nat.one_mul]
    exact Nat.pow_le_pow_right (by decide) h.2.1
  exact Nat.lt_of_lt_of_le h1 h2
theorem orT_t {t u : Env → R Bool} {e : Env} (h : t e = .ok true) : orT t u e = .ok true := by unfold orT; rw [h]; rfl
theorem tup2_ok {d u : Env → R PV} {e : Env} {p q : PV} (h : d e = .ok p) (k : u e = .ok q) : tupE (argsC d (argsC u args0)) e = .ok (.tup [p, q]) := by
  unfold tupE
  rw [args2_ok h k]
  rfl
theorem gcd_one (n : Int) : Int.gcd n 1 = 1 := by simp
open Classical in
theorem reading0 {a : List Nat} (hl : a.length ≤ 10000000) (h : 47 ∉ noPre 45 a) :
    f_law_reading [.str (S a)] = .ok (if Can (noPre 45 a) ∧ ¬ (vl (noPre 45 a) = 0 ∧ sg a < 0) then .tup [.int (sg a * vl (noPre 45 a)), .int 1] else .non) := by
  have hb := noPre_len (c := 45) (a := a)
  have hz := sl24
  unfold f_law_reading p_law_reading
  refine An.fn rfl ?_
  simp only [env0, List.length_cons, List.length_nil, List.map_cons, List.map_nil, List.cons_append, List.nil_append, List.replicate, Nat.reduceAdd, Nat.reduceSub]
  refine An.set rfl (An.to (sign_ok (by omega)) ?_)
  generalize hbb : noPre 45 a = b at *
  have hs := sg_cases a
  generalize hss : sg a = s at *
  refine An.set (p := .lst [.str (S b)]) (splT_ok (rd_ok rfl) (by omega) (split_no h)) ?_
  refine An.iteX (toB_ok (bin_ok (call_ok (args1_ok (rd_ok rfl)) (lenB_lst _)) rfl (gtI_int _ _))) ?_
  refine An.set (p := .int (if Can b then (vl b : Int) else -1)) (call_ok (args1_ok (bin_ok (rd_ok rfl) rfl rfl)) (figures_ok (by omega))) ?_
  refine An.set rfl ?_
  refine An.iteX (toB_ok (bin_ok (call_ok (args1_ok (rd_ok rfl)) (lenB_lst _)) rfl (eqS_int _ _))) ?_
  by_cases hc : Can b
  · rw [if_pos hc]
    have ht := orT_v (t := toB (bin2 ltI (rdV 3) (fun _ => .ok (.int 0)))) (u := andT (toB (bin2 eqS (rdV 3) (fun _ => .ok (.int 0)))) (orT (toB (bin2 ltI (rdV 1) (fun _ => .ok (.int 0)))) (toB (bin2 neS (rdV 4) (fun _ => .ok (.int 1)))))) (e := [.val (.str (S b)), .val (.int s), .val (.lst [.str (S b)]), .val (.int (vl b)), .val (.int 1)])
      (toB_ok (bin_ok (rd_ok rfl) rfl (ltI_int _ _))) fun _ => andT_v (toB_ok (bin_ok (rd_ok rfl) rfl (eqS_int _ _))) fun _ => orT_v (toB_ok (bin_ok (rd_ok rfl) rfl (ltI_int _ _))) fun _ => toB_ok (bin_ok (rd_ok rfl) rfl (neS_int _ _))
    by_cases hk : vl b = 0 ∧ s < 0
    · rw [if_neg (by rintro ⟨_, z⟩; exact z hk)]
      refine An.iteT (ht.trans ?_) (An.retSO rfl)
      congr 1
      simp [hk.1, hk.2]
    · rw [if_pos ⟨hc, hk⟩]
      refine An.iteX (ht.trans ?_) ?_
      · congr 1
        have h0 : ¬ ((vl b : Int) < 0) := by omega
        by_cases h1 : vl b = 0
        · have h2 : ¬ s < 0 := fun z => hk ⟨h1, z⟩
          simp [h1, h2]
        · have h1' : ¬ (vl b : Int) = 0 := by omega
          rw [decide_eq_false h0, decide_eq_false h1']
          rfl
      · refine An.iteX (toB_ok (bin_ok (call_ok (args2_ok (rd_ok rfl) (rd_ok rfl)) (gcd_ok _ _)) rfl ((neS_int _ _).trans (by rw [gcd_one]; rfl)))) ?_
        have hv := can_val hc
        have hm : bin2 mulI (rdV 1) (rdV 3) [.val (.str (S b)), .val (.int s), .val (.lst [.str (S b)]), .val (.int (vl b)), .val (.int 1)] = .ok (.int (s * vl b)) :=
          bin_ok (rd_ok rfl) (rd_ok rfl) (mulI_int (small (n := 2) (by omega) (by decide +kernel)) (small (n := 10 ^ 40) (by omega) (by decide +kernel)))
        exact An.retO (tup2_ok hm (rd_ok rfl))
  · rw [if_neg hc, if_neg fun z => hc z.1]
    exact An.iteT (orT_t (toB_ok (bin_ok (rd_ok rfl) rfl (ltI_int (-1) 0)))) (An.retSO rfl)
end J

namespace J
open PySem.Spec PySem
open Bp (Sm)
open SX (S)
open Classical in
theorem reading1 {a p q : List Nat} (hl : a.length ≤ 10000000) (hb : noPre 45 a = p ++ 47 :: q) (hp : 47 ∉ p) (hq : 47 ∉ q) :
    f_law_reading [.str (S a)] = .ok (if Can p ∧ Can q ∧ 2 ≤ vl q ∧ vl p ≠ 0 ∧ Int.gcd (vl p) (vl q) = 1 then .tup [.int (sg a * vl p), .int (vl q)] else .non) := by
  have hlen := noPre_len (c := 45) (a := a)
  have hz := sl24
  rw [hb] at hlen
  have hlen' : p.length + (q.length + 1) ≤ a.length := by simpa using hlen
  unfold f_law_reading p_law_reading
  refine An.fn rfl ?_
  simp only [env0, List.length_cons, List.length_nil, List.map_cons, List.map_nil, List.cons_append, List.nil_append, List.replicate, Nat.reduceAdd, Nat.reduceSub]
  refine An.set rfl (An.to (sign_ok (by omega)) ?_)
  rw [hb]
  have hs := sg_cases a
  generalize hss : sg a = s at *
  refine An.set (p := .lst [.str (S p), .str (S q)]) (splT_ok (rd_ok rfl) (by simp; omega) (split_one hp hq)) ?_
  refine An.iteX (toB_ok (bin_ok (call_ok (args1_ok (rd_ok rfl)) (lenB_lst _)) rfl (gtI_int _ _))) ?_
  refine An.set (p := .int (if Can p then (vl p : Int) else -1)) (call_ok (args1_ok (bin_ok (rd_ok rfl) rfl rfl)) (figures_ok (by omega))) ?_
  refine An.set rfl ?_
  refine An.iteT (toB_ok (bin_ok (call_ok (args1_ok (rd_ok rfl)) (lenB_lst _)) rfl (eqS_int _ _))) (An.assoc ?_)
  refine An.set (p := .int (if Can q then (vl q : Int) else -1)) (call_ok (args1_ok (bin_ok (rd_ok rfl) rfl rfl)) (figures_ok (by omega))) ?_
  by_cases hcq : Can q ∧ 2 ≤ vl q
  · rw [if_pos hcq.1]
    refine An.iteX (toB_ok (bin_ok (rd_ok rfl) rfl ((ltI_int _ _).trans (by rw [decide_eq_false (by omega)])))) ?_
    by_cases hc : Can p
    · rw [if_pos hc]
      have ht := orT_v (t := toB (bin2 ltI (rdV 3) (fun _ => .ok (.int 0)))) (u := andT (toB (bin2 eqS (rdV 3) (fun _ => .ok (.int 0)))) (orT (toB (bin2 ltI (rdV 1) (fun _ => .ok (.int 0)))) (toB (bin2 neS (rdV 4) (fun _ => .ok (.int 1)))))) (e := [.val (.str (S (p ++ 47 :: q))), .val (.int s), .val (.lst [.str (S p), .str (S q)]), .val (.int (vl p)), .val (.int (vl q))])
        (toB_ok (bin_ok (rd_ok rfl) rfl (ltI_int _ _))) fun _ => andT_v (toB_ok (bin_ok (rd_ok rfl) rfl (eqS_int _ _))) fun _ => orT_v (toB_ok (bin_ok (rd_ok rfl) rfl (ltI_int _ _))) fun _ => toB_ok (bin_ok (rd_ok rfl) rfl (neS_int _ _))
      by_cases h0 : vl p = 0
      · rw [if_neg fun z => z.2.2.2.1 h0]
        refine An.iteT (ht.trans ?_) (An.retSO rfl)
        have h2 : ¬ (vl q : Int) = 1 := by omega
        have e0 : (vl p : Int) = 0 := by omega
        rw [decide_eq_true e0, decide_eq_false h2]
        simp
      · refine An.iteX (ht.trans ?_) ?_
        · have h1 : ¬ ((vl p : Int) < 0) := by omega
          have h1' : ¬ (vl p : Int) = 0 := by omega
          rw [decide_eq_false h1, decide_eq_false h1']
          rfl
        · have tg : toB (bin2 neS (callE f_law_gcd (argsC (rdV 3) (argsC (rdV 4) args0))) (fun _ => .ok (.int 1))) [.val (.str (S (p ++ 47 :: q))), .val (.int s), .val (.lst [.str (S p), .str (S q)]), .val (.int (vl p)), .val (.int (vl q))] = .ok (!decide ((Int.gcd (vl p) (vl q) : Int) = 1)) :=
            toB_ok (bin_ok (call_ok (args2_ok (rd_ok rfl) (rd_ok rfl)) (gcd_ok _ _)) rfl (neS_int _ _))
          by_cases hg : Int.gcd (vl p) (vl q) = 1
          · rw [if_pos ⟨hc, hcq.1, hcq.2, h0, hg⟩]
            refine An.iteX (tg.trans (by rw [decide_eq_true (by rw [hg]; rfl)]; rfl)) ?_
            have hv := can_val hc
            have hm : bin2 mulI (rdV 1) (rdV 3) [.val (.str (S (p ++ 47 :: q))), .val (.int s), .val (.lst [.str (S p), .str (S q)]), .val (.int (vl p)), .val (.int (vl q))] = .ok (.int (s * vl p)) :=
              bin_ok (rd_ok rfl) (rd_ok rfl) (mulI_int (small (n := 2) (by omega) (by decide +kernel)) (small (n := 10 ^ 40) (by omega) (by decide +kernel)))
            exact An.retO (tup2_ok hm (rd_ok rfl))
          · rw [if_neg fun z => hg z.2.2.2.2]
            refine An.iteT (tg.trans (by rw [decide_eq_false (by omega)]; rfl)) (An.retSO rfl)
    · rw [if_neg hc, if_neg fun z => hc z.1]
      exact An.iteT (orT_t (toB_ok (bin_ok (rd_ok rfl) rfl (ltI_int (-1) 0)))) (An.retSO rfl)
  · rw [if_neg (show ¬ (Can p ∧ Can q ∧ 2 ≤ vl q ∧ vl p ≠ 0 ∧ Int.gcd (vl p) (vl q) = 1) from fun z => hcq ⟨z.2.1, z.2.2.1⟩)]
    refine An.iteT (toB_ok (bin_ok (rd_ok rfl) rfl ((ltI_int _ _).trans ?_))) (An.retSO rfl)
    congr 2
    apply decide_eq_true
    split
    · rename_i z
      have : ¬ 2 ≤ vl q := fun w => hcq ⟨z, w⟩
      omega
    · omega
theorem reading2 {a p q r : List Nat} (hl : a.length ≤ 10000000) (hb : noPre 45 a = p ++ 47 :: (q ++ 47 :: r)) (hp : 47 ∉ p) (hq : 47 ∉ q) : f_law_reading [.str (S a)] = .ok .non := by
  have hlen := noPre_len (c := 45) (a := a)
  have hz := sl24
  unfold f_law_reading p_law_reading
  refine An.fn rfl ?_
  simp only [env0, List.length_cons, List.length_nil, List.map_cons, List.map_nil, List.cons_append, List.nil_append, List.replicate, Nat.reduceAdd, Nat.reduceSub]
  refine An.set rfl (An.to (sign_ok (by omega)) ?_)
  obtain ⟨w, hw, hne⟩ := split_two (r := r) hp hq
  rw [← hb] at hw
  refine An.set (splT_ok (rd_ok rfl) (by omega) hw) ?_
  refine An.iteT (toB_ok (bin_ok (call_ok (args1_ok (rd_ok rfl)) (lenB_lst _)) rfl ((gtI_int _ _).trans ?_))) (An.retSO rfl)
  congr 2
  apply decide_eq_true
  cases w with
  | nil => exact absurd rfl hne
  | cons x y => simp; omega
end J

namespace J
open PySem.Spec PySem
open Bp (Sm)
open SX (S)
/-! ### numbers as texts -/
def prI (n : Int) : List Nat := if n < 0 then 45 :: TL.numL n.natAbs else TL.numL n.natAbs
theorem ofS_app (x y : String) : Str.ofString (x ++ y) = Str.ofString x ++ Str.ofString y := by
  apply TL.ext_tl
  rw [TL.tl_append, Str.ofString_eq_toList, Str.ofString_eq_toList, Str.ofString_eq_toList]
  simp [TL.tl]
theorem prI_S (n : Int) : Str.ofString (toString n) = S (prI n) := by
  unfold prI
  by_cases h : n < 0
  · rw [if_pos h, PyProof.Rows.toString_neg h, ofS_app]
    have e : (0 : Int) - n = (n.natAbs : Int) := by omega
    rw [e, SX.num_S, show Str.ofString "-" = S [45] from lit1.1, SX.S_cat]
    rfl
  · rw [if_neg h]
    have e : n = (n.natAbs : Int) := by omega
    conv => lhs; rw [e]
    exact SX.num_S _
/-- a fraction as a text -/
def pr (r : Rat) : List Nat := if r.den = 1 then prI r.num else prI r.num ++ 47 :: TL.numL r.den
theorem numL_lt10 {n : Nat} (h : n < 2 ^ 1900) : (TL.numL n).length ≤ 600 := TL.numL_len (by decide) (Nat.lt_of_lt_of_le h (by decide +kernel))
theorem prI_len {n : Int} (h : n.natAbs < 2 ^ 1900) : (prI n).length ≤ 601 := by
  have := numL_lt10 h
  unfold prI
  split
  · simp; omega
  · omega
theorem log19 {n : Nat} (h : n < 2 ^ 1900) : n.log2 < 1920 := by
  by_cases z : n = 0
  · rw [z]; decide
  · exact Nat.lt_of_lt_of_le (Nat.log2_lt z |>.mpr h) (by decide)
theorem strB_int {n : Int} (h : n.natAbs < 2 ^ 1900) : strB [.int n] = .ok (.str (S (prI n))) := by
  unfold strB
  simp only
  rw [if_pos (log19 h), prI_S]
theorem fmt_int {d : Env → R PV} {e : Env} {n : Int} (hd : d e = .ok (.int n)) (h : n.natAbs < 2 ^ 1900) : fmtE d e = .ok (.str (S (prI n))) := by
  unfold fmtE
  rw [hd]
  simp only [R.bind_ok]
  rw [if_pos (log19 h), prI_S]
theorem prI_nat (n : Nat) : prI (n : Int) = TL.numL n := by
  unfold prI
  rw [if_neg (by omega)]
  rfl
theorem num_r (r : Rat) (e : Env) (h : e.at 0 = .val (.fr r)) : numE (rdV 0) e = .ok (.int r.num) ∧ denE (rdV 0) e = .ok (.int r.den) := by
  unfold numE denE
  rw [rd_ok h]
  exact ⟨rfl, rfl⟩
theorem str_ok {r : Rat} (h : Sm 1900 r) : f_Frac_str [.fr r] = .ok (.str (S (pr r))) := by
  obtain ⟨e1, e2⟩ := num_r r [.val (.fr r)] rfl
  have hd : ((r.den : Int)).natAbs < 2 ^ 1900 := h.2
  unfold f_Frac_str p_Frac_str
  refine An.fn rfl ?_
  simp only [env0, List.length_cons, List.length_nil, List.map_cons, List.map_nil, List.cons_append, List.nil_append, List.replicate, Nat.reduceAdd, Nat.reduceSub]
  unfold pr
  by_cases z : r.den = 1
  · rw [if_pos z]
    exact An.iteT (toB_ok (bin_ok e2 rfl ((eqS_int _ _).trans (by rw [decide_eq_true (by omega)])))) (An.retSO (call_ok (args1_ok e1) (strB_int h.1)))
  · rw [if_neg z]
    refine An.iteX (toB_ok (bin_ok e2 rfl ((eqS_int _ _).trans (by rw [decide_eq_false (by omega)])))) (An.retO ?_)
    have l1 := prI_len h.1
    have l2 := numL_lt10 h.2
    have hz := sl24
    unfold fstrE jnE
    rw [fmt_int e1 h.1]
    simp only [R.bind_ok]
    rw [show (Str.empty : Str) = S [] from rfl, SX.S_cat, List.nil_append, if_pos (by rw [SX.S_len]; omega)]
    unfold jnE
    simp only [R.bind_ok]
    rw [show ("/" : Str) = S [47] from lit1.2.1, SX.S_cat, if_pos (by rw [SX.S_len]; simp; omega)]
    unfold jnE
    rw [fmt_int e2 hd]
    simp only [R.bind_ok]
    rw [SX.S_cat, prI_nat, if_pos (by rw [SX.S_len]; simp; omega)]
    unfold jnE
    simp
end J

namespace J
open PySem.Spec PySem
open Bp (Sm)
open SX (S)
/-! ### figures -/
def Fig (b : List Nat) : Prop := b ≠ [] ∧ b.length ≤ 40 ∧ Dig b
theorem andV_f {d u : Env → R PV} {e : Env} (h : d e = .ok (.bl false)) : andV d u e = .ok (.bl false) := by
  unfold andV
  rw [h]
  rfl
theorem figs_ok {b : List Nat} (ha : Asc b) (hl : b.length ≤ sizeLine) : ∃ k : Bool, (k = true ↔ Fig b) ∧ f_are_figures [.str (S b)] = .ok (.bl k) := by
  have hlen : callE lenB (argsC (rdV 0) args0) [.val (.str (S b))] = .ok (.int b.length) := call_ok (args1_ok (rd_ok rfl)) (sl_eq b hl)
  have hd : tm0 isdigT (rdV 0) [.val (.str (S b))] = .ok (.bl (decide (b ≠ [] ∧ Dig b))) := by
    unfold tm0
    rw [rd_ok (i := 0) (e := [.val (.str (S b))]) (p := .str (S b)) rfl]
    show R.ok (PV.bl (Txt.isdigit (S b))) = _
    rw [isdig_S ha]
  have key : ∀ (r : R PV), r ≠ .bad → andV (chE (fun _ => .ok (.int 1)) (callE lenB (argsC (rdV 0) args0)) (fun _ => .ok (.int 40))) (tm0 isdigT (rdV 0)) [.val (.str (S b))] = r → f_are_figures [.str (S b)] = r := by
    intro r hr h
    unfold f_are_figures p_are_figures
    refine An.fn rfl ?_
    simp only [env0, List.length_cons, List.length_nil, List.map_cons, List.map_nil, List.cons_append, List.nil_append, List.replicate, Nat.reduceAdd, Nat.reduceSub]
    exact An.ret h hr
  have ch : chE (fun _ => .ok (.int 1)) (callE lenB (argsC (rdV 0) args0)) (fun _ => .ok (.int 40)) [.val (.str (S b))] = .ok (.bl (decide ((1 : Int) ≤ b.length) && decide ((b.length : Int) ≤ 40))) := by
    unfold chE
    simp only [R.bind_ok]
    rw [hlen]
    simp only [R.bind_ok]
    by_cases z : (1 : Int) ≤ b.length
    · rw [if_pos z, decide_eq_true z]; rfl
    · rw [if_neg z, decide_eq_false z]; rfl
  by_cases c : (decide ((1 : Int) ≤ b.length) && decide ((b.length : Int) ≤ 40)) = true
  · rw [c] at ch
    refine ⟨decide (b ≠ [] ∧ Dig b), ?_, key _ (fun z => nomatch z) (andV_ok ch hd)⟩
    rw [Bool.and_eq_true, decide_eq_true_iff, decide_eq_true_iff] at c
    rw [decide_eq_true_iff]
    exact ⟨fun z => ⟨z.1, by omega, z.2⟩, fun z => ⟨z.1, z.2.2⟩⟩
  · have c' := c
    rw [Bool.not_eq_true] at c
    rw [c] at ch
    refine ⟨false, ⟨fun z => absurd z Bool.false_ne_true, fun z => absurd ?_ c'⟩, key _ (fun z => nomatch z) (andV_f ch)⟩
    have : b.length ≠ 0 := fun w => z.1 (List.length_eq_zero_iff.mp w)
    have := z.2.1
    rw [Bool.and_eq_true, decide_eq_true_iff, decide_eq_true_iff]
    omega
/-! ### written numbers and their values -/
theorem vl_snoc (l : List Nat) (c : Nat) : vl (l ++ [c]) = vl l * 10 + (c - 48) := by
  unfold vl NumText.digitsVal
  rw [List.foldl_append]
  rfl
theorem back : ∀ (n : Nat) (l : List Nat), l.length = n → l ≠ [] → Dig l → l.head? ≠ some 48 → TL.numL (vl l) = l ∧ 1 ≤ vl l := by
  intro n
  induction n with
  | zero => intro l h h0; exact absurd (List.length_eq_zero_iff.mp h) h0
  | succ n ih =>
    intro l h h0 hd hh
    obtain ⟨m, c, rfl⟩ : ∃ m c, l = m ++ [c] := ⟨l.dropLast, l.getLast h0, (List.dropLast_concat_getLast h0).symm⟩
    have hc := hd c (by simp)
    by_cases hm : m = []
    · subst hm
      have e : vl ([] ++ [c]) = c - 48 := by rw [vl_snoc]; simp [vl, NumText.digitsVal]
      have hc48 : c ≠ 48 := fun z => hh (by simp [z])
      rw [e, TL.numL_lt (by omega)]
      refine ⟨?_, by omega⟩
      simp
      omega
    · have hmd : Dig m := fun x hx => hd x (by simp [hx])
      have hmh : m.head? ≠ some 48 := by
        cases m with
        | nil => exact absurd rfl hm
        | cons d r => simpa using hh
      obtain ⟨i1, i2⟩ := ih m (by simpa using h) hm hmd hmh
      rw [vl_snoc, TL.numL_step (by omega)]
      have e1 : (vl m * 10 + (c - 48)) / 10 = vl m := by omega
      have e2 : (vl m * 10 + (c - 48)) % 10 = c - 48 := by omega
      rw [e1, e2, i1, show 48 + (c - 48) = c by omega]
      exact ⟨rfl, by omega⟩
theorem can_num {p : List Nat} (h : Can p) : TL.numL (vl p) = p := by
  obtain ⟨h0, h1, h2, hd⟩ := h
  by_cases z : p.length = 1
  · obtain ⟨c, rfl⟩ := List.length_eq_one_iff.mp z
    have hc := hd c (by simp)
    have e : vl [c] = c - 48 := by simp [vl, NumText.digitsVal]
    rw [e, TL.numL_lt (by omega)]
    simp
    omega
  · have : p.length ≠ 0 := fun w => h0 (List.length_eq_zero_iff.mp w)
    exact (back _ p rfl h0 hd (h2 (by omega))).1
theorem num_head (n : Nat) (h : 1 ≤ n) : (TL.numL n).head? ≠ some 48 := by
  induction n using Nat.strongRecOn with
  | _ n ih =>
    by_cases k : n < 10
    · rw [TL.numL_lt k]
      simp
      omega
    · rw [TL.numL_step (by omega)]
      have := ih (n / 10) (by omega) (by omega)
      have hne := TL.numL_ne (n / 10)
      cases e : TL.numL (n / 10) with
      | nil => exact absurd e hne
      | cons d r => rw [e] at this; simpa using this
theorem num_can {n : Nat} (h : (TL.numL n).length ≤ 40) : Can (TL.numL n) := by
  refine ⟨TL.numL_ne n, h, fun z => ?_, TL.numL_digits n⟩
  by_cases k : n = 0
  · subst k
    rw [TL.numL_lt (by decide)] at z
    simp at z
  · exact num_head n (by omega)
theorem can_fig {p : List Nat} (h : Can p) : Fig p := ⟨h.1, h.2.1, h.2.2.2⟩
theorem fig_asc {p : List Nat} (h : Dig p) : Asc p := fun c hc => by have := h c hc; omega
theorem dig_no {p : List Nat} {c : Nat} (h : Dig p) (k : c < 48 ∨ 57 < c) : c ∉ p := fun z => by have := h c z; omega
end J

namespace J
open PySem.Spec PySem
open Bp (Sm)
open SX (S)
/-! ### Frac.read -/
abbrev badN (a : List Nat) : R PV := .er 3 [("text", .str (S a))]
theorem part_asg {a p l q : List Nat} (hl : a.length ≤ sizeLine) (h : Txt.partition (S a) (S [47]) = (S p, S l, S q)) :
    asgF (bdT [(bdN 1), (bdN 2), (bdN 3)]) (tm1 partT (rdV 0) (fun _ => .ok (.str "/"))) [.val (.str (S a)), .no, .no, .no, .no] = .nx [.val (.str (S a)), .val (.str (S p)), .val (.str (S l)), .val (.str (S q)), .no] := by
  have e : tm1 partT (rdV 0) (fun _ => .ok (.str "/")) [.val (.str (S a)), .no, .no, .no, .no] = .ok (.tup [.str (S p), .str (S l), .str (S q)]) := by
    unfold tm1
    rw [rd_ok (i := 0) (p := .str (S a)) rfl]
    simp only [R.bind_ok]
    unfold partT
    simp only
    rw [lit1.2.1, h, if_pos ⟨by rw [SX.S_len]; rfl, by rw [SX.S_len]; exact hl⟩]
  unfold asgF
  rw [e]
  rfl
theorem rmp_ok {e : Env} {d : Env → R PV} {p : List Nat} (h : d e = .ok (.str (S p))) (hl : p.length ≤ sizeLine) : tm1 rmpreT d (fun _ => .ok (.str "-")) e = .ok (.str (S (noPre 45 p))) := by
  unfold tm1
  rw [h]
  simp only [R.bind_ok]
  unfold rmpreT
  simp only
  rw [lit1.1, rmpre_S, if_pos (by rw [SX.S_len]; exact hl)]
theorem st_ok {e : Env} {d : Env → R PV} {p : List Nat} (h : d e = .ok (.str (S p))) : tm1 startT d (fun _ => .ok (.str "0")) e = .ok (.bl (decide (p.head? = some 48))) := by
  unfold tm1
  rw [h]
  simp only [R.bind_ok]
  unfold startT
  simp only
  rw [lit1.2.2.1, start_S]
theorem int_top {p : List Nat} (h : Fig (noPre 45 p)) : intS [.str (S p)] = .ok (.int (sg p * vl (noPre 45 p))) := by
  have hlen : p.length ≤ 41 := by
    have := h.2.1
    unfold noPre at this
    split at this
    · cases p with
      | nil => simp
      | cons c r => simp at this ⊢; omega
    · omega
  unfold intS
  simp only
  unfold sg
  by_cases z : p.head? = some 45
  · rw [if_pos z]
    cases p with
    | nil => cases z
    | cons c r =>
      have e : c = 45 := by simpa using z
      subst e
      have e2 : noPre 45 (45 :: r) = r := rfl
      rw [e2] at h ⊢
      rw [intText_neg (x := S (45 :: r)) rfl h.2.2 h.1 (by rw [SX.S_len]; omega)]
      simp only [SX.S_len]
      rw [if_pos (by omega)]
      congr 2
      show -((vl r : Nat) : Int) = -1 * ((vl r : Nat) : Int)
      omega
  · rw [if_neg z]
    have e2 : noPre 45 p = p := by unfold noPre; rw [if_neg z]
    rw [e2] at h ⊢
    rw [intText_digits (x := S p) h.2.2 h.1 (by rw [SX.S_len]; omega)]
    simp only [SX.S_len]
    rw [if_pos (by omega)]
    congr 2
    show ((vl p : Nat) : Int) = 1 * ((vl p : Nat) : Int)
    omega
theorem int_fig {q : List Nat} (h : Fig q) : intS [.str (S q)] = .ok (.int (vl q)) := by
  unfold intS
  simp only
  rw [intText_digits (x := S q) h.2.2 h.1 (by rw [SX.S_len]; have := h.2.1; omega)]
  simp only [SX.S_len]
  rw [if_pos (by have := h.2.1; omega)]
theorem raise_ok {a : List Nat} {e : Env} {t : Env → R Bool} {k : Env → F} (h : Env.at e 0 = .val (.str (S a))) (ht : t e = .ok true) : Ans (seqF (iteF t (raiseF 3 ["text"] (argsC (rdV 0) args0)) nextF) k e) (badN a) := by
  refine An.iteT ht (An.toE (e' := e) ?_)
  unfold raiseF
  rw [args1_ok (rd_ok h)]
  rfl
theorem tru_S {e : Env} {d : Env → R PV} {p : List Nat} (h : d e = .ok (.str (S p))) (hl : p.length ≤ sizeLine) : toTru d e = .ok (decide (p ≠ [])) := by
  unfold toTru
  rw [h]
  show truP (.str (S p)) = _
  unfold truP
  simp only [SX.S_len, if_pos hl]
  cases p with
  | nil => rfl
  | cons c r => simp; omega
theorem fig_val {a : List Nat} (h : Fig a) : vl a < 10 ^ 40 := by
  by_cases z : 1 < a.length ∧ a.head? = some 48
  · have : ∀ (l : List Nat) (x : Nat), Dig l → l.foldl (fun acc c => acc * 10 + (c - 48)) x < (x + 1) * 10 ^ l.length := by
      intro l
      induction l with
      | nil => intro x _; simp
      | cons d r ih =>
        intro x hd
        have h1 := ih (x * 10 + (d - 48)) fun c hc => hd c (List.mem_cons_of_mem _ hc)
        have h2 := hd d (List.mem_cons_self ..)
        rw [List.foldl_cons, List.length_cons]
        refine Nat.lt_of_lt_of_le h1 ?_
        rw [Nat.pow_succ, Nat.mul_comm (10 ^ r.length) 10, ← Nat.mul_assoc]
        exact Nat.mul_le_mul_right _ (by omega)
    have h1 := this a 0 h.2.2
    rw [Nat.zero_add, Nat.one_mul] at h1
    exact Nat.lt_of_lt_of_le h1 (Nat.pow_le_pow_right (by decide) h.2.1)
  · exact can_val ⟨h.1, h.2.1, fun w v => z ⟨w, v⟩, h.2.2⟩
theorem frN_ok {z : Nat} {n d : Int} (h : d ≠ 0) (b : d.natAbs < 2 ^ 8000) : frN z [.int n, .int d] = .ok (.fr (Rat.divInt n d)) := by
  unfold frN
  simp only
  rw [if_neg h, if_pos ⟨b⟩]
theorem mkF2_ok {z : Nat} {dl : Env → R (List PV)} {e : Env} {n d : Int} (h : dl e = .ok [.int n, .int d]) (hd : d ≠ 0) (b : d.natAbs < 2 ^ 8000) : mkF2 z dl e = .ok (.fr (Rat.divInt n d)) := by
  unfold mkF2; rw [h]; exact frN_ok hd b
theorem strO_ok {dl : Env → R (List PV)} {e : Env} {r : Rat} (h : dl e = .ok [.fr r]) (hs : Sm 1900 r) : callE (strO 0 f_Frac_str) dl e = .ok (.str (S (pr r))) := by
  refine call_ok h ?_
  unfold strO
  simp only
  rw [if_pos (show isC 0 (PV.fr r) = true from rfl), str_ok hs]
/-- what is read, when the figures are all right -/
theorem read_fin {a p l q : List Nat} {d : Nat} (hl : a.length ≤ sizeLine) (hp : p.length ≤ sizeLine) (h : Txt.partition (S a) (S [47]) = (S p, S l, S q)) (ha : Asc (noPre 45 p)) (hf : Fig (noPre 45 p))
    (h2 : andT (toTru (rdV 2)) (orT (notT (toB (callE f_are_figures (argsC (rdV 3) args0)))) (toB (tm1 startT (rdV 3) (fun _ => .ok (.str "0"))))) [.val (.str (S a)), .val (.str (S p)), .val (.str (S l)), .val (.str (S q)), .no] = .ok false)
    (h3 : iteE (toTru (rdV 2)) (callE intS (argsC (rdV 3) args0)) (fun _ => .ok (.int 1)) [.val (.str (S a)), .val (.str (S p)), .val (.str (S l)), .val (.str (S q)), .no] = .ok (.int d)) (hd : 0 < d) (hd2 : d < 10 ^ 40) :
    (pr (Rat.divInt (sg p * vl (noPre 45 p)) d) = a → f_Frac_read [.str (S a)] = .ok (.fr (Rat.divInt (sg p * vl (noPre 45 p)) d))) ∧ (pr (Rat.divInt (sg p * vl (noPre 45 p)) d) ≠ a → f_Frac_read [.str (S a)] = badN a) := by
  have hn : (noPre 45 p).length ≤ sizeLine := Nat.le_trans noPre_len hp
  obtain ⟨k, hk, ek⟩ := figs_ok ha hn
  rw [hk.mpr hf] at ek
  have t1 : notT (toB (callE f_are_figures (argsC (tm1 rmpreT (rdV 1) (fun _ => .ok (.str "-"))) args0))) [.val (.str (S a)), .val (.str (S p)), .val (.str (S l)), .val (.str (S q)), .no] = .ok false :=
    no_ok (call_ok (args1_ok (rmp_ok (rd_ok rfl) hp)) ek)
  have hv := fig_val hf
  have hs := sg_cases p
  generalize hN : sg p * (vl (noPre 45 p) : Int) = n at *
  have nb : n.natAbs < 10 ^ 40 := by rcases hs with hs | hs <;> rw [hs] at hN <;> omega
  have sm : Sm 1900 (Rat.divInt n d) := Bp.sm_divInt (by omega) (Nat.lt_of_lt_of_le nb (by decide +kernel)) (by show (d : Int).natAbs < _; exact Nat.lt_of_lt_of_le (show (d : Int).natAbs < 10 ^ 40 by omega) (by decide +kernel))
  have it : callE intS (argsC (rdV 1) args0) [.val (.str (S a)), .val (.str (S p)), .val (.str (S l)), .val (.str (S q)), .no] = .ok (.int n) := call_ok (args1_ok (rd_ok rfl)) (by rw [int_top hf, hN])
  have fin : ∀ r, Ans (seqF (iteF (toB (bin2 neS (callE (strO 0 f_Frac_str) (argsC (rdV 4) args0)) (rdV 0))) (raiseF 3 ["text"] (argsC (rdV 0) args0)) nextF) (retF (rdV 4)) [.val (.str (S a)), .val (.str (S p)), .val (.str (S l)), .val (.str (S q)), .val (.fr (Rat.divInt n d))]) r → f_Frac_read [.str (S a)] = r := by
    intro r hr
    unfold f_Frac_read p_Frac_read
    refine An.fn rfl ?_
    simp only [env0, List.length_cons, List.length_nil, List.map_cons, List.map_nil, List.cons_append, List.nil_append, List.replicate, Nat.reduceAdd, Nat.reduceSub]
    refine An.to (part_asg hl h) (An.iteX t1 (An.iteX h2 ?_))
    exact An.set (mkF2_ok (args2_ok it h3) (by omega) (Nat.lt_of_lt_of_le (show (d : Int).natAbs < 10 ^ 40 by omega) (by decide +kernel))) hr
  have tt : toB (bin2 neS (callE (strO 0 f_Frac_str) (argsC (rdV 4) args0)) (rdV 0)) [.val (.str (S a)), .val (.str (S p)), .val (.str (S l)), .val (.str (S q)), .val (.fr (Rat.divInt n d))] = .ok (!decide (pr (Rat.divInt n d) = a)) :=
    toB_ok (bin_ok (strO_ok (args1_ok (rd_ok rfl)) sm) (rd_ok rfl) (neS_S _ _))
  refine ⟨fun z => fin _ (An.iteX (tt.trans (by rw [decide_eq_true z]; rfl)) (An.retO (rd_ok rfl))), fun z => fin _ (raise_ok rfl (tt.trans (by rw [decide_eq_false z]; rfl)))⟩
end J

namespace J
open PySem.Spec PySem
open Bp (Sm)
open SX (S)
theorem cut_one {c : Nat} : ∀ {p p' q q' : List Nat}, c ∉ p → c ∉ p' → p ++ c :: q = p' ++ c :: q' → p = p' ∧ q = q'
  | [], [], q, q', _, _, h => ⟨rfl, by simpa using h⟩
  | [], d :: r, q, q', _, h2, h => by
    simp at h
    exact absurd (show c ∈ d :: r by rw [h.1]; simp) h2
  | d :: r, [], q, q', h1, _, h => by
    simp at h
    exact absurd (show c ∈ d :: r by rw [← h.1]; simp) h1
  | d :: r, d' :: r', q, q', h1, h2, h => by
    simp at h
    obtain ⟨e1, e2⟩ := cut_one (fun z => h1 (List.mem_cons_of_mem _ z)) (fun z => h2 (List.mem_cons_of_mem _ z)) h.2
    exact ⟨by rw [h.1, e1], e2⟩
/-- a number's text: its sign and its figures -/
theorem prI_cut (n : Int) : sg (prI n) * vl (noPre 45 (prI n)) = n ∧ noPre 45 (prI n) = TL.numL n.natAbs := by
  unfold prI
  by_cases h : n < 0
  · rw [if_pos h]
    have e : noPre 45 (45 :: TL.numL n.natAbs) = TL.numL n.natAbs := rfl
    have es : sg (45 :: TL.numL n.natAbs) = -1 := by unfold sg; exact if_pos rfl
    rw [e, es]
    refine ⟨?_, rfl⟩
    have : vl (TL.numL n.natAbs) = n.natAbs := TL.numL_val _
    rw [this]
    omega
  · rw [if_neg h]
    have hh : (TL.numL n.natAbs).head? ≠ some 45 := by
      intro z
      have : 45 ∈ TL.numL n.natAbs := List.mem_of_mem_head? z
      exact TL.numL_free (.inl (by decide)) this
    have e : noPre 45 (TL.numL n.natAbs) = TL.numL n.natAbs := by unfold noPre; rw [if_neg hh]
    have es : sg (TL.numL n.natAbs) = 1 := by unfold sg; exact if_neg hh
    rw [e, es]
    refine ⟨?_, rfl⟩
    have : vl (TL.numL n.natAbs) = n.natAbs := TL.numL_val _
    rw [this]
    omega
theorem prI_no47 (n : Int) : 47 ∉ prI n := by
  unfold prI
  split
  · intro z
    rcases List.mem_cons.mp z with z | z
    · cases z
    · exact TL.numL_free (.inl (by decide)) z
  · exact TL.numL_free (.inl (by decide))
/-- and back: a written number with its sign, not minus zero -/
theorem prI_of {p : List Nat} (hc : Can (noPre 45 p)) (h0 : ¬ (vl (noPre 45 p) = 0 ∧ sg p < 0)) : prI (sg p * vl (noPre 45 p)) = p := by
  have hn := can_num hc
  unfold sg at h0 ⊢
  by_cases z : p.head? = some 45
  · rw [if_pos z] at h0 ⊢
    have hv : vl (noPre 45 p) ≠ 0 := fun w => h0 ⟨w, by decide⟩
    unfold prI
    rw [if_pos (by omega), show (-1 * (vl (noPre 45 p) : Int)).natAbs = vl (noPre 45 p) by omega, hn]
    unfold noPre
    rw [if_pos z]
    cases p with
    | nil => cases z
    | cons c r =>
      have : c = 45 := by simpa using z
      rw [this]
      rfl
  · rw [if_neg z] at h0 ⊢
    rw [Int.one_mul, prI_nat, hn]
    unfold noPre
    rw [if_neg z]
theorem noPre_hit {c : Nat} {r : List Nat} : noPre c (c :: r) = r := by unfold noPre; exact if_pos rfl
theorem noPre_miss {c : Nat} {a : List Nat} (h : a.head? ≠ some c) : noPre c a = a := by unfold noPre; exact if_neg h
theorem sg_hit {r : List Nat} : sg (45 :: r) = -1 := by unfold sg; exact if_pos rfl
theorem sg_miss {a : List Nat} (h : a.head? ≠ some 45) : sg a = 1 := by unfold sg; exact if_neg h
theorem noPre_app {p q : List Nat} : noPre 45 (p ++ 47 :: q) = noPre 45 p ++ 47 :: q ∧ sg (p ++ 47 :: q) = sg p := by
  cases p with
  | nil =>
    rw [noPre_miss (a := [] ++ 47 :: q) (by simp), noPre_miss (a := []) (by simp), sg_miss (a := [] ++ 47 :: q) (by simp), sg_miss (a := []) (by simp)]
    exact ⟨rfl, rfl⟩
  | cons c r =>
    rw [List.cons_append]
    by_cases z : c = 45
    · subst z
      rw [noPre_hit, noPre_hit, sg_hit, sg_hit]
      exact ⟨rfl, rfl⟩
    · rw [noPre_miss (a := c :: (r ++ 47 :: q)) (by simpa using z), noPre_miss (a := c :: r) (by simpa using z), sg_miss (a := c :: (r ++ 47 :: q)) (by simpa using z), sg_miss (a := c :: r) (by simpa using z)]
      exact ⟨rfl, rfl⟩
theorem noPre_sub {c : Nat} {a : List Nat} {x : Nat} (h : x ∈ noPre c a) : x ∈ a := by
  unfold noPre at h
  split at h
  · exact List.mem_of_mem_tail h
  · exact h
theorem rat_cop {n : Int} {d : Nat} (hd : 0 < d) (h : Int.gcd n d = 1) : (Rat.divInt n d).num = n ∧ (Rat.divInt n d).den = d := by
  obtain ⟨h1, h2⟩ := low_pos (a := n) (b := d) (by omega)
  have e1 : ((1 : Nat) : Int) = 1 := rfl
  rw [h, e1, Int.ediv_one] at h1 h2
  exact ⟨h1.symm, by omega⟩
/-- both readings of a text without a stroke -/
theorem bothA {a : List Nat} (ha : Asc a) (hl : a.length ≤ 10000000) (h : 47 ∉ a) : (∃ r : Rat, f_Frac_read [.str (S a)] = .ok (.fr r) ∧ pr r = a ∧ Sm 1900 r ∧ f_law_reading [.str (S a)] = .ok (tq r)) ∨ (f_Frac_read [.str (S a)] = badN a ∧ f_law_reading [.str (S a)] = .ok .non) := by
  have hz := sl24
  have hb : 47 ∉ noPre 45 a := fun z => h (noPre_sub z)
  have hab : Asc (noPre 45 a) := fun c hc => ha c (noPre_sub hc)
  have hr := reading0 hl hb
  have hp := part_no h
  have hbl : (noPre 45 a).length ≤ a.length := noPre_len
  by_cases hf : Fig (noPre 45 a)
  · have h2 : andT (toTru (rdV 2)) (orT (notT (toB (callE f_are_figures (argsC (rdV 3) args0)))) (toB (tm1 startT (rdV 3) (fun _ => .ok (.str "0"))))) [.val (.str (S a)), .val (.str (S a)), .val (.str (S [])), .val (.str (S [])), .no] = .ok false := by
      unfold andT
      rw [tru_S (p := []) (rd_ok rfl) (by decide)]
      rfl
    have h3 : iteE (toTru (rdV 2)) (callE intS (argsC (rdV 3) args0)) (fun _ => .ok (.int 1)) [.val (.str (S a)), .val (.str (S a)), .val (.str (S [])), .val (.str (S [])), .no] = .ok (.int (1 : Nat)) := by
      unfold iteE
      rw [tru_S (p := []) (rd_ok rfl) (by decide)]
      rfl
    obtain ⟨f1, f2⟩ := read_fin (by omega) (by omega) hp hab hf h2 h3 (by decide) (by decide)
    obtain ⟨n1, n2⟩ := rat_cop (n := sg a * vl (noPre 45 a)) (d := 1) (by decide) (by simp)
    generalize hr2 : Rat.divInt (sg a * (vl (noPre 45 a) : Int)) ((1 : Nat) : Int) = r at *
    have epr : pr r = prI (sg a * vl (noPre 45 a)) := by unfold pr; rw [if_pos n2, n1]
    by_cases hc : Can (noPre 45 a) ∧ ¬ (vl (noPre 45 a) = 0 ∧ sg a < 0)
    · rw [if_pos hc] at hr
      have e : pr r = a := epr.trans (prI_of hc.1 hc.2)
      have hv := can_val hc.1
      have hs := sg_cases a
      refine .inl ⟨r, f1 e, e, ⟨?_, ?_⟩, ?_⟩
      · rw [n1]
        refine Nat.lt_of_lt_of_le (m := 10 ^ 40) ?_ (by decide +kernel)
        rcases hs with hs | hs <;> rw [hs] <;> omega
      · rw [n2]; decide +kernel
      · rw [hr]
        unfold tq
        rw [n1, n2]
        rfl
    · rw [if_neg hc] at hr
      have e : pr r ≠ a := by
        intro e
        apply hc
        rw [epr] at e
        obtain ⟨c1, c2⟩ := prI_cut (sg a * vl (noPre 45 a))
        rw [e] at c2
        refine ⟨?_, ?_⟩
        · have := num_can (n := (sg a * (vl (noPre 45 a) : Int)).natAbs) (by rw [← c2]; exact hf.2.1)
          rw [← c2] at this
          exact this
        · rintro ⟨z1, z2⟩
          rw [z1] at e
          have hs := sg_cases a
          have hs' : sg a = -1 := by rcases hs with hs | hs <;> omega
          rw [hs'] at e
          have e2 : prI (-1 * ((0 : Nat) : Int)) = [48] := by unfold prI; rw [if_neg (by decide)]; exact TL.numL_lt (by decide)
          rw [e2] at e
          rw [← e] at hs'
          rw [sg_miss (by simp)] at hs'
          exact absurd hs' (by decide)
      exact .inr ⟨f2 e, hr⟩
  · refine .inr ⟨?_, ?_⟩
    · obtain ⟨k, hk, ek⟩ := figs_ok hab (by omega)
      have kf : k = false := by
        cases k with
        | false => rfl
        | true => exact absurd (hk.mp rfl) hf
      rw [kf] at ek
      unfold f_Frac_read p_Frac_read
      refine An.fn rfl ?_
      simp only [env0, List.length_cons, List.length_nil, List.map_cons, List.map_nil, List.cons_append, List.nil_append, List.replicate, Nat.reduceAdd, Nat.reduceSub]
      exact An.to (part_asg (by omega) hp) (raise_ok rfl (notT_ok (toB_ok (call_ok (args1_ok (rmp_ok (rd_ok rfl) (by omega))) ek))))
    · rw [hr, if_neg fun z => hf (can_fig z.1)]
end J

namespace J
open PySem.Spec PySem
open Bp (Sm)
open SX (S)
theorem orT_f {t u : Env → R Bool} {e : Env} {r : R Bool} (h : t e = .ok false) (k : u e = r) : orT t u e = r := by unfold orT; rw [h]; exact k
theorem andT_t {t u : Env → R Bool} {e : Env} {r : R Bool} (h : t e = .ok true) (k : u e = r) : andT t u e = r := by unfold andT; rw [h]; exact k
theorem zero_den (r : Rat) (h : r.num = 0) : r.den = 1 := by
  have := r.reduced
  rw [h] at this
  simpa using this
/-- both readings of a text with a stroke -/
theorem bothB {p q : List Nat} (ha : Asc (p ++ 47 :: q)) (hl : (p ++ 47 :: q).length ≤ 10000000) (h : 47 ∉ p) : (∃ r : Rat, f_Frac_read [.str (S (p ++ 47 :: q))] = .ok (.fr r) ∧ pr r = (p ++ 47 :: q) ∧ Sm 1900 r ∧ f_law_reading [.str (S (p ++ 47 :: q))] = .ok (tq r)) ∨ (f_Frac_read [.str (S (p ++ 47 :: q))] = badN (p ++ 47 :: q) ∧ f_law_reading [.str (S (p ++ 47 :: q))] = .ok .non) := by
  have hz := sl24
  have hlen : p.length + (q.length + 1) ≤ 10000000 := by simpa using hl
  have hb : 47 ∉ noPre 45 p := fun z => h (noPre_sub z)
  have hap : Asc p := fun c hc => ha c (by simp [hc])
  have haq : Asc q := fun c hc => ha c (by simp [hc])
  have hab : Asc (noPre 45 p) := fun c hc => hap c (noPre_sub hc)
  have hbl : (noPre 45 p).length ≤ p.length := noPre_len
  obtain ⟨n1, n2⟩ := noPre_app (p := p) (q := q)
  have hp := part_at (q := q) h
  obtain ⟨k, hk, ek⟩ := figs_ok hab (by omega)
  obtain ⟨k2, hk2, ek2⟩ := figs_ok haq (by omega)
  -- the text is refused
  have bad : ¬ (Fig (noPre 45 p) ∧ Fig q ∧ q.head? ≠ some 48) → f_Frac_read [.str (S (p ++ 47 :: q))] = badN (p ++ 47 :: q) := by
    intro nf
    unfold f_Frac_read p_Frac_read
    refine An.fn rfl ?_
    simp only [env0, List.length_cons, List.length_nil, List.map_cons, List.map_nil, List.cons_append, List.nil_append, List.replicate, Nat.reduceAdd, Nat.reduceSub]
    refine An.to (part_asg (by omega) hp) ?_
    by_cases hf : Fig (noPre 45 p)
    · rw [hk.mpr hf] at ek
      refine An.iteX (no_ok (call_ok (args1_ok (rmp_ok (rd_ok rfl) (by omega))) ek)) ?_
      refine raise_ok rfl (andT_t ((tru_S (p := [47]) (rd_ok rfl) (by decide)).trans (by simp)) ?_)
      by_cases hf2 : Fig q
      · rw [hk2.mpr hf2] at ek2
        have hh : q.head? = some 48 := Classical.byContradiction fun z => nf ⟨hf, hf2, z⟩
        exact orT_f (no_ok (call_ok (args1_ok (rd_ok rfl)) ek2)) (toB_ok ((st_ok (rd_ok rfl)).trans (by rw [decide_eq_true hh])))
      · have kf : k2 = false := by
          cases k2 with
          | false => rfl
          | true => exact absurd (hk2.mp rfl) hf2
        rw [kf] at ek2
        exact orT_t (notT_ok (toB_ok (call_ok (args1_ok (rd_ok rfl)) ek2)))
    · have kf : k = false := by
        cases k with
        | false => rfl
        | true => exact absurd (hk.mp rfl) hf
      rw [kf] at ek
      exact raise_ok rfl (notT_ok (toB_ok (call_ok (args1_ok (rmp_ok (rd_ok rfl) (by omega))) ek)))
  by_cases hq : 47 ∈ q
  · right
    refine ⟨bad fun z => dig_no z.2.1.2.2 (.inl (by decide)) hq, ?_⟩
    rcases stroke q with hq' | ⟨q1, q2, e, hq1⟩
    · exact absurd hq hq'
    · refine reading2 (p := noPre 45 p) (q := q1) (r := q2) hl ?_ hb hq1
      rw [n1, e]
  · have hr := reading1 hl n1 hb hq
    rw [n2] at hr
    by_cases hF : Fig (noPre 45 p) ∧ Fig q ∧ q.head? ≠ some 48
    · obtain ⟨hf, hf2, hh⟩ := hF
      obtain ⟨b1, b2⟩ := back _ q rfl hf2.1 hf2.2.2 hh
      have ek2' := ek2
      rw [hk2.mpr hf2] at ek2'
      have h2 : andT (toTru (rdV 2)) (orT (notT (toB (callE f_are_figures (argsC (rdV 3) args0)))) (toB (tm1 startT (rdV 3) (fun _ => .ok (.str "0"))))) [.val (.str (S (p ++ 47 :: q))), .val (.str (S p)), .val (.str (S [47])), .val (.str (S q)), .no] = .ok false :=
        andT_t ((tru_S (p := [47]) (rd_ok rfl) (by decide)).trans (by simp)) (orT_f (no_ok (call_ok (args1_ok (rd_ok rfl)) ek2')) (toB_ok ((st_ok (rd_ok rfl)).trans (by rw [decide_eq_false hh]))))
      have h3 : iteE (toTru (rdV 2)) (callE intS (argsC (rdV 3) args0)) (fun _ => .ok (.int 1)) [.val (.str (S (p ++ 47 :: q))), .val (.str (S p)), .val (.str (S [47])), .val (.str (S q)), .no] = .ok (.int (vl q)) := by
        unfold iteE
        rw [tru_S (p := [47]) (rd_ok rfl) (by decide)]
        rw [decide_eq_true (show ([47] : List Nat) ≠ [] by simp), R.bind_ok, if_pos rfl]
        exact call_ok (args1_ok (rd_ok rfl)) (int_fig hf2)
      obtain ⟨f1, f2⟩ := read_fin (by omega) (by omega) hp hab hf h2 h3 (by omega) (fig_val hf2)
      by_cases hc : Can (noPre 45 p) ∧ Can q ∧ 2 ≤ vl q ∧ vl (noPre 45 p) ≠ 0 ∧ Int.gcd (vl (noPre 45 p)) (vl q) = 1
      · rw [if_pos hc] at hr
        obtain ⟨c1, c2, c3, c4, c5⟩ := hc
        have hs := sg_cases p
        have hg : Int.gcd (sg p * vl (noPre 45 p)) (vl q) = 1 := by
          rcases hs with hs | hs <;> rw [hs]
          · rw [Int.one_mul]; exact c5
          · rw [Int.neg_mul, Int.one_mul, Int.neg_gcd]; exact c5
        obtain ⟨m1, m2⟩ := rat_cop (n := sg p * vl (noPre 45 p)) (d := vl q) (by omega) hg
        generalize hr2 : Rat.divInt (sg p * (vl (noPre 45 p) : Int)) ((vl q : Nat) : Int) = r at *
        have e : pr r = p ++ 47 :: q := by
          unfold pr
          rw [if_neg (by omega), m1, m2, prI_of c1 (fun z => c4 z.1), can_num c2]
        have hv := can_val c1
        have hv2 := can_val c2
        refine .inl ⟨r, f1 e, e, ⟨?_, ?_⟩, ?_⟩
        · rw [m1]
          refine Nat.lt_of_lt_of_le (m := 10 ^ 40) ?_ (by decide +kernel)
          rcases hs with hs | hs <;> rw [hs] <;> omega
        · rw [m2]; exact Nat.lt_of_lt_of_le hv2 (by decide +kernel)
        · rw [hr]
          unfold tq
          rw [m1, m2]
      · rw [if_neg hc] at hr
        refine .inr ⟨f2 ?_, hr⟩
        intro e
        apply hc
        generalize hr2 : Rat.divInt (sg p * (vl (noPre 45 p) : Int)) ((vl q : Nat) : Int) = r at *
        unfold pr at e
        by_cases hd : r.den = 1
        · rw [if_pos hd] at e
          exact absurd (show 47 ∈ prI r.num by rw [e]; simp) (prI_no47 _)
        · rw [if_neg hd] at e
          obtain ⟨e1, e2⟩ := cut_one (prI_no47 _) h e
          obtain ⟨g1, g2⟩ := prI_cut r.num
          rw [e1] at g1 g2
          have vq : vl q = r.den := by rw [← e2]; exact TL.numL_val _
          have vp : vl (noPre 45 p) = r.num.natAbs := by rw [g2]; exact TL.numL_val _
          have cp : Can (noPre 45 p) := by
            have := num_can (n := r.num.natAbs) (by rw [← g2]; exact hf.2.1)
            rw [← g2] at this
            exact this
          have cq : Can q := by
            have := num_can (n := r.den) (by rw [e2]; exact hf2.2.1)
            rw [e2] at this
            exact this
          refine ⟨cp, cq, ?_, ?_, ?_⟩
          · have := r.den_pos
            omega
          · rw [vp]
            intro z
            exact hd (zero_den r (by omega))
          · rw [vp, vq]
            exact r.reduced
    · refine .inr ⟨bad hF, ?_⟩
      rw [hr, if_neg]
      rintro ⟨c1, c2, c3, _, _⟩
      apply hF
      refine ⟨can_fig c1, can_fig c2, fun z => ?_⟩
      have hl1 : ¬ 1 < q.length := fun w => c2.2.2.1 w z
      cases q with
      | nil => cases z
      | cons c r =>
        have : r = [] := by
          cases r with
          | nil => rfl
          | cons x y => simp at hl1
        subst this
        have : c = 48 := by simpa using z
        subst this
        exact absurd c3 (by decide)
theorem both {a : List Nat} (ha : Asc a) (hl : a.length ≤ 10000000) : (∃ r : Rat, f_Frac_read [.str (S a)] = .ok (.fr r) ∧ pr r = a ∧ Sm 1900 r ∧ f_law_reading [.str (S a)] = .ok (tq r)) ∨ (f_Frac_read [.str (S a)] = badN a ∧ f_law_reading [.str (S a)] = .ok .non) := by
  rcases stroke a with h | ⟨p, q, rfl, h⟩
  · exact bothA ha hl h
  · exact bothB ha hl h
end J

namespace J
open PySem.Spec PySem
open Bp (Sm)
open SX (S)
theorem integer_ok (n : Int) : f_law_integer [.int n, .int n] = .ok (.bl true) := by
  unfold f_law_integer p_law_integer
  refine An.fn rfl ?_
  simp only [env0, List.length_cons, List.length_nil, List.map_cons, List.map_nil, List.cons_append, List.nil_append, List.replicate, Nat.reduceAdd, Nat.reduceSub]
  refine An.retO (andV_ok (un_ok (rd_ok rfl) rfl) (andV_ok rfl (bin_ok (rd_ok rfl) (rd_ok rfl) ((eqS_int _ _).trans (by rw [decide_eq_true rfl])))))
theorem is_ok (r : Rat) : f_law_is [.fr r, tq r] = .ok (.bl true) := by
  obtain ⟨e1, e2⟩ := num_r r [.val (.fr r), .val (tq r)] rfl
  unfold f_law_is p_law_is
  refine An.fn rfl ?_
  simp only [env0, List.length_cons, List.length_nil, List.map_cons, List.map_nil, List.cons_append, List.nil_append, List.replicate, Nat.reduceAdd, Nat.reduceSub]
  refine An.iteX (no_ok (un_ok (rd_ok rfl) rfl)) (An.retO (andV_ok (call_ok (args2_ok e1 (bin_ok (rd_ok rfl) rfl (ixT0 r))) (integer_ok _)) (call_ok (args2_ok e2 (bin_ok (rd_ok rfl) rfl (ixT1 r))) (integer_ok _))))
theorem ans_rt {f : F} {p : PV} (h : Ans f (.ok p)) (hp : p ≠ .non) : f = .rt p := by
  unfold Ans at h
  cases f with
  | rt q => simp only [ansF] at h; injection h with h; rw [h]
  | nx e => simp only [ansF] at h; injection h with h; exact absurd h.symm hp
  | _ => simp [ansF] at h
theorem tryF_er {cat : Nat → Option Bool} {i c : Nat} {fb fs : Env → F} {e e' : Env} {l : List (Str × PV)} {p : PV} (h : fb e = .er e' c l) (hc : cat c = some true) (hs : fs (e'.set i (.exc c l)) = .rt p) : tryF cat i fb fs e = .rt p := by
  unfold tryF
  rw [h]
  simp only [hc, hs]
  rfl
theorem reads_ok {a : List Nat} (ha : Asc a) (hl : a.length ≤ 10000000) : f_law_reads [.str (S a)] = .ok (.bl true) := by
  unfold f_law_reads p_law_reads
  rcases both ha hl with ⟨r, e1, e2, e3, e4⟩ | ⟨e1, e2⟩
  · refine An.fn rfl ?_
    simp only [env0, List.length_cons, List.length_nil, List.map_cons, List.map_nil, List.cons_append, List.nil_append, List.replicate, Nat.reduceAdd, Nat.reduceSub]
    refine An.set (call_ok (args1_ok (rd_ok rfl)) e4) (An.set rfl (An.to (e' := [.val (.str (S a)), .val (tq r), .val (.fr r), .no]) ?_ ?_))
    · unfold tryF setF
      rw [call_ok (args1_ok (rd_ok rfl)) e1]
      rfl
    · refine An.iteX rfl (An.retO (andV_ok (call_ok (args2_ok (rd_ok rfl) (rd_ok rfl)) (is_ok r)) (bin_ok (strO_ok (args1_ok (rd_ok rfl)) e3) (rd_ok rfl) ?_)))
      rw [e2, eqS_S, decide_eq_true rfl]
  · refine An.fn rfl ?_
    simp only [env0, List.length_cons, List.length_nil, List.map_cons, List.map_nil, List.cons_append, List.nil_append, List.replicate, Nat.reduceAdd, Nat.reduceSub]
    have lk : fldx [3] "text" 3 [.val (.str (S a)), .val .non, .val .non, .exc 3 [("text", .str (S a))]] = .ok (.str (S a)) := by
      unfold fldx
      simp only [at_cons_zero, at_cons_succ]
      rw [if_pos (by simp)]
      have : List.lookup ("text" : Str) [(("text" : Str), PV.str (S a))] = some (.str (S a)) := by
        have e : (("text" : Str) == ("text" : Str)) = true := by decide +kernel
        simp only [List.lookup, e]
      rw [this]
    have go : Ans (seqF (iteF (orT (notT (toB (isxP xt_is_BadNumber 3))) (toB (isxP xt_is_DivisionByZero 3)))
  (retF (fun _ => .ok (.bl false)))
  nextF)
  (seqF (iteF (orT (toB (bin2 notNP (rdV 1) (fun _ => .ok .non))) (notT (toB (isxP xt_is_ValueError 3))))
  (retF (fun _ => .ok (.bl false)))
  nextF)
  (retF (andV (un1 (isiP it_str) (fldx [3] "text" 3)) (bin2 eqS (fldx [3] "text" 3) (rdV 0))))) [.val (.str (S a)), .val .non, .val .non, .exc 3 [("text", .str (S a))]]) (.ok (.bl true)) := by
      refine An.iteX rfl (An.iteX rfl (An.retO (andV_ok (un_ok lk rfl) (bin_ok lk (rd_ok rfl) ?_))))
      rw [eqS_S, decide_eq_true rfl]
    refine An.set (call_ok (args1_ok (rd_ok rfl)) e2) (An.set rfl (An.toR (tryF_er (e' := [.val (.str (S a)), .val .non, .val .non, .no]) (c := 3) (l := [("text", .str (S a))]) (set_er (call_ok (args1_ok (rd_ok rfl)) e1)) rfl (ans_rt go (fun z => nomatch z)))))
end J

namespace J
open PySem.Spec PySem
open Bp (Sm)
open SX (S)
/-! ### the law's numbers -/
theorem rngB2 {r : R (List PV)} {n : Int} (h : r = .ok [.int n]) (h0 : n ≤ 1000) (h1 : -1000 ≤ n) : r.bind rng1 = .ok (rngL 0 n.toNat) := by
  rw [h, R.bind_ok]
  unfold rng1
  simp only
  rw [if_pos (by omega)]
theorem p18 : powI (.int 10) (.int 18) = .ok (.int (10 ^ 18)) := powI_int (by decide) (by decide)
theorem number_ok (xs : List Int) {k f : Int} (k0 : 0 ≤ k) (k1 : k ≤ 900) (f0 : 1 ≤ f) (f1 : f ≤ 41) : ∃ n : Int, 0 < n ∧ n < 10 ^ 42 ∧ f_law_number [scr xs, .int k, .int f] = .ok (.int n) := by
  obtain ⟨e', k2, g, s, g0, g1, rfl⟩ := forP_inv (bn := bdN 4) (body := lb_law_number_1) (fun j e => ∃ (g : Int) (s : Sl), 0 ≤ g ∧ g < 10 ^ (18 * j) ∧ e = [.val (scr xs), .val (.int k), .val (.int f), .val (.int g), s, .no]) (rngL 0 3) 0 [.val (scr xs), .val (.int k), .val (.int f), .val (.int 0), .no, .no] ⟨0, .no, by decide, by decide, rfl⟩ fun j p e hj ⟨g, s, g0, g1, he⟩ => by
    obtain ⟨j3, rfl⟩ := rng_get hj
    subst he
    obtain ⟨c, c0, c1, ec⟩ := cellI xs (k := k + j) (by omega) (by omega)
    refine ⟨_, _, rfl, .inl ?_, g * 10 ^ 18 + c, .val (.int j), by omega, ?_, rfl⟩
    · have gb : g.natAbs < 2 ^ 400 := by
        have : g < 10 ^ 54 := Int.lt_of_lt_of_le g1 (by
          have : (10 : Int) ^ (18 * (0 + j)) ≤ 10 ^ 54 := by
            exact_mod_cast Nat.pow_le_pow_right (n := 10) (by decide) (by omega)
          exact this)
        have h2 : g.natAbs < 10 ^ 54 := by omega
        exact Nat.lt_of_lt_of_le h2 (by decide +kernel)
      unfold lb_law_number_1
      refine (?_ : setF 3 _ _ = _)
      unfold setF
      rw [bin_ok (f := addI) (p := .int (g * 10 ^ 18)) (q := .int c) (bin_ok (rd_ok rfl) (bin_ok rfl rfl p18) (mulI_int (big gb) (by decide +kernel))) (call_ok (args2_ok (rd_ok rfl) (bin_ok (rd_ok rfl) (rd_ok rfl) (addI_int _ _))) ec) (addI_int _ _)]
      rfl
    · have e2 : (10 : Int) ^ (18 * (0 + j + 1)) = 10 ^ (18 * (0 + j)) * 10 ^ 18 := by rw [← Int.pow_add]; rfl
      rw [e2]
      omega
  obtain ⟨m, hm⟩ : ∃ m : Nat, f - 1 = m := ⟨(f - 1).toNat, by omega⟩
  obtain ⟨e2, k3, s2, rfl⟩ := forP_inv (bn := bdN 4) (body := lb_law_number_2) (fun j e => ∃ s : Sl, e = [.val (scr xs), .val (.int k), .val (.int f), .val (.int g), s, .val (.int ((10 ^ j : Nat) : Int))]) (rngL 0 m) 0 [.val (scr xs), .val (.int k), .val (.int f), .val (.int g), s, .val (.int 1)] ⟨s, rfl⟩ fun j p e hj ⟨s, he⟩ => by
    obtain ⟨jm, rfl⟩ := rng_get hj
    subst he
    refine ⟨_, _, rfl, .inl ?_, .val (.int j), rfl⟩
    have lb : (((10 ^ (0 + j) : Nat) : Int)).natAbs < 2 ^ 400 := by
      rw [Int.natAbs_natCast]
      exact Nat.lt_of_le_of_lt (show 10 ^ (0 + j) ≤ 10 ^ 40 from Nat.pow_le_pow_right (by decide) (by omega)) (by decide +kernel)
    unfold lb_law_number_2
    refine (?_ : setF 5 _ _ = _)
    unfold setF
    rw [bin_ok (f := mulI) (p := .int ((10 ^ (0 + j) : Nat) : Int)) (q := .int 10) (rd_ok rfl) rfl (mulI_int (big lb) (by decide +kernel))]
    have e2 : ((10 ^ (0 + j) : Nat) : Int) * 10 = ((10 ^ (0 + j + 1) : Nat) : Int) := by rw [Nat.pow_succ]; rfl
    rw [e2]
    rfl
  rw [rng_len] at k3
  rw [Nat.zero_add] at k3
  have lp : 0 < 10 ^ m := Nat.pow_pos (by decide)
  have lm : 10 ^ m ≤ 10 ^ 40 := Nat.pow_le_pow_right (n := 10) (by decide) (by omega)
  generalize hL : 10 ^ m = L at *
  have r0 := Int.emod_nonneg g (show 9 * (L : Int) ≠ 0 by omega)
  have r1 := Int.emod_lt_of_pos g (show 0 < 9 * (L : Int) by omega)
  refine ⟨L + g % (9 * L), by omega, by omega, ?_⟩
  unfold f_law_number p_law_number
  refine An.fn rfl ?_
  simp only [env0, List.length_cons, List.length_nil, List.map_cons, List.map_nil, List.cons_append, List.nil_append, List.replicate, Nat.reduceAdd, Nat.reduceSub]
  refine An.set rfl (An.to (forE_ok (l := rngL 0 3) (rngE (n := 3) rfl (by decide)) k2) (An.set rfl (An.to (forE_ok (l := rngL 0 m) (rngE (n := m) (bin_ok (rd_ok rfl) rfl ((subI_int f 1).trans (by rw [hm]))) (by omega)) k3) (An.retO ?_))))
  exact bin_ok (rd_ok rfl) (bin_ok (call_ok (args1_ok (rd_ok rfl)) (intB_int _)) (bin_ok rfl (rd_ok rfl) (mulI_int (by decide +kernel) (big (n := 400) (by rw [Int.natAbs_natCast]; exact Nat.lt_of_le_of_lt lm (by decide +kernel))))) (modI_int (by omega))) (addI_int _ _)
end J

namespace J
open PySem.Spec PySem
open Bp (Sm)
open SX (S)
/-! ### texts of ASCII signs, at most n of them -/
def TxV (n : Nat) (p : PV) : Prop := ∃ x, p = .str (S x) ∧ Asc x ∧ x.length ≤ n
def TxE (e : Env) (d : Env → R PV) (n : Nat) : Prop := ∃ x, d e = .ok (.str (S x)) ∧ Asc x ∧ x.length ≤ n
theorem TxV.mono {n m : Nat} {p : PV} (h : TxV n p) (k : n ≤ m) : TxV m p := let ⟨x, a, b, c⟩ := h; ⟨x, a, b, by omega⟩
theorem TxE.mono {n m : Nat} {e : Env} {d : Env → R PV} (h : TxE e d n) (k : n ≤ m) : TxE e d m := let ⟨x, a, b, c⟩ := h; ⟨x, a, b, by omega⟩
theorem asc_app {a b : List Nat} (h : Asc a) (k : Asc b) : Asc (a ++ b) := fun c hc => (List.mem_append.mp hc).elim (h c) (k c)
theorem TxE.cat {e : Env} {d u : Env → R PV} {n m : Nat} (h : TxE e d n) (k : TxE e u m) (hs : n + m ≤ 1000000) : TxE e (bin2 catX d u) (n + m) := by
  obtain ⟨x, e1, a1, l1⟩ := h
  obtain ⟨y, e2, a2, l2⟩ := k
  refine ⟨x ++ y, bin_ok e1 e2 ?_, asc_app a1 a2, by rw [List.length_append]; omega⟩
  unfold catX
  simp only [SX.S_len]
  rw [if_pos (by rw [sl24]; omega), SX.S_cat]
theorem TxE.lit {e : Env} {x : Str} {n : Nat} (h : (x.cps.toList.all (· < 128) && decide (x.cps.toList.length ≤ n)) = true) : TxE e (fun _ => .ok (.str x)) n := by
  rw [Bool.and_eq_true, decide_eq_true_iff] at h
  refine ⟨x.cps.toList, by rw [SX.S_tl], fun c hc => by simpa using List.all_eq_true.mp h.1 c hc, h.2⟩
theorem TxE.rd {e : Env} {i n : Nat} {p : PV} (h : Env.at e i = .val p) (v : TxV n p) : TxE e (rdV i) n := let ⟨x, a, b, c⟩ := v; ⟨x, by rw [rd_ok h, a], b, c⟩
theorem asc_take {a : List Nat} (k : Nat) (h : Asc a) : Asc (a.take k) := fun c hc => h c (List.mem_of_mem_take hc)
theorem asc_drop {a : List Nat} (k : Nat) (h : Asc a) : Asc (a.drop k) := fun c hc => h c (List.mem_of_mem_drop hc)
theorem TxE.upto {e : Env} {d u : Env → R PV} {n : Nat} {i : Int} (h : TxE e d n) (k : u e = .ok (.int i)) (hi : 0 ≤ i) (hs : n ≤ 1000000) : TxE e (sliceX d noB (someB u)) n := by
  obtain ⟨x, e1, a1, l1⟩ := h
  refine ⟨x.take i.toNat, ?_, asc_take _ a1, by rw [List.length_take]; omega⟩
  unfold sliceX noB someB asI
  rw [e1, k]
  simp only [R.bind_ok, SX.S_len]
  rw [if_pos (by rw [sl24]; omega), SX.slice_to hi]
theorem TxE.from {e : Env} {d u : Env → R PV} {n : Nat} {i : Int} (h : TxE e d n) (k : u e = .ok (.int i)) (hi : 0 ≤ i) (hs : n ≤ 1000000) : TxE e (sliceX d (someB u) noB) n := by
  obtain ⟨x, e1, a1, l1⟩ := h
  refine ⟨x.drop i.toNat, ?_, asc_drop _ a1, by rw [List.length_drop]; omega⟩
  unfold sliceX noB someB asI
  rw [e1, k]
  simp only [R.bind_ok, SX.S_len]
  rw [if_pos (by rw [sl24]; omega), SX.slice_from hi]
theorem asc_num (n : Nat) : Asc (TL.numL n) := fig_asc (TL.numL_digits n)
theorem asc_prI (n : Int) : Asc (prI n) := by
  unfold prI
  split
  · intro c hc
    rcases List.mem_cons.mp hc with rfl | hc
    · decide
    · exact asc_num _ c hc
  · exact asc_num _
theorem asc_pr (r : Rat) : Asc (pr r) := by
  unfold pr
  split
  · exact asc_prI _
  · refine asc_app (asc_prI _) fun c hc => ?_
    rcases List.mem_cons.mp hc with rfl | hc
    · decide
    · exact asc_num _ c hc
theorem TxE.num {e : Env} {dl : Env → R (List PV)} {n : Int} (h : dl e = .ok [.int n]) (hs : n.natAbs < 2 ^ 1900) : TxE e (callE strB dl) 601 := ⟨prI n, call_ok h (strB_int hs), asc_prI n, prI_len hs⟩
theorem pr_len {r : Rat} (h : Sm 1900 r) : (pr r).length ≤ 1202 := by
  have l1 := prI_len h.1
  have l2 := numL_lt10 h.2
  unfold pr
  split
  · omega
  · simp; omega
theorem text_ok {r : Rat} (h : Sm 1900 r) : f_law_text [tq r] = .ok (.str (S (pr r))) := by
  have hd : ((r.den : Int)).natAbs < 2 ^ 1900 := h.2
  unfold f_law_text p_law_text
  refine An.fn rfl ?_
  simp only [env0, List.length_cons, List.length_nil, List.map_cons, List.map_nil, List.cons_append, List.nil_append, List.replicate, Nat.reduceAdd, Nat.reduceSub]
  refine An.set (p := .str (S (prI r.num))) (call_ok (args1_ok (bin_ok (rd_ok rfl) rfl (ixT0 r))) (strB_int h.1)) ?_
  have t : toB (bin2 neS (bin2 ixP (rdV 0) (fun _ => .ok (.int 1))) (fun _ => .ok (.int 1))) [.val (tq r), .val (.str (S (prI r.num)))] = .ok (!decide ((r.den : Int) = 1)) := toB_ok (bin_ok (bin_ok (rd_ok rfl) rfl (ixT1 r)) rfl (neS_int _ _))
  have l1 := prI_len h.1
  have l2 := numL_lt10 h.2
  unfold pr
  by_cases z : r.den = 1
  · rw [if_pos z]
    rw [decide_eq_true (by omega)] at t
    exact An.iteX t (An.retO (rd_ok rfl))
  · rw [if_neg z]
    rw [decide_eq_false (by omega)] at t
    refine An.iteT t (An.set (p := .str (S (prI r.num ++ 47 :: TL.numL r.den))) (bin_ok (p := .str (S (prI r.num ++ [47]))) (bin_ok (rd_ok rfl) rfl ?_) (call_ok (args1_ok (bin_ok (rd_ok rfl) rfl (ixT1 r))) (strB_int hd)) ?_) (An.retO (rd_ok rfl)))
    · unfold catX
      rw [lit1.2.1]
      simp only [SX.S_len]
      rw [if_pos (by rw [sl24]; simp; omega), SX.S_cat]
    · unfold catX
      simp only [SX.S_len]
      rw [prI_nat, if_pos (by rw [sl24]; simp; omega), SX.S_cat]
      simp
end J

namespace J
open PySem.Spec PySem
open Bp (Sm)
open SX (S)
/-! ### lists of such texts -/
def LsE (e : Env) (dl : Env → R (List PV)) (k n : Nat) : Prop := ∃ l, dl e = .ok l ∧ l.length = k ∧ ∀ p ∈ l, TxV n p
def LvE (e : Env) (d : Env → R PV) (k n : Nat) : Prop := ∃ l, d e = .ok (.lst l) ∧ l.length = k ∧ ∀ p ∈ l, TxV n p
theorem LsE.nil {e : Env} {n : Nat} : LsE e args0 0 n := ⟨[], rfl, rfl, fun p h => by cases h⟩
theorem LsE.cons {e : Env} {d : Env → R PV} {dl : Env → R (List PV)} {k m n : Nat} (h : TxE e d m) (r : LsE e dl k n) (hm : m ≤ n) : LsE e (argsC d dl) (k + 1) n := by
  obtain ⟨x, e1, a1, l1⟩ := h
  obtain ⟨l, e2, a2, l2⟩ := r
  refine ⟨.str (S x) :: l, argsC_ok e1 e2, by simp [a2], fun p hp => ?_⟩
  rcases List.mem_cons.mp hp with rfl | hp
  · exact ⟨x, rfl, a1, by omega⟩
  · exact l2 p hp
theorem LsE.lst {e : Env} {dl : Env → R (List PV)} {k n : Nat} (h : LsE e dl k n) (hk : k ≤ 1000) : LvE e (lstE dl) k n := by
  obtain ⟨l, e1, a1, l1⟩ := h
  refine ⟨l, ?_, a1, l1⟩
  unfold lstE
  rw [e1, R.bind_ok, if_pos (by omega)]
theorem LvE.cat {e : Env} {d u : Env → R PV} {k m n : Nat} (h : LvE e d k n) (r : LvE e u m n) (hk : k + m ≤ 1000) : LvE e (bin2 catL d u) (k + m) n := by
  obtain ⟨l, e1, a1, l1⟩ := h
  obtain ⟨l', e2, a2, l2⟩ := r
  refine ⟨l ++ l', bin_ok e1 e2 ?_, by simp [a1, a2], fun p hp => (List.mem_append.mp hp).elim (l1 p) (l2 p)⟩
  unfold catL
  simp only
  rw [if_pos (by omega)]
theorem ix_lst {l : List PV} {i : Int} {n : Nat} (h : ∀ p ∈ l, TxV n p) (h0 : 0 ≤ i) (h1 : i < l.length) : ∃ p, ixP (.lst l) (.int i) = .ok p ∧ TxV n p := by
  obtain ⟨j, rfl⟩ : ∃ j : Nat, i = j := ⟨i.toNat, by omega⟩
  have hj : j < l.length := by omega
  refine ⟨l[j], ?_, h _ (List.getElem_mem hj)⟩
  unfold ixP L2.atI L2.ixN
  simp only
  rw [if_pos (by omega), if_pos (by omega)]
  simp [hj]
theorem short_ok {k : Int} (h0 : 0 ≤ k) : ∃ p, f_law_short [.int k] = .ok p ∧ TxV 5 p := by
  have ls : LvE [.val (.int k), .no] (lstE (argsC (fun _ => .ok (.str "")) (argsC (fun _ => .ok (.str "-")) (argsC (fun _ => .ok (.str "/")) (argsC (fun _ => .ok (.str "-0")) (argsC (fun _ => .ok (.str "0/1")) (argsC (fun _ => .ok (.str "00")) (argsC (fun _ => .ok (.str "1/0")) (argsC (fun _ => .ok (.str "0/0")) (argsC (fun _ => .ok (.str "-/2")) (argsC (fun _ => .ok (.str "3/")) (argsC (fun _ => .ok (.str "/3")) (argsC (fun _ => .ok (.str "1/2/3")) (argsC (fun _ => .ok (.str "0")) (argsC (fun _ => .ok (.str "-1/2")) args0))))))))))))))) 14 5 := by
    refine LsE.lst ?_ (by decide)
    iterate 14 refine LsE.cons (m := 5) (TxE.lit (by decide +kernel)) ?_ (by decide)
    exact LsE.nil
  obtain ⟨l, e1, a1, l1⟩ := ls
  obtain ⟨p, e2, t⟩ := ix_lst (i := k % 14) l1 (by omega) (by rw [a1]; omega)
  refine ⟨p, ?_, t⟩
  unfold f_law_short p_law_short
  refine An.fn rfl ?_
  simp only [env0, List.length_cons, List.length_nil, List.map_cons, List.map_nil, List.cons_append, List.nil_append, List.replicate, Nat.reduceAdd, Nat.reduceSub]
  exact An.set e1 (An.retO (bin_ok (rd_ok rfl) (bin_ok (call_ok (args1_ok (rd_ok rfl)) (intB_int _)) rfl (modI_int (by decide))) e2))
theorem zeros (n : Int) (e : Env) (h1 : -1000000 ≤ n ∧ n ≤ 1000000 ∧ ("0" : Str).length * n.toNat ≤ 10000000) {m : Nat} (h2 : ((repX "0" n).cps.toList.all (· < 128) && decide ((repX "0" n).cps.toList.length ≤ m)) = true) : TxE e (bin2 mulX (fun _ => .ok (.str "0")) (fun _ => .ok (.int n))) m := by
  obtain ⟨x, e1, a, l⟩ := TxE.lit (e := e) h2
  refine ⟨x, bin_ok rfl rfl ?_, a, l⟩
  unfold mulX
  simp only
  rw [if_pos h1]
  exact e1
theorem zero40 (e : Env) : TxE e (bin2 mulX (fun _ => .ok (.str "0")) (fun _ => .ok (.int 40))) 40 := zeros 40 e (by decide +kernel) (by decide +kernel)
theorem zero39 (e : Env) : TxE e (bin2 mulX (fun _ => .ok (.str "0")) (fun _ => .ok (.int 39))) 40 := zeros 39 e (by decide +kernel) (by decide +kernel)
end J

namespace J
open PySem.Spec PySem
open Bp (Sm)
open SX (S)
def AnT (f : F) (n : Nat) : Prop := ∃ p, Ans f (.ok p) ∧ TxV n p
theorem TxE.val {e : Env} {d : Env → R PV} {n : Nat} (h : TxE e d n) : ∃ p, d e = .ok p ∧ TxV n p := let ⟨x, a, b, c⟩ := h; ⟨_, a, x, rfl, b, c⟩
theorem AnT.set {i : Nat} {d : Env → R PV} {g : Env → F} {e : Env} {p : PV} {n : Nat} (h : d e = .ok p) (k : AnT (g (List.set e i (.val p))) n) : AnT (seqF (setF i d) g e) n := let ⟨q, a, b⟩ := k; ⟨q, An.set h a, b⟩
theorem AnT.setE {i : Nat} {d : Env → R PV} {g : Env → F} {e e' : Env} {p : PV} {n : Nat} (h : d e = .ok p) (he : List.set e i (.val p) = e') (k : AnT (g e') n) : AnT (seqF (setF i d) g e) n := AnT.set h (he ▸ k)
theorem ixfrz {e : Env} {l : List PV} {d : Env → R PV} {p : PV} {i : Nat} (h : Env.at e i = .own l) (k : d (List.set e i (.val (.lst l))) = .ok p) : (fun env => (retF d) (frz i env)) e = .rt p := by
  show retF d (frz i e) = _
  rw [frz_own h]
  unfold retF liftF
  rw [k]
theorem AnT.to {f g : Env → F} {e e' : Env} {n : Nat} (h : f e = .nx e') (k : AnT (g e') n) : AnT (seqF f g e) n := let ⟨q, a, b⟩ := k; ⟨q, An.to h a, b⟩
theorem AnT.ite {t : Env → R Bool} {d : Env → R PV} {k : Env → F} {e : Env} {b : Bool} {n m : Nat} (h : t e = .ok b) (hd : TxE e d m) (hm : m ≤ n) (kf : b = false → AnT (k e) n) : AnT (seqF (iteF t (retF d) nextF) k e) n := by
  cases b with
  | true =>
    obtain ⟨p, a, v⟩ := hd.val
    exact ⟨p, An.iteT h (An.retSO a), v.mono hm⟩
  | false =>
    obtain ⟨q, a, v⟩ := kf rfl
    exact ⟨q, An.iteX h a, v⟩
theorem rnum_neg (r : Rat) : (-r).num = -r.num := rfl
theorem rden_neg (r : Rat) : (-r).den = r.den := rfl
theorem setCatO_ok {i : Nat} {da db : Env → R PV} {e : Env} {l m : List PV} (h : da e = .ok (.lst l)) (k : db e = .ok (.lst m)) (hl : l.length + m.length ≤ 1000) : setCatO i da db e = .nx (List.set e i (.own (l ++ m))) := by
  unfold setCatO
  rw [h, k]
  simp only
  rw [if_pos hl]
abbrev spE (v k p c t h l tp dg mn dn rs w : Sl) : Env := [v, k, p, c, t, h, l, tp, dg, mn, dn, rs, w]
theorem len_tx {d : Env → R PV} {e : Env} {x : List Nat} (h : d e = .ok (.str (S x))) (hl : x.length ≤ 1000000) : callE lenB (argsC d args0) e = .ok (.int x.length) := call_ok (args1_ok h) (sl_eq x (by rw [sl24]; omega))
theorem spoilt_ok {r : Rat} {kind place : Int} {c : Nat} (h : Sm 300 r) (h0 : 0 ≤ kind) (h1 : kind < 22) (p0 : 0 ≤ place) (hc : c < 128) : ∃ p, f_law_spoilt [tq r, .int kind, .int place, .str (S [c])] = .ok p ∧ TxV 5000 p := by
  have hs : Sm 1900 r := ⟨Nat.lt_of_lt_of_le h.1 (Bp.pow_le (by decide)), Nat.lt_of_lt_of_le h.2 (Bp.pow_le (by decide))⟩
  have ht : TxV 1202 (.str (S (pr r))) := ⟨_, rfl, asc_pr r, pr_len hs⟩
  have hch : TxV 1 (.str (S [c])) := ⟨_, rfl, fun x hx => by rw [List.mem_singleton.mp hx]; exact hc, by simp⟩
  have hpl := pr_len hs
  suffices H : AnT (p_law_spoilt (spE (.val (tq r)) (.val (.int kind)) (.val (.int place)) (.val (.str (S [c]))) .no .no .no .no .no .no .no .no .no)) 5000 by
    obtain ⟨p, a, v⟩ := H
    refine ⟨p, ?_, v⟩
    unfold f_law_spoilt
    exact An.fn rfl a
  unfold p_law_spoilt
  generalize htx : pr r = tx at *
  refine AnT.set (p := .str (S tx)) (call_ok (args1_ok (rd_ok rfl)) (by rw [text_ok hs, htx])) ?_
  refine AnT.set (p := .int (place % (tx.length + 1))) (bin_ok (call_ok (args1_ok (rd_ok rfl)) (intB_int _)) (bin_ok (len_tx (rd_ok rfl) (by omega)) rfl (addI_int _ _)) (modI_int (by omega))) ?_
  have q0 : 0 ≤ place % ((tx.length : Int) + 1) := Int.emod_nonneg _ (by omega)
  have q1 : place % ((tx.length : Int) + 1) < tx.length + 1 := Int.emod_lt_of_pos _ (by omega)
  generalize place % ((tx.length : Int) + 1) = pl at *
  obtain ⟨xh, eh, th⟩ := (TxE.upto (e := spE (.val (tq r)) (.val (.int kind)) (.val (.int pl)) (.val (.str (S [c]))) (.val (.str (S tx))) .no .no .no .no .no .no .no .no) (d := rdV 4) (u := rdV 2) (TxE.rd rfl ht) (rd_ok rfl) q0 (by decide)).val
  refine AnT.set eh ?_
  obtain ⟨xt, et, tt⟩ := (TxE.from (e := spE (.val (tq r)) (.val (.int kind)) (.val (.int pl)) (.val (.str (S [c]))) (.val (.str (S tx))) (.val xh) .no .no .no .no .no .no .no) (d := rdV 4) (u := rdV 2) (TxE.rd rfl ht) (rd_ok rfl) q0 (by decide)).val
  refine AnT.set et ?_
  have l7 := prI_len hs.1
  refine AnT.set (p := .str (S (prI r.num))) (call_ok (args1_ok (bin_ok (rd_ok rfl) rfl (ixT0 r))) (strB_int hs.1)) ?_
  have hab : (r.num.natAbs : Int).natAbs < 2 ^ 1900 := by rw [Int.natAbs_natCast]; exact hs.1
  have l8 := prI_len hab
  refine AnT.set (p := .str (S (prI r.num.natAbs))) (call_ok (args1_ok (call_ok (args1_ok (bin_ok (rd_ok rfl) rfl (ixT0 r))) (absB_int _))) (strB_int hab)) ?_
  have t7 : TxV 601 (.str (S (prI r.num))) := ⟨_, rfl, asc_prI _, l7⟩
  have t8 : TxV 601 (.str (S (prI r.num.natAbs))) := ⟨_, rfl, asc_prI _, l8⟩
  have l78 : (prI (r.num.natAbs : Int)).length ≤ (prI r.num).length := by
    rw [prI_nat]
    unfold prI
    split <;> simp
  obtain ⟨xm, em, tm⟩ := (TxE.upto (e := spE (.val (tq r)) (.val (.int kind)) (.val (.int pl)) (.val (.str (S [c]))) (.val (.str (S tx))) (.val xh) (.val xt) (.val (.str (S (prI r.num)))) (.val (.str (S (prI r.num.natAbs)))) .no .no .no .no) (d := rdV 7) (u := bin2 subI (callE lenB (argsC (rdV 7) args0)) (callE lenB (argsC (rdV 8) args0))) (TxE.rd rfl t7)
    (bin_ok (len_tx (rd_ok rfl) (by omega)) (len_tx (rd_ok rfl) (by omega)) (subI_int _ _)) (by omega) (by decide)).val
  refine AnT.set em ?_
  have hden : ((r.den : Int)).natAbs < 2 ^ 1900 := hs.2
  have t10 : TxV 601 (.str (S (prI r.den))) := ⟨_, rfl, asc_prI _, prI_len hden⟩
  refine AnT.set (p := .str (S (prI r.den))) (call_ok (args1_ok (bin_ok (rd_ok rfl) rfl (ixT1 r))) (strB_int hden)) ?_
  generalize prI r.den = dn at *
  refine AnT.ite (toB_ok (bin_ok (rd_ok rfl) rfl (eqS_int _ _))) (TxE.cat (TxE.cat (TxE.rd rfl th) (TxE.rd rfl hch) (by decide)) (TxE.rd rfl tt) (by decide)) (by decide) fun z0 => ?_
  refine AnT.ite (toB_ok (bin_ok (rd_ok rfl) rfl (eqS_int _ _))) (TxE.cat (TxE.rd rfl th) (TxE.from (TxE.rd rfl tt) rfl (by decide) (by decide)) (by decide)) (by decide) fun z1 => ?_
  refine AnT.ite (toB_ok (bin_ok (rd_ok rfl) rfl (eqS_int _ _))) (TxE.cat (TxE.cat (TxE.rd rfl th) (TxE.upto (TxE.rd rfl tt) rfl (by decide) (by decide)) (by decide)) (TxE.rd rfl tt) (by decide)) (by decide) fun z2 => ?_
  refine AnT.ite (toB_ok (bin_ok (rd_ok rfl) rfl (eqS_int _ _))) (TxE.cat (TxE.cat (TxE.rd rfl th) (TxE.rd rfl hch) (by decide)) (TxE.from (TxE.rd rfl tt) rfl (by decide) (by decide)) (by decide)) (by decide) fun z3 => ?_
  have pl2 : (2 + pl).natAbs < 2 ^ 12 := by omega
  have bn : (r.num * (2 + pl)).natAbs < 2 ^ 312 := Bp.imul_lt (a := 300) (b := 12) h.1 pl2
  have bd : ((r.den : Int) * (2 + pl)).natAbs < 2 ^ 312 := Bp.imul_lt (a := 300) (b := 12) h.2 pl2
  have m1 : mulI (.int r.num) (.int (2 + pl)) = .ok (.int (r.num * (2 + pl))) := mulI_int (big h.1) (big (n := 12) pl2)
  have m2 : mulI (.int r.den) (.int (2 + pl)) = .ok (.int (r.den * (2 + pl))) := mulI_int (big (n := 300) h.2) (big (n := 12) pl2)
  refine AnT.ite (toB_ok (bin_ok (rd_ok rfl) rfl (eqS_int _ _))) (TxE.cat (TxE.cat (TxE.num (args1_ok (bin_ok (bin_ok (rd_ok rfl) rfl (ixT0 r)) (bin_ok rfl (rd_ok rfl) (addI_int _ _)) m1)) (Nat.lt_of_lt_of_le bn (Bp.pow_le (by decide)))) (TxE.lit (n := 1) (by decide +kernel)) (by decide)) (TxE.num (args1_ok (bin_ok (bin_ok (rd_ok rfl) rfl (ixT1 r)) (bin_ok rfl (rd_ok rfl) (addI_int _ _)) m2)) (Nat.lt_of_lt_of_le bd (Bp.pow_le (by decide)))) (by decide)) (by decide) fun z4 => ?_
  have k5 : 5 ≤ kind := by
    have y0 := of_decide_eq_false z0
    have y1 := of_decide_eq_false z1
    have y2 := of_decide_eq_false z2
    have y3 := of_decide_eq_false z3
    have y4 := of_decide_eq_false z4
    omega
  clear z0 z1 z2 z3 z4
  have t4 : TxV 1202 (.str (S tx)) := ht
  have t10' := t10
  generalize hv7 : PV.str (S (prI r.num)) = v7 at *
  generalize hv8 : PV.str (S (prI r.num.natAbs)) = v8 at *
  have lc7 : ∀ e : Env, Env.at e 7 = .val v7 → callE lenB (argsC (rdV 7) args0) e = .ok (.int (prI r.num).length) := fun e he => len_tx (by rw [rd_ok he, hv7]) (by omega)
  obtain ⟨xr, er, tr⟩ := (TxE.from (e := spE (.val (tq r)) (.val (.int kind)) (.val (.int pl)) (.val (.str (S [c]))) (.val (.str (S tx))) (.val xh) (.val xt) (.val v7) (.val v8) (.val xm) (.val (.str (S dn))) .no .no) (d := rdV 4) (u := callE lenB (argsC (rdV 7) args0)) (TxE.rd rfl t4) (lc7 _ rfl) (by omega) (by decide)).val
  refine AnT.set er ?_
  have s1 : TxV 1202 (.str (S tx)) := t4
  have mk : ∀ e : Env, Env.at e 4 = .val (.str (S tx)) → TxE e (rdV 4) 1202 := fun e he => TxE.rd he t4
  have LR : ∀ (e : Env) (l : List PV) (k : Nat), Env.at e 12 = .val (.lst l) → l.length = k → (∀ p ∈ l, TxV 5000 p) → LvE e (rdV 12) k 5000 := fun e l k h1 h2 h3 => ⟨l, rd_ok h1, h2, h3⟩
  obtain ⟨w0, f0, n0, v0⟩ := LsE.lst (e := spE (.val (tq r)) (.val (.int kind)) (.val (.int pl)) (.val (.str (S [c]))) (.val (.str (S tx))) (.val xh) (.val xt) (.val v7) (.val v8) (.val xm) (.val (.str (S dn))) (.val xr) .no) (n := 5000)
    (LsE.cons (TxE.cat (TxE.rd (i := 4) rfl t4) (TxE.lit (n := 2) (x := "/1") (by decide +kernel)) (by decide)) (LsE.cons (TxE.cat (TxE.lit (n := 1) (x := "-") (by decide +kernel)) (TxE.rd (i := 4) rfl t4) (by decide)) (LsE.cons (TxE.cat (TxE.lit (n := 1) (x := "+") (by decide +kernel)) (TxE.rd (i := 4) rfl t4) (by decide))
      (LsE.cons (TxE.cat (TxE.cat (TxE.rd (i := 7) rfl t7) (TxE.lit (n := 2) (x := "/-") (by decide +kernel)) (by decide)) (TxE.rd (i := 10) rfl t10) (by decide)) LsE.nil (by decide)) (by decide)) (by decide)) (by decide)) (by decide)
  refine AnT.set f0 ?_
  obtain ⟨w1, f1, n1, v1⟩ := LvE.cat (e := spE (.val (tq r)) (.val (.int kind)) (.val (.int pl)) (.val (.str (S [c]))) (.val (.str (S tx))) (.val xh) (.val xt) (.val v7) (.val v8) (.val xm) (.val (.str (S dn))) (.val xr) (.val (.lst w0))) (LR _ w0 _ rfl n0 v0)
    (LsE.lst (LsE.cons (TxE.cat (TxE.cat (TxE.rd (i := 7) rfl t7) (TxE.lit (n := 2) (x := "/0") (by decide +kernel)) (by decide)) (TxE.rd (i := 10) rfl t10) (by decide)) (LsE.cons (TxE.cat (TxE.cat (TxE.cat (TxE.rd (i := 9) rfl tm) (TxE.lit (n := 1) (x := "0") (by decide +kernel)) (by decide)) (TxE.rd (i := 8) rfl t8) (by decide)) (TxE.rd (i := 11) rfl tr) (by decide)) LsE.nil (by decide)) (by decide)) (by decide)) (by decide)
  refine AnT.set f1 ?_
  obtain ⟨w2, f2, n2, v2⟩ := LvE.cat (e := spE (.val (tq r)) (.val (.int kind)) (.val (.int pl)) (.val (.str (S [c]))) (.val (.str (S tx))) (.val xh) (.val xt) (.val v7) (.val v8) (.val xm) (.val (.str (S dn))) (.val xr) (.val (.lst w1))) (LR _ w1 _ rfl n1 v1)
    (LsE.lst (LsE.cons (TxE.cat (TxE.lit (n := 1) (x := " ") (by decide +kernel)) (TxE.rd (i := 4) rfl t4) (by decide)) (LsE.cons (TxE.cat (TxE.rd (i := 4) rfl t4) (TxE.lit (n := 1) (x := " ") (by decide +kernel)) (by decide)) (LsE.cons (TxE.cat (TxE.rd (i := 4) rfl t4) (TxE.lit (n := 1) (x := "\n") (by decide +kernel)) (by decide)) LsE.nil (by decide)) (by decide)) (by decide)) (by decide)) (by decide)
  refine AnT.set f2 ?_
  obtain ⟨w3, f3, n3, v3⟩ := LvE.cat (e := spE (.val (tq r)) (.val (.int kind)) (.val (.int pl)) (.val (.str (S [c]))) (.val (.str (S tx))) (.val xh) (.val xt) (.val v7) (.val v8) (.val xm) (.val (.str (S dn))) (.val xr) (.val (.lst w2))) (LR _ w2 _ rfl n2 v2)
    (LsE.lst (LsE.cons (TxE.cat (TxE.cat (TxE.rd (i := 7) rfl t7) (TxE.lit (n := 2) (x := " /") (by decide +kernel)) (by decide)) (TxE.rd (i := 10) rfl t10) (by decide)) (LsE.cons (TxE.cat (TxE.cat (TxE.rd (i := 7) rfl t7) (TxE.lit (n := 2) (x := "/ ") (by decide +kernel)) (by decide)) (TxE.rd (i := 10) rfl t10) (by decide)) LsE.nil (by decide)) (by decide)) (by decide)) (by decide)
  refine AnT.set f3 ?_
  obtain ⟨w4, f4, n4, v4⟩ := LvE.cat (e := spE (.val (tq r)) (.val (.int kind)) (.val (.int pl)) (.val (.str (S [c]))) (.val (.str (S tx))) (.val xh) (.val xt) (.val v7) (.val v8) (.val xm) (.val (.str (S dn))) (.val xr) (.val (.lst w3))) (LR _ w3 _ rfl n3 v3)
    (LsE.lst (LsE.cons (TxE.cat (TxE.cat (TxE.cat (TxE.rd (i := 9) rfl tm) (TxE.lit (n := 1) (x := "1") (by decide +kernel)) (by decide)) (zero40 _) (by decide)) (TxE.rd (i := 11) rfl tr) (by decide)) (LsE.cons (TxE.cat (TxE.cat (TxE.rd (i := 9) rfl tm) (TxE.lit (n := 1) (x := "1") (by decide +kernel)) (by decide)) (zero39 _) (by decide)) LsE.nil (by decide)) (by decide)) (by decide)) (by decide)
  refine AnT.setE (e' := spE (.val (tq r)) (.val (.int kind)) (.val (.int pl)) (.val (.str (S [c]))) (.val (.str (S tx))) (.val xh) (.val xt) (.val v7) (.val v8) (.val xm) (.val (.str (S dn))) (.val xr) (.val (.lst w4))) f4 rfl ?_
  obtain ⟨w5, f5, n5, v5⟩ := LsE.lst (e := spE (.val (tq r)) (.val (.int kind)) (.val (.int pl)) (.val (.str (S [c]))) (.val (.str (S tx))) (.val xh) (.val xt) (.val v7) (.val v8) (.val xm) (.val (.str (S dn))) (.val xr) (.val (.lst w4))) (n := 5000)
    (LsE.cons (TxE.cat (TxE.rd (i := 4) rfl t4) (TxE.lit (n := 1) (x := "0") (by decide +kernel)) (by decide)) (LsE.cons (TxE.rd (i := 4) rfl t4) LsE.nil (by decide)) (by decide)) (by decide)
  refine AnT.to (setCatO_ok (l := w4) (m := w5) (rd_ok rfl) f5 (by omega)) ?_
  have tn : f_law_text [.tup [.int (-r.num), .int r.den]] = .ok (.str (S (pr (-r)))) := by
    have e : PV.tup [.int (-r.num), .int r.den] = tq (-r) := by unfold tq; rw [rnum_neg, rden_neg]
    rw [e]
    exact text_ok ⟨by rw [rnum_neg, Int.natAbs_neg]; exact hs.1, by rw [rden_neg]; exact hs.2⟩
  have tv : TxV 5000 (.str (S (pr (-r)))) := ⟨_, rfl, asc_pr _, Nat.le_trans (pr_len (r := -r) ⟨by rw [rnum_neg, Int.natAbs_neg]; exact hs.1, by rw [rden_neg]; exact hs.2⟩) (by decide)⟩
  refine AnT.to (app_ok (l := w4 ++ w5) rfl (call_ok (args1_ok (tup2_ok (un_ok (bin_ok (rd_ok rfl) rfl (ixT0 r)) (negI_int _)) (bin_ok (rd_ok rfl) rfl (ixT1 r)))) tn) (by rw [List.length_append]; omega)) ?_
  have vA : ∀ p ∈ w4 ++ w5 ++ [PV.str (S (pr (-r)))], TxV 5000 p := by
    intro p hp
    rcases List.mem_append.mp hp with hp | hp
    · exact (List.mem_append.mp hp).elim (v4 p) (v5 p)
    · rw [List.mem_singleton.mp hp]; exact tv
  have nA : (w4 ++ w5 ++ [PV.str (S (pr (-r)))]).length = 16 := by simp [n4, n5]
  generalize hw : w4 ++ w5 ++ [PV.str (S (pr (-r)))] = ws at *
  have tk : toB (bin2 ltI (rdV 1) (fun _ => .ok (.int 21))) (spE (.val (tq r)) (.val (.int kind)) (.val (.int pl)) (.val (.str (S [c]))) (.val (.str (S tx))) (.val xh) (.val xt) (.val v7) (.val v8) (.val xm) (.val (.str (S dn))) (.val xr) (.own ws)) = .ok (decide (kind < 21)) := toB_ok (bin_ok (rd_ok rfl) rfl (ltI_int _ _))
  by_cases hk : kind < 21
  · rw [decide_eq_true hk] at tk
    obtain ⟨p, ep, tp⟩ := ix_lst (i := kind - 5) vA (by omega) (by rw [nA]; omega)
    have e : bin2 ixP (rdV 12) (bin2 subI (rdV 1) (fun _ => .ok (.int 5))) (spE (.val (tq r)) (.val (.int kind)) (.val (.int pl)) (.val (.str (S [c]))) (.val (.str (S tx))) (.val xh) (.val xt) (.val v7) (.val v8) (.val xm) (.val (.str (S dn))) (.val xr) (.val (.lst ws))) = .ok p := bin_ok (rd_ok rfl) (bin_ok (rd_ok rfl) rfl (subI_int _ _)) ep
    exact ⟨p, An.iteT tk (An.toR (ixfrz (l := ws) rfl e)), tp⟩
  · rw [decide_eq_false hk] at tk
    obtain ⟨p, ep, tp⟩ := short_ok q0
    exact ⟨p, An.iteX tk (An.retO (call_ok (args1_ok (rd_ok rfl)) ep)), tp.mono (by decide)⟩
end J

namespace J
open PySem.Spec PySem
open Bp (Sm)
open SX (S)
abbrev drE (xs : List Int) (f b k g : Int) (n d : Sl) : Env := [.val (scr xs), .val (.int f), .val (.int b), .val (.int k), .val (.int g), n, d]
theorem ite_two {t : Env → R Bool} {e e' : Env} {b : Bool} {f : Env → F} {P : Env → Prop} (ht : t e = .ok b) (hf : f e = .nx e') (h1 : P e') (h2 : P e) : ∃ e2, iteF t f nextF e = .nx e2 ∧ P e2 := by
  cases b with
  | true => exact ⟨e', ite_t ht hf, h1⟩
  | false => exact ⟨e, ite_n ht rfl, h2⟩
theorem eq2 {e : Env} {i : Nat} {g a b : Int} (h : Env.at e i = .val (.int g)) : ∃ k, orT (toB (bin2 eqS (rdV i) (fun _ => .ok (.int a)))) (toB (bin2 eqS (rdV i) (fun _ => .ok (.int b)))) e = .ok k := ⟨_, orT_v (toB_ok (bin_ok (rd_ok h) rfl (eqS_int _ _))) fun _ => toB_ok (bin_ok (rd_ok h) rfl (eqS_int _ _))⟩
theorem eq1 {e : Env} {i : Nat} {g a : Int} (h : Env.at e i = .val (.int g)) : ∃ k, toB (bin2 eqS (rdV i) (fun _ => .ok (.int a))) e = .ok k := ⟨_, toB_ok (bin_ok (rd_ok h) rfl (eqS_int _ _))⟩
theorem drawn_ok (xs : List Int) : ∃ r : Rat, Sm 300 r ∧ f_law_drawn [scr xs] = .ok (tq r) := by
  obtain ⟨c0, a0, b0, e0'⟩ := cellI xs (k := 0) (by decide) (by decide)
  obtain ⟨c4, a4, b4, e4⟩ := cellI xs (k := 4) (by decide) (by decide)
  obtain ⟨c8, a8, b8, e8⟩ := cellI xs (k := 8) (by decide) (by decide)
  suffices H : ∃ r : Rat, Sm 300 r ∧ Ans (p_law_drawn [.val (scr xs), .no, .no, .no, .no, .no, .no]) (.ok (tq r)) by
    obtain ⟨r, s, a⟩ := H
    exact ⟨r, s, by unfold f_law_drawn; exact An.fn rfl a⟩
  unfold p_law_drawn
  have one : ∀ {f g : Env → F} {e e' : Env}, f e = .nx e' → (∃ r : Rat, Sm 300 r ∧ Ans (g e') (.ok (tq r))) → ∃ r : Rat, Sm 300 r ∧ Ans (seqF f g e) (.ok (tq r)) := fun h ⟨r, s, a⟩ => ⟨r, s, An.to h a⟩
  have sE : ∀ {i : Nat} {d : Env → R PV} {e e' : Env} {p : PV}, d e = .ok p → List.set e i (.val p) = e' → setF i d e = .nx e' := fun h he => by unfold setF liftF; rw [h]; exact congrArg F.nx he
  refine one (sE (p := .int (1 + c0 % 41)) (e' := [.val (scr xs), .val (.int (1 + c0 % 41)), .no, .no, .no, .no, .no]) (bin_ok rfl (bin_ok (call_ok (args1_ok (call_ok (args2_ok (rd_ok rfl) rfl) e0')) (intB_int _)) rfl (modI_int (by decide))) (addI_int _ _)) rfl) ?_
  refine one (sE (p := .int (1 + c4 / 3 % 41)) (e' := [.val (scr xs), .val (.int (1 + c0 % 41)), .val (.int (1 + c4 / 3 % 41)), .no, .no, .no, .no]) (bin_ok rfl (bin_ok (call_ok (args1_ok (bin_ok (call_ok (args2_ok (rd_ok rfl) rfl) e4) rfl (fdivI_int (by decide) (by decide +kernel)))) (intB_int _)) rfl (modI_int (by decide))) (addI_int _ _)) rfl) ?_
  refine one (sE (p := .int c8) (e' := [.val (scr xs), .val (.int (1 + c0 % 41)), .val (.int (1 + c4 / 3 % 41)), .val (.int c8), .no, .no, .no]) (call_ok (args2_ok (rd_ok rfl) rfl) e8) rfl) ?_
  refine one (sE (p := .int (c8 / 18 % 8)) (e' := drE xs (1 + c0 % 41) (1 + c4 / 3 % 41) c8 (c8 / 18 % 8) .no .no) (bin_ok (call_ok (args1_ok (bin_ok (rd_ok rfl) rfl (fdivI_int (by decide) (by decide +kernel)))) (intB_int _)) rfl (modI_int (by decide))) rfl) ?_
  have f0 : 1 ≤ 1 + c0 % 41 ∧ 1 + c0 % 41 ≤ 41 := by omega
  have g0 : 1 ≤ 1 + c4 / 3 % 41 ∧ 1 + c4 / 3 % 41 ≤ 41 := by omega
  generalize 1 + c0 % 41 = f at *
  generalize 1 + c4 / 3 % 41 = b at *
  generalize c8 / 18 % 8 = g at *
  let P : Env → Prop := fun e => ∃ f b : Int, (1 ≤ f ∧ f ≤ 41) ∧ (1 ≤ b ∧ b ≤ 41) ∧ e = drE xs f b c8 g .no .no
  obtain ⟨k1, t1⟩ := eq2 (e := drE xs f b c8 g .no .no) (i := 4) (a := 1) (b := 5) rfl
  obtain ⟨_, s1, f1, b1, hf1, hb1, rfl⟩ := ite_two (P := P) (e' := drE xs 40 b c8 g .no .no) (f := setF 1 (fun _ => .ok (.int 40))) t1 rfl ⟨40, b, by decide, g0, rfl⟩ ⟨f, b, f0, g0, rfl⟩
  refine one s1 ?_
  obtain ⟨k2, t2⟩ := eq1 (e := drE xs f1 b1 c8 g .no .no) (i := 4) (a := 2) rfl
  obtain ⟨_, s2, f2, b2, hf2, hb2, rfl⟩ := ite_two (P := P) (e' := drE xs 41 b1 c8 g .no .no) (f := setF 1 (fun _ => .ok (.int 41))) t2 rfl ⟨41, b1, by decide, hb1, rfl⟩ ⟨f1, b1, hf1, hb1, rfl⟩
  refine one s2 ?_
  obtain ⟨k3, t3⟩ := eq2 (e := drE xs f2 b2 c8 g .no .no) (i := 4) (a := 3) (b := 5) rfl
  obtain ⟨_, s3, f3, b3, hf3, hb3, rfl⟩ := ite_two (P := P) (e' := drE xs f2 40 c8 g .no .no) (f := setF 2 (fun _ => .ok (.int 40))) t3 rfl ⟨f2, 40, hf2, by decide, rfl⟩ ⟨f2, b2, hf2, hb2, rfl⟩
  refine one s3 ?_
  obtain ⟨k4, t4⟩ := eq1 (e := drE xs f3 b3 c8 g .no .no) (i := 4) (a := 4) rfl
  obtain ⟨_, s4, f4, b4', hf4, hb4, rfl⟩ := ite_two (P := P) (e' := drE xs f3 41 c8 g .no .no) (f := setF 2 (fun _ => .ok (.int 41))) t4 rfl ⟨f3, 41, hf3, by decide, rfl⟩ ⟨f3, b3, hf3, hb3, rfl⟩
  refine one s4 ?_
  obtain ⟨n, n0, n1, en⟩ := number_ok xs (k := 1) (f := f4) (by decide) (by decide) hf4.1 hf4.2
  obtain ⟨m, m0, m1, em⟩ := number_ok xs (k := 5) (f := b4') (by decide) (by decide) hb4.1 hb4.2
  refine one (sE (p := .int n) (e' := drE xs f4 b4' c8 g (.val (.int n)) .no) (call_ok (argsC_ok (rd_ok rfl) (args2_ok rfl (rd_ok rfl))) en) rfl) ?_
  refine one (sE (p := .int 1) (e' := drE xs f4 b4' c8 g (.val (.int n)) (.val (.int 1))) rfl rfl) ?_
  let P2 : Env → Prop := fun e => ∃ n d : Int, n.natAbs < 10 ^ 42 ∧ (0 < d ∧ d < 10 ^ 42) ∧ e = drE xs f4 b4' c8 g (.val (.int n)) (.val (.int d))
  have t5 : toB (bin2 neS (bin2 modI (callE intB (argsC (callE f_law_cell (argsC (rdV 0) (argsC (fun _ => .ok (.int 4)) args0))) args0)) (fun _ => .ok (.int 3))) (fun _ => .ok (.int 0))) (drE xs f4 b4' c8 g (.val (.int n)) (.val (.int 1))) = .ok (!decide (c4 % 3 = 0)) := toB_ok (bin_ok (bin_ok (call_ok (args1_ok (call_ok (args2_ok (rd_ok rfl) rfl) e4)) (intB_int _)) rfl (modI_int (by decide))) rfl (neS_int _ _))
  obtain ⟨_, s5, n5, d5, hn5, hd5, rfl⟩ := ite_two (P := P2) (e' := drE xs f4 b4' c8 g (.val (.int n)) (.val (.int m))) (f := setF 6 (callE f_law_number (argsC (rdV 0) (argsC (fun _ => .ok (.int 5)) (argsC (rdV 2) args0))))) t5
    (sE (call_ok (argsC_ok (rd_ok rfl) (args2_ok rfl (rd_ok rfl))) em) rfl) ⟨n, m, by omega, ⟨m0, m1⟩, rfl⟩ ⟨n, 1, by omega, by decide, rfl⟩
  refine one s5 ?_
  have t6 : toB (bin2 eqS (bin2 modI (callE intB (argsC (rdV 3) args0)) (fun _ => .ok (.int 2))) (fun _ => .ok (.int 1))) (drE xs f4 b4' c8 g (.val (.int n5)) (.val (.int d5))) = .ok (decide (c8 % 2 = 1)) := toB_ok (bin_ok (bin_ok (call_ok (args1_ok (rd_ok rfl)) (intB_int _)) rfl (modI_int (by decide))) rfl (eqS_int _ _))
  obtain ⟨_, s6, n6, d6, hn6, hd6, rfl⟩ := ite_two (P := P2) (e' := drE xs f4 b4' c8 g (.val (.int (-n5))) (.val (.int d5))) (f := setF 5 (un1 negI (rdV 5))) t6 (sE (un_ok (rd_ok rfl) (negI_int _)) rfl) ⟨-n5, d5, by omega, hd5, rfl⟩ ⟨n5, d5, hn5, hd5, rfl⟩
  refine one s6 ?_
  have t7 : toB (bin2 eqS (bin2 modI (callE intB (argsC (bin2 fdivI (rdV 3) (fun _ => .ok (.int 2))) args0)) (fun _ => .ok (.int 9))) (fun _ => .ok (.int 4))) (drE xs f4 b4' c8 g (.val (.int n6)) (.val (.int d6))) = .ok (decide (c8 / 2 % 9 = 4)) := toB_ok (bin_ok (bin_ok (call_ok (args1_ok (bin_ok (rd_ok rfl) rfl (fdivI_int (by decide) (by decide +kernel)))) (intB_int _)) rfl (modI_int (by decide))) rfl (eqS_int _ _))
  obtain ⟨_, s7, n7, d7, hn7, hd7, rfl⟩ := ite_two (P := P2) (e' := drE xs f4 b4' c8 g (.val (.int 0)) (.val (.int d6))) (f := setF 5 (fun _ => .ok (.int 0))) t7 rfl ⟨0, d6, by decide, hd6, rfl⟩ ⟨n6, d6, hn6, hd6, rfl⟩
  refine one s7 ?_
  have w : (10 : Nat) ^ 42 ≤ 2 ^ 300 := by decide +kernel
  refine ⟨Rat.divInt n7 d7, Bp.sm_divInt (by omega) (Nat.lt_of_lt_of_le hn7 w) (Nat.lt_of_lt_of_le (show d7.natAbs < 10 ^ 42 by omega) w), An.retO (call_ok (args2_ok (rd_ok rfl) (rd_ok rfl)) (low_ok hd7.1 ?_))⟩
  exact Nat.lt_of_lt_of_le (show d7.natAbs < 10 ^ 42 by omega) (by decide +kernel)
end J

namespace J
open PySem.Spec PySem
open Bp (Sm)
open SX (S)
theorem prI_inj {m n : Int} (h : prI m = prI n) : m = n := by
  have a := (prI_cut m).1
  have b := (prI_cut n).1
  rw [h] at a
  rw [← a, b]
theorem pr_inj {r a : Rat} (h : pr r = pr a) : r = a := by
  unfold pr at h
  by_cases z : r.den = 1
  · rw [if_pos z] at h
    by_cases w : a.den = 1
    · rw [if_pos w] at h
      exact Rat.ext (prI_inj h) (by rw [z, w])
    · rw [if_neg w] at h
      exact absurd (show 47 ∈ prI r.num by rw [h]; simp) (prI_no47 _)
  · rw [if_neg z] at h
    by_cases w : a.den = 1
    · rw [if_pos w] at h
      exact absurd (show 47 ∈ prI a.num by rw [← h]; simp) (prI_no47 _)
    · rw [if_neg w] at h
      obtain ⟨e1, e2⟩ := cut_one (prI_no47 _) (prI_no47 _) h
      exact Rat.ext (prI_inj e1) (TL.numL_inj e2)
theorem nE {d : Env → R PV} {e : Env} {q : Rat} (h : d e = .ok (.fr q)) : numE d e = .ok (.int q.num) := by unfold numE; rw [h]; rfl
theorem dE {d : Env → R PV} {e : Env} {q : Rat} (h : d e = .ok (.fr q)) : denE d e = .ok (.int q.den) := by unfold denE; rw [h]; rfl
theorem as_ok (q : Rat) : f_as_frac [.fr q] = .ok (.fr q) := by
  unfold f_as_frac p_as_frac
  refine An.fn rfl ?_
  simp only [env0, List.length_cons, List.length_nil, List.map_cons, List.map_nil, List.cons_append, List.nil_append, List.replicate, Nat.reduceAdd, Nat.reduceSub]
  exact An.iteX (toB_ok (un_ok (rd_ok rfl) rfl)) (An.retO (rd_ok rfl))
theorem mul_sm {p q : Rat} (hp : Sm 300 p) (hq : Sm 300 q) : (p.num * q.num).natAbs < 2 ^ 600 ∧ ((p.den : Int) * q.den).natAbs < 2 ^ 600 ∧ ((p.den : Int) * q.den) ≠ 0 ∧ Sm 600 (p * q) := by
  have h1 : (p.num * q.num).natAbs < 2 ^ 600 := Bp.imul_lt (a := 300) (b := 300) hp.1 hq.1
  have h2 : ((p.den : Int) * q.den).natAbs < 2 ^ 600 := Bp.imul_lt (a := 300) (b := 300) hp.2 hq.2
  have h3 : ((p.den : Int) * q.den) ≠ 0 := den2n
  refine ⟨h1, h2, h3, ?_⟩
  rw [← Bp.mul_is]
  exact Bp.sm_divInt h3 h1 h2
theorem fmul_ok {p q : Rat} (hp : Sm 300 p) (hq : Sm 300 q) : f_Frac_mul [.fr p, .fr q] = .ok (.fr (p * q)) := by
  obtain ⟨h1, h2, h3, _⟩ := mul_sm hp hq
  unfold f_Frac_mul p_Frac_mul
  refine An.fn rfl ?_
  simp only [env0, List.length_cons, List.length_nil, List.map_cons, List.map_nil, List.cons_append, List.nil_append, List.replicate, Nat.reduceAdd, Nat.reduceSub]
  refine An.iteX (no_ok (un_ok (rd_ok rfl) rfl)) (An.set (p := .fr q) (call_ok (args1_ok (rd_ok rfl)) (as_ok q)) (An.retO ?_))
  rw [mkF2_ok (n := p.num * q.num) (d := p.den * q.den) (args2_ok (bin_ok (nE (rd_ok rfl)) (nE (rd_ok rfl)) (mulI_int (big hp.1) (big hq.1))) (bin_ok (dE (rd_ok rfl)) (dE (rd_ok rfl)) (mulI_int (big (n := 300) hp.2) (big (n := 300) hq.2)))) h3 (Nat.lt_of_lt_of_le h2 (Bp.pow_le (by decide))), Bp.mul_is]
theorem qmul_ok {p q : Rat} (hp : Sm 300 p) (hq : Sm 300 q) : qMult_I_LFrac (.fr p) (.fr q) = .ok (.fr (p * q)) := by
  unfold qMult_I_LFrac alt ownL
  rw [if_pos (show (isC 0 (PV.fr p) && (isC 0 (PV.fr q) || isInt (PV.fr q))) = true from rfl), fmul_ok hp hq]
  rfl
theorem qmul_int {a b : Int} (ha : a.natAbs < 2 ^ 400000) (hb : b.natAbs < 2 ^ 400000) : qMult_I_LFrac (.int a) (.int b) = .ok (.int (a * b)) := by
  unfold qMult_I_LFrac alt
  rw [mulI_int ha hb]
theorem neg_ok {p : Rat} (hp : Sm 300 p) : altU negI (unO 0 f_Frac_neg) (.fr p) = .ok (.fr (-p)) := by
  have e : f_Frac_neg [.fr p] = .ok (.fr (-p)) := by
    unfold f_Frac_neg p_Frac_neg
    refine An.fn rfl ?_
    simp only [env0, List.length_cons, List.length_nil, List.map_cons, List.map_nil, List.cons_append, List.nil_append, List.replicate, Nat.reduceAdd, Nat.reduceSub]
    refine An.retO ?_
    rw [mkF2_ok (n := -p.num) (d := p.den) (args2_ok (un_ok (nE (rd_ok rfl)) (negI_int _)) (dE (rd_ok rfl))) (Bp.den_ne p) (Nat.lt_of_lt_of_le (show ((p.den : Int)).natAbs < 2 ^ 300 from hp.2) (Bp.pow_le (by decide))), Bp.neg_is]
  unfold altU unO
  show (if isC 0 (PV.fr p) = true then _ else _) = _
  rw [if_pos (show isC 0 (PV.fr p) = true from rfl), e]
theorem sq_tq {p : Rat} : PV.tup [.int (p.num * p.num), .int ((p.den : Int) * p.den)] = tq (p * p) := by
  have e : p * p = p ^ 2 := by rw [Rat.pow_succ, Rat.pow_succ, Rat.pow_zero, Rat.one_mul]
  unfold tq
  rw [e, Rat.num_pow, Rat.den_pow]
  congr 3
  · simp [Int.pow_succ]
  · congr 2
    simp [Nat.pow_succ]
theorem tq_neg (p : Rat) : PV.tup [.int (-p.num), .int p.den] = tq (-p) := rfl
end J

namespace J
open PySem.Spec PySem
open Bp (Sm)
open SX (S)
theorem sm_up {n m : Nat} {r : Rat} (h : Sm n r) (k : n ≤ m) : Sm m r := ⟨Nat.lt_of_lt_of_le h.1 (Bp.pow_le k), Nat.lt_of_lt_of_le h.2 (Bp.pow_le k)⟩
theorem rd_text {e : Env} {d : Env → R PV} {r : Rat} (h : d e = .ok (tq r)) (hs : Sm 1900 r) : callE f_law_text (argsC d args0) e = .ok (.str (S (pr r))) := call_ok (args1_ok h) (text_ok hs)
theorem rd_reads {e : Env} {d : Env → R PV} {r : Rat} (h : d e = .ok (tq r)) (hs : Sm 1900 r) : callE f_law_reads (argsC (callE f_law_text (argsC d args0)) args0) e = .ok (.bl true) :=
  call_ok (args1_ok (rd_text h hs)) (reads_ok (asc_pr r) (Nat.le_trans (pr_len hs) (by decide)))
theorem two_ok {e : Env} {d u : Env → R PV} {r : Rat} (h : d e = .ok (.fr r)) (k : u e = .ok (tq r)) (hs : Sm 1900 r) : orT (toB (bin2 neS (callE (strO 0 f_Frac_str) (argsC d args0)) (callE f_law_text (argsC u args0)))) (notT (toB (callE f_law_reads (argsC (callE f_law_text (argsC u args0)) args0)))) e = .ok false :=
  orT_ok (toB_ok (bin_ok (strO_ok (args1_ok h) hs) (rd_text k hs) ((neS_S _ _).trans (by rw [decide_eq_true rfl]; rfl)))) (no_ok (rd_reads k hs))
theorem altI (n : Int) : altU negI (unO 0 f_Frac_neg) (.int n) = .ok (.int (-n)) := rfl
theorem writes_ok {a b : Rat} (ha : Sm 300 a) (hb : Sm 300 b) : f_law_writes [tq a, tq b] = .ok (.bl true) := by
  have sa := sm_up ha (show 300 ≤ 1900 by decide)
  obtain ⟨m1, m2, m3, m4⟩ := mul_sm ha hb
  obtain ⟨q1, q2, q3, q4⟩ := mul_sm ha ha
  have hl : (pr a).length ≤ 10000000 := Nat.le_trans (pr_len sa) (by decide)
  unfold f_law_writes p_law_writes
  refine An.fn rfl ?_
  simp only [env0, List.length_cons, List.length_nil, List.map_cons, List.map_nil, List.cons_append, List.nil_append, List.replicate, Nat.reduceAdd, Nat.reduceSub]
  refine An.set (p := .str (S (pr a))) (rd_text (rd_ok rfl) sa) ?_
  rcases both (asc_pr a) hl with ⟨r, e1, e2, e3, e4⟩ | ⟨e1, e2⟩
  · have er : r = a := pr_inj e2
    subst er
    refine An.iteX (toB_ok (bin_ok (call_ok (args1_ok (rd_ok rfl)) e4) rfl rfl)) ?_
    refine An.set (p := .fr r) (call_ok (args1_ok (rd_ok rfl)) e1) ?_
    refine An.set (p := tq (r * b)) (call_ok (args2_ok (bin_ok (bin_ok (rd_ok rfl) rfl (ixT0 r)) (bin_ok (rd_ok rfl) rfl (ixT0 b)) (qmul_int (big ha.1) (big hb.1))) (bin_ok (bin_ok (rd_ok rfl) rfl (ixT1 r)) (bin_ok (rd_ok rfl) rfl (ixT1 b)) (qmul_int (big (n := 300) ha.2) (big (n := 300) hb.2)))) ?_) ?_
    · rw [low_ok (by have := r.den_pos; have := b.den_pos; exact Int.mul_pos (by omega) (by omega)) (Nat.lt_of_lt_of_le m2 (Bp.pow_le (by decide))), Bp.mul_is]
    refine An.set (p := .fr (r * b)) (bin_ok (rd_ok rfl) ((mkF2_ok (n := b.num) (d := b.den) (args2_ok (bin_ok (rd_ok rfl) rfl (ixT0 b)) (bin_ok (rd_ok rfl) rfl (ixT1 b))) (Bp.den_ne b) (Nat.lt_of_lt_of_le (show ((b.den : Int)).natAbs < 2 ^ 300 from hb.2) (Bp.pow_le (by decide)))).trans (by rw [Bp.divInt_self])) (qmul_ok ha hb)) ?_
    refine An.iteX (two_ok (rd_ok rfl) (rd_ok rfl) (sm_up m4 (by decide))) ?_
    refine An.set (p := tq (r * r)) ((tup2_ok (bin_ok (bin_ok (rd_ok rfl) rfl (ixT0 r)) (bin_ok (rd_ok rfl) rfl (ixT0 r)) (qmul_int (big ha.1) (big ha.1))) (bin_ok (bin_ok (rd_ok rfl) rfl (ixT1 r)) (bin_ok (rd_ok rfl) rfl (ixT1 r)) (qmul_int (big (n := 300) ha.2) (big (n := 300) ha.2)))).trans (by rw [sq_tq])) ?_
    refine An.iteX (two_ok (bin_ok (rd_ok rfl) (rd_ok rfl) (qmul_ok ha ha)) (rd_ok rfl) (sm_up q4 (by decide))) ?_
    have sn : Sm 1900 (-r) := ⟨by rw [rnum_neg, Int.natAbs_neg]; exact sa.1, by rw [rden_neg]; exact sa.2⟩
    refine An.iteX (toB_ok (bin_ok (strO_ok (r := -r) (args1_ok (un_ok (rd_ok rfl) (neg_ok ha))) sn) (rd_text (r := -r) ((tup2_ok (un_ok (bin_ok (rd_ok rfl) rfl (ixT0 r)) (altI _)) (bin_ok (rd_ok rfl) rfl (ixT1 r))).trans (by rw [tq_neg])) sn) ((neS_S _ _).trans (by rw [decide_eq_true rfl]; rfl)))) ?_
    exact An.retO (andV_ok (bin_ok (strO_ok (args1_ok (rd_ok rfl)) sa) (rd_ok rfl) ((eqS_S _ _).trans (by rw [decide_eq_true rfl]))) (call_ok (args2_ok (rd_ok rfl) (rd_ok rfl)) (is_ok r)))
  · exact An.iteT (toB_ok (bin_ok (call_ok (args1_ok (rd_ok rfl)) e2) rfl rfl)) (An.retSO rfl)
end J

namespace J
open PySem.Spec PySem
open Bp (Sm)
open SX (S)
theorem fold_mem (l : Array Nat) : ∀ (k : Nat) (acc : Array Nat) (c : Nat), c ∈ ((List.replicate k l).foldl (· ++ ·) acc).toList → c ∈ acc.toList ∨ c ∈ l.toList := by
  intro k
  induction k with
  | zero => intro acc c h; exact .inl h
  | succ k ih =>
    intro acc c h
    rw [List.replicate_succ, List.foldl_cons] at h
    rcases ih _ c h with h | h
    · rw [Array.toList_append] at h
      exact List.mem_append.mp h
    · exact .inr h
theorem sevens {n : Int} (h0 : 2 ≤ n) (h1 : n ≤ 20000) : ∃ p, mulX (.str "7") (.int n) = .ok p ∧ TxV 20000 p := by
  have l1 : ("7" : Str).length = 1 := by decide +kernel
  refine ⟨.str (repX "7" n), ?_, (repX "7" n).cps.toList, by rw [SX.S_tl], ?_, ?_⟩
  · unfold mulX
    simp only
    rw [if_pos ⟨by omega, by omega, by rw [l1]; omega⟩]
  · intro c hc
    unfold repX at hc
    rw [if_neg (by omega), if_neg (by rw [l1]; simp; omega)] at hc
    rcases fold_mem _ _ _ c hc with h | h
    · simp at h
    · have e : (("7" : Str).cps.toList) = [55] := by decide +kernel
      rw [e] at h
      rw [List.mem_singleton.mp h]
      decide
  · unfold repX
    rw [if_neg (by omega), if_neg (by rw [l1]; simp; omega)]
    show ((List.replicate n.toNat ("7" : Str).cps).foldl (· ++ ·) #[]).size ≤ 20000
    rw [fold_size]
    have e : ("7" : Str).cps.size = 1 := l1
    rw [e]
    show 0 + _ ≤ _
    omega
theorem ix_sign {a : List Nat} {i : Int} (ha : Asc a) (h0 : 0 ≤ i) (h1 : i < a.length) (hl : a.length ≤ sizeLine) : ∃ c, c < 128 ∧ ixX (.str (S a)) (.int i) = .ok (.str (S [c])) := by
  obtain ⟨j, rfl⟩ : ∃ j : Nat, i = j := ⟨i.toNat, by omega⟩
  have hj : j < a.length := by omega
  refine ⟨a[j], ha _ (List.getElem_mem hj), ?_⟩
  unfold ixX
  simp only [SX.S_len, if_pos hl]
  have e : L2.atI (S a).cps.toList (j : Int) = some a[j] := by
    show L2.atI a (j : Int) = some a[j]
    unfold L2.atI L2.ixN
    rw [if_pos (by omega), if_pos (by omega)]
    simp [hj]
  rw [e]
theorem signs : ("0123456789-+/ ._aeE\n" : Str) = S [48, 49, 50, 51, 52, 53, 54, 55, 56, 57, 45, 43, 47, 32, 46, 95, 97, 101, 69, 10] := by decide +kernel
theorem readsV {e : Env} {d : Env → R PV} {p : PV} {n : Nat} (h : d e = .ok p) (v : TxV n p) (hn : n ≤ 10000000) : callE f_law_reads (argsC d args0) e = .ok (.bl true) := by
  obtain ⟨x, rfl, a, l⟩ := v
  exact call_ok (args1_ok h) (reads_ok a (by omega))
abbrev lwE (s : List Int) (v : Rat) (a b c d e f g : Sl) : Env := [.val (scr s), .val (tq v), a, b, c, d, e, f, g]
theorem cellK (s : List Int) {e : Env} {j : Int} (d : Env → R PV) (hd : d e = .ok (.int j)) (h0 : Env.at e 0 = .val (scr s)) (j0 : 0 ≤ j) (j1 : j ≤ 1000) : ∃ c : Int, 0 ≤ c ∧ c < 10 ^ 18 ∧ callE f_law_cell (argsC (rdV 0) (argsC d args0)) e = .ok (.int c) := by
  obtain ⟨c, a, b, h⟩ := cellI s j0 j1
  exact ⟨c, a, b, call_ok (args2_ok (rd_ok h0) hd) h⟩
theorem lap_ok (s : List Int) {v : Rat} (hv : Sm 300 v) {k : Nat} (hk : k < 8) {b c d e f g : Sl} : ∃ b' c' d', lb_law_1 (lwE s v (.val (.int k)) b c d e f g) = .nx (lwE s v (.val (.int k)) b' c' d' e f g) := by
  have kk : ∀ (o : Int) (b c d : Sl), bin2 addI (fun _ => .ok (.int o)) (bin2 mulI (fun _ => .ok (.int 3)) (rdV 2)) (lwE s v (.val (.int k)) b c d e f g) = .ok (.int (o + 3 * k)) := fun o b c d => bin_ok rfl (bin_ok rfl (rd_ok rfl) (mulI_int (by decide +kernel) (small (n := 9) (by omega) (by decide +kernel)))) (addI_int _ _)
  obtain ⟨c9, a9, b9, e9⟩ := cellK s (e := lwE s v (.val (.int k)) b c d e f g) _ (kk 9 b c d) rfl (by omega) (by omega)
  obtain ⟨c11, a11, b11, e11⟩ := cellK s (e := lwE s v (.val (.int k)) (.val (.int (c9 % 22))) c d e f g) _ (kk 11 _ c d) rfl (by omega) (by omega)
  obtain ⟨ch, hch, ech⟩ := ix_sign (a := [48, 49, 50, 51, 52, 53, 54, 55, 56, 57, 45, 43, 47, 32, 46, 95, 97, 101, 69, 10]) (i := c11 % 20) (by unfold Asc; decide) (by omega) (by simp; omega) (by decide)
  obtain ⟨c10, a10, b10, e10⟩ := cellK s (e := lwE s v (.val (.int k)) (.val (.int (c9 % 22))) (.val (.str (S [ch]))) d e f g) _ (kk 10 _ _ d) rfl (by omega) (by omega)
  obtain ⟨p, ep, tp⟩ := spoilt_ok (r := v) (kind := c9 % 22) (place := c10) (c := ch) hv (by omega) (by omega) a10 hch
  refine ⟨.val (.int (c9 % 22)), .val (.str (S [ch])), .val p, ?_⟩
  have sE : ∀ {i : Nat} {d : Env → R PV} {e e' : Env} {p : PV}, d e = .ok p → List.set e i (.val p) = e' → setF i d e = .nx e' := fun h he => by unfold setF liftF; rw [h]; exact congrArg F.nx he
  unfold lb_law_1
  refine seq_to (sE (e' := lwE s v (.val (.int k)) (.val (.int (c9 % 22))) c d e f g) (bin_ok (call_ok (args1_ok e9) (intB_int _)) rfl (modI_int (by decide))) rfl) ?_
  refine seq_to (sE (e' := lwE s v (.val (.int k)) (.val (.int (c9 % 22))) (.val (.str (S [ch]))) d e f g) (bin_ok rfl (bin_ok (call_ok (args1_ok e11) (intB_int _)) rfl (modI_int (by decide))) (by rw [signs]; exact ech)) rfl) ?_
  refine seq_to (sE (e' := lwE s v (.val (.int k)) (.val (.int (c9 % 22))) (.val (.str (S [ch]))) (.val p) e f g) (call_ok (argsC_ok (rd_ok rfl) (argsC_ok (rd_ok rfl) (args2_ok e10 (rd_ok rfl)))) ep) rfl) ?_
  exact ite_n (orT_ok (no_ok (readsV (rd_ok rfl) tp (by decide))) (no_ok (readsV (rd_ok rfl) tp (by decide)))) rfl
end J

namespace J
open PySem.Spec PySem
open Bp (Sm)
open SX (S)
theorem p12 : powI (.int 10) (.int 12) = .ok (.int (10 ^ 12)) := powI_int (by decide) (by decide)
theorem cut63 (xs : List Int) : ∃ s : List Int, sliceE (rdV 0) noB (someB (fun _ => .ok (.int 63))) (env0 9 [scr xs]) = .ok (scr s) := by
  refine ⟨(xs.drop (HT.sIx xs.length 0 none)).take (HT.sIx xs.length xs.length (some 63) - HT.sIx xs.length 0 none), ?_⟩
  show R.ok (PV.lst (cutP (xs.map .int) none (some 63))) = _
  unfold cutP
  rw [List.length_map, ← List.map_drop, ← List.map_take]
theorem law_ok (xs : List Int) : f_law [scr xs] = .ok (.bl true) := by
  obtain ⟨s, es⟩ := cut63 xs
  obtain ⟨v, hv, ev⟩ := drawn_ok s
  have sv := sm_up hv (show 300 ≤ 1900 by decide)
  obtain ⟨c34, a34, b34, e34⟩ := cellI s (k := 34) (by decide) (by decide)
  obtain ⟨c33, a33, b33, e33⟩ := cellI s (k := 33) (by decide) (by decide)
  obtain ⟨c35, a35, b35, e35⟩ := cellI s (k := 35) (by decide) (by decide)
  unfold f_law p_law
  refine An.fn rfl ?_
  have one : ∀ {f g : Env → F} {e e' : Env} {r : R PV}, f e = .nx e' → Ans (g e') r → Ans (seqF f g e) r := fun h a => An.to h a
  have sE : ∀ {i : Nat} {d : Env → R PV} {e e' : Env} {p : PV}, d e = .ok p → List.set e i (.val p) = e' → setF i d e = .nx e' := fun h he => by unfold setF liftF; rw [h]; exact congrArg F.nx he
  refine one (sE (e' := [.val (scr s), .no, .no, .no, .no, .no, .no, .no, .no]) es rfl) ?_
  refine An.iteX (no_ok (call_ok (args2_ok rfl rfl) (integer_ok 40))) ?_
  refine one (sE (e' := lwE s v .no .no .no .no .no .no .no) (call_ok (args1_ok (rd_ok rfl)) ev) rfl) ?_
  refine An.iteX (no_ok (rd_reads (rd_ok rfl) sv)) ?_
  obtain ⟨e', k1, a, b, c, d, rfl⟩ := forP_inv (bn := bdN 2) (body := lb_law_1) (fun _ e => ∃ a b c d : Sl, e = lwE s v a b c d .no .no .no) (rngL 0 8) 0 (lwE s v .no .no .no .no .no .no .no) ⟨.no, .no, .no, .no, rfl⟩ fun j p e hj ⟨a, b, c, d, he⟩ => by
    obtain ⟨j8, rfl⟩ := rng_get hj
    subst he
    obtain ⟨b', c', d', h⟩ := lap_ok s hv (k := j) (b := b) (c := c) (d := d) (e := .no) (f := .no) (g := .no) j8
    exact ⟨_, _, rfl, .inl h, .val (.int j), b', c', d', rfl⟩
  refine one (forE_ok (l := rngL 0 8) (rngE (n := 8) rfl (by decide)) k1) ?_
  refine one (sE (e' := lwE s v a b c d (.val (.int (c34 % 10 ^ 12 + 1))) .no .no) (bin_ok (bin_ok (call_ok (args1_ok (call_ok (args2_ok (rd_ok rfl) rfl) e34)) (intB_int _)) (bin_ok rfl rfl p12) (modI_int (by decide))) rfl (addI_int _ _)) rfl) ?_
  have n0 : 0 ≤ c33 % (2 * 10 ^ 12 + 1) := Int.emod_nonneg _ (by decide)
  have n1 : c33 % (2 * 10 ^ 12 + 1) < 2 * 10 ^ 12 + 1 := Int.emod_lt_of_pos _ (by decide)
  have m0 : 0 ≤ c34 % 10 ^ 12 := Int.emod_nonneg _ (by decide)
  have m1 : c34 % 10 ^ 12 < 10 ^ 12 := Int.emod_lt_of_pos _ (by decide)
  have en : bin2 subI (bin2 modI (callE intB (argsC (callE f_law_cell (argsC (rdV 0) (argsC (fun _ => .ok (.int 33)) args0))) args0)) (bin2 addI (bin2 mulI (fun _ => .ok (.int 2)) (bin2 powI (fun _ => .ok (.int 10)) (fun _ => .ok (.int 12)))) (fun _ => .ok (.int 1)))) (bin2 powI (fun _ => .ok (.int 10)) (fun _ => .ok (.int 12))) (lwE s v a b c d (.val (.int (c34 % 10 ^ 12 + 1))) .no .no) = .ok (.int (c33 % (2 * 10 ^ 12 + 1) - 10 ^ 12)) :=
    bin_ok (bin_ok (call_ok (args1_ok (call_ok (args2_ok (rd_ok rfl) rfl) e33)) (intB_int _)) (bin_ok (bin_ok rfl (bin_ok rfl rfl p12) (mulI_int (by decide +kernel) (by decide +kernel))) rfl (addI_int _ _)) (modI_int (by decide))) (bin_ok rfl rfl p12) (subI_int _ _)
  generalize hN : c33 % (2 * 10 ^ 12 + 1) - 10 ^ 12 = N at *
  generalize hM : c34 % 10 ^ 12 + 1 = M at *
  have Nb : N.natAbs < 2 ^ 300 := Nat.lt_of_le_of_lt (show N.natAbs ≤ 10 ^ 12 + 1 by omega) (by decide +kernel)
  have Mp : 0 < M := by omega
  have Mb : M.natAbs < 2 ^ 300 := Nat.lt_of_le_of_lt (show M.natAbs ≤ 10 ^ 12 by omega) (by decide +kernel)
  have ho : Sm 300 (Rat.divInt N M) := Bp.sm_divInt (by omega) Nb Mb
  have el : f_law_low [.int N, .int M] = .ok (tq (Rat.divInt N M)) := low_ok Mp (Nat.lt_of_lt_of_le Mb (Bp.pow_le (by decide)))
  generalize Rat.divInt N M = o at *
  have so := sm_up ho (show 300 ≤ 1900 by decide)
  refine one (sE (e' := lwE s v a b c d (.val (.int M)) (.val (tq o)) .no) (call_ok (args2_ok en (rd_ok rfl)) el) rfl) ?_
  have mo : ∀ g : Sl, mkF2 2 (argsC (bin2 ixP (rdV 7) (fun _ => .ok (.int 0))) (argsC (bin2 ixP (rdV 7) (fun _ => .ok (.int 1))) args0)) (lwE s v a b c d (.val (.int M)) (.val (tq o)) g) = .ok (.fr o) := fun g =>
    (mkF2_ok (n := o.num) (d := o.den) (args2_ok (bin_ok (rd_ok rfl) rfl (ixT0 o)) (bin_ok (rd_ok rfl) rfl (ixT1 o))) (Bp.den_ne o) (Nat.lt_of_lt_of_le (show ((o.den : Int)).natAbs < 2 ^ 300 from ho.2) (Bp.pow_le (by decide)))).trans (by rw [Bp.divInt_self])
  refine An.iteX (toB_ok (bin_ok (strO_ok (args1_ok (mo .no)) so) (rd_text (rd_ok rfl) so) ((neS_S _ _).trans (by rw [decide_eq_true rfl]; rfl)))) ?_
  have g0 : 0 ≤ c35 % 19000 := Int.emod_nonneg _ (by decide)
  have g1 : c35 % 19000 < 19000 := Int.emod_lt_of_pos _ (by decide)
  obtain ⟨p, ep, tp⟩ := sevens (n := 41 + c35 % 19000) (by omega) (by omega)
  refine one (sE (e' := lwE s v a b c d (.val (.int M)) (.val (tq o)) (.val p)) (bin_ok rfl (bin_ok rfl (bin_ok (call_ok (args1_ok (call_ok (args2_ok (rd_ok rfl) rfl) e35)) (intB_int _)) rfl (modI_int (by decide))) (addI_int _ _)) ep) rfl) ?_
  obtain ⟨q, eq, tq'⟩ := (TxE.cat (e := lwE s v a b c d (.val (.int M)) (.val (tq o)) (.val p)) (d := fun _ => .ok (.str "1/")) (u := rdV 8) (n := 2) (m := 20000) (TxE.lit (by decide +kernel)) (TxE.rd rfl tp) (by decide)).val
  refine An.iteX (orT_ok (no_ok (readsV (rd_ok rfl) tp (by decide))) (no_ok (readsV eq tq' (by decide)))) ?_
  exact An.retO (andV_ok (call_ok (args2_ok (rd_ok rfl) (rd_ok rfl)) (writes_ok hv ho)) (call_ok (args2_ok (rd_ok rfl) (rd_ok rfl)) (writes_ok ho ho)))
end J

namespace J
open PySem.Spec PySem PyProof.Rows
open L2 hiding St Takes XE CX takes_of PMk MkP ps_raise mk_of ps_try_as ps_try_many pmk_own passAt passes_call takes0 passL
open L2N hiding St
open Bp (takes0 passL OpS R2S IsI)
open Bp (s_wall s_BadNumber_init s_as_frac s_gap s_are_figures s_Frac_init s_Frac_read s_Frac_over s_Frac_floor s_Frac_ceiling s_Frac_is_whole s_Frac_str s_Frac_repr s_Frac_bool s_Frac_neg s_Frac_abs s_Frac_add s_Frac_radd s_Frac_sub s_Frac_rsub s_Frac_mul s_Frac_rmul s_Frac_floordiv s_Frac_rfloordiv s_Frac_mod s_Frac_rmod s_Frac_pow s_Frac_eq s_Frac_ne s_Frac_lt s_Frac_le s_Frac_gt s_Frac_ge s_law_cell s_law_gcd s_law_low s_law_number s_law_drawn s_law_text s_law_figures s_law_reading s_law_short s_law_spoilt s_law_integer s_law_is s_law_reads s_law_writes s_law c_wall c_BadNumber_init c_as_frac c_gap c_are_figures c_Frac_init c_Frac_read c_Frac_over c_Frac_floor c_Frac_ceiling c_Frac_is_whole c_Frac_str c_Frac_repr c_Frac_bool c_Frac_neg c_Frac_abs c_Frac_add c_Frac_radd c_Frac_sub c_Frac_rsub c_Frac_mul c_Frac_rmul c_Frac_floordiv c_Frac_rfloordiv c_Frac_mod c_Frac_rmod c_Frac_pow c_Frac_eq c_Frac_ne c_Frac_lt c_Frac_le c_Frac_gt c_Frac_ge c_law_cell c_law_gcd c_law_low c_law_number c_law_drawn c_law_text c_law_figures c_law_reading c_law_short c_law_spoilt c_law_integer c_law_is c_law_reads c_law_writes c_law)
theorem jdefX {P : Program} {w : World} {K : PySem.W.Frag} {mg : Str → Option Value} {base : Heap} {G : Gb} {x : Str} {st : Stmt} {ps N : List Str} {k : Nat} {d : Env → F} {ff : Addr} {fd : FuncData} (FF : L2.Fun K x x st ff fd) (S : FnScope N ps (defScope st))
    (h : ∀ (f : Addr) (cdv : Value) (A : Around) (outer : List PySem.Env) (s : Shared) (H : Hp) (E : XK), Room k (A.deeper (envOfC x (defScope st) s.heap.objs.size f cdv)) → JSs ⟨G, none, none⟩ (cxOf (L2N.CX P w) P w K mg base N x (defScope st) f cdv A outer s H E) (WD E) (defBody st) d) :
    FnOk P w K mg base (L2N.CX P w) (k + 1) ff fd ps (spJ G (fnJ ps.length N.length d)) := Bp.okN FF S len_ok fun cdv A outer s H vs Q E hr q => body_ok (h ff cdv A outer s H E hr) q
theorem d_law_at {P : Program} {w : World} {K : PySem.W.Frag} {mg : Str → Option Value} {base : Heap} {cm : Nat → Addr} (T : TX mg ⟨K, cm⟩) {ff : Addr} {fd : FuncData} (FF : L2.Fun K "law" "law" s_law ff fd) : FnOk P w K mg base (L2N.CX P w) 7 ff fd ["script"] (spJ ⟨K, cm⟩ f_law) := jdefX FF c_law fun f cdv A outer s H E hr => (jss_cons (js_set 0 c_law.nd (je_slice rfl (je_var 0) jo_none (jo_some je_int)))
      (jss_cons (js_if (jt_not (jt_val (je_call (d_law_integer T) (hr.mono (by decide)) (takes_of rfl rfl rfl rfl) (ja_cons (je_cint T.ci_Frac_MOST_FIGURES) (ja_cons je_int ja_nil)))))
      (jss_one (js_ret je_bl))
      jss_nil)
      (jss_cons (js_set 1 c_law.nd (je_call (d_law_drawn T) (hr.mono (by decide)) (takes_of rfl rfl rfl rfl) (ja_cons (je_var 0) ja_nil)))
      (jss_cons (js_if (jt_not (jt_val (je_call (d_law_reads T) (hr.mono (by decide)) (takes_of rfl rfl rfl rfl) (ja_cons (je_call (d_law_text T) (hr.mono (by decide)) (takes_of rfl rfl rfl rfl) (ja_cons (je_var 1) ja_nil)) ja_nil))))
      (jss_one (js_ret je_bl))
      jss_nil)
      (jss_cons (js_for (vs := [2]) (passes_of rfl) rfl (ji_rng1 T.b_range (ja_cons je_int ja_nil)) (jg_name 2 c_law.nd (by decide))
      (jss_cons (js_set 3 c_law.nd (je_op o_mod (je_callT b_int T.b_int (by decide +kernel) (ja_cons (je_call (d_law_cell T) (hr.mono (by decide)) (takes_of rfl rfl rfl rfl) (ja_cons (je_var 0) (ja_cons (je_op o_add je_int (je_op o_mul je_int (je_var 2))) ja_nil))) ja_nil)) je_int))
      (jss_cons (js_set 4 c_law.nd (je_ixX je_str (je_op o_mod (je_callT b_int T.b_int (by decide +kernel) (ja_cons (je_call (d_law_cell T) (hr.mono (by decide)) (takes_of rfl rfl rfl rfl) (ja_cons (je_var 0) (ja_cons (je_op o_add je_int (je_op o_mul je_int (je_var 2))) ja_nil))) ja_nil)) je_int)))
      (jss_cons (js_set 5 c_law.nd (je_call (d_law_spoilt T) (hr.mono (by decide)) (takes_of rfl rfl rfl rfl) (ja_cons (je_var 1) (ja_cons (je_var 3) (ja_cons (je_call (d_law_cell T) (hr.mono (by decide)) (takes_of rfl rfl rfl rfl) (ja_cons (je_var 0) (ja_cons (je_op o_add je_int (je_op o_mul je_int (je_var 2))) ja_nil))) (ja_cons (je_var 4) ja_nil))))))
      (jss_one (js_if (jt_w (jw_or (jt_not (jt_val (je_call (d_law_reads T) (hr.mono (by decide)) (takes_of rfl rfl rfl rfl) (ja_cons (je_var 5) ja_nil)))) (jw_or1 (jt_not (jt_val (je_call (d_law_reads T) (hr.mono (by decide)) (takes_of rfl rfl rfl rfl) (ja_cons (je_var 5) ja_nil)))))))
      (jss_one (js_ret je_bl))
      jss_nil))))))
      (jss_cons (js_set 6 c_law.nd (je_op o_add (je_op o_mod (je_callT b_int T.b_int (by decide +kernel) (ja_cons (je_call (d_law_cell T) (hr.mono (by decide)) (takes_of rfl rfl rfl rfl) (ja_cons (je_var 0) (ja_cons je_int ja_nil))) ja_nil)) (je_op o_pow je_int je_int)) je_int))
      (jss_cons (js_set 7 c_law.nd (je_call (d_law_low T) (hr.mono (by decide)) (takes_of rfl rfl rfl rfl) (ja_cons (je_op o_sub (je_op o_mod (je_callT b_int T.b_int (by decide +kernel) (ja_cons (je_call (d_law_cell T) (hr.mono (by decide)) (takes_of rfl rfl rfl rfl) (ja_cons (je_var 0) (ja_cons je_int ja_nil))) ja_nil)) (je_op o_add (je_op o_mul je_int (je_op o_pow je_int je_int)) je_int)) (je_op o_pow je_int je_int)) (ja_cons (je_var 6) ja_nil))))
      (jss_cons (js_if (jt_cmp o_ne (je_callT (b_strO (d_Frac_str T) rfl (hr.mono (by decide))) T.b_str (by decide +kernel) (ja_cons (je_mkF2 (T.fi) (hr.mono (by decide)) (takes_of rfl rfl rfl rfl) (ja_cons (je_ix rfl (je_var 7) je_int) (ja_cons (je_ix rfl (je_var 7) je_int) ja_nil))) ja_nil)) (je_call (d_law_text T) (hr.mono (by decide)) (takes_of rfl rfl rfl rfl) (ja_cons (je_var 7) ja_nil)))
      (jss_one (js_ret je_bl))
      jss_nil)
      (jss_cons (js_set 8 c_law.nd (je_op o_mulX je_str (je_op o_add je_int (je_op o_mod (je_callT b_int T.b_int (by decide +kernel) (ja_cons (je_call (d_law_cell T) (hr.mono (by decide)) (takes_of rfl rfl rfl rfl) (ja_cons (je_var 0) (ja_cons je_int ja_nil))) ja_nil)) je_int))))
      (jss_cons (js_if (jt_w (jw_or (jt_not (jt_val (je_call (d_law_reads T) (hr.mono (by decide)) (takes_of rfl rfl rfl rfl) (ja_cons (je_var 8) ja_nil)))) (jw_or1 (jt_not (jt_val (je_call (d_law_reads T) (hr.mono (by decide)) (takes_of rfl rfl rfl rfl) (ja_cons (je_op o_catX je_str (je_var 8)) ja_nil)))))))
      (jss_one (js_ret je_bl))
      jss_nil)
      (jss_one (js_ret (je_and (je_call (d_law_writes T) (hr.mono (by decide)) (takes_of rfl rfl rfl rfl) (ja_cons (je_var 1) (ja_cons (je_var 7) ja_nil))) (je_one (je_call (d_law_writes T) (hr.mono (by decide)) (takes_of rfl rfl rfl rfl) (ja_cons (je_var 7) (ja_cons (je_var 7) ja_nil)))))))))))))))))
end J

namespace J
open PySem.Spec PySem PyProof.Rows
open L2 hiding St Takes XE CX takes_of PMk MkP ps_raise mk_of ps_try_as ps_try_many pmk_own passAt passes_call takes0 passL
open L2N hiding St
open Bp (takes0 passL OpS R2S IsI com com_ne com_le num_com den_com pow_le)
/-! ### Frac.__init__ as text -/
structure IFx (K : PySem.W.Frag) (mg : Str → Option Value) (C Z : Addr) : Prop where
  cl : Cls K C
  nN : NoAttr K C "num"
  nD : NoAttr K C "den"
  gcd : mg "gcd" = some (.builtin "math.gcd")
  gZ : mg "DivisionByZero" = some (.ref Z)
  xZ : PySem.W.excIn K Z [.type "ValueError", .type "Exception", .type "BaseException", .type "object"] "ValueError.__new__" = true
  kZ : PySem.W.keepIn K (.ref Z) = true
  bZ : PySem.W.subIn K (.ref Z) (.type "BaseException") = some true
  tZ : PySem.W.typeIn K (.ref Z) = some (.type "type")
theorem fvZ {X : Cx} : OpR X (binaryOp .FloorDiv) (rI (fun _ j => j ≠ 0 ∧ j.natAbs.log2 < 9000) fun i j => .int (i.fdiv j)) := opI fun _ _ _ _ _ _ _ hc q => floordiv_int hc.1 q (.inl (PyProof.noPylong_of_log2 hc.2))
theorem lg_of {x b : Nat} (h : x < 2 ^ b) (hb : 0 < b) : x.log2 < b := PySem.Flt.log2_lt_of hb h
theorem ite_de {c A B : Prop} [Decidable c] (h1 : c → A) (h2 : ¬ c → B) : if decide c = true then A else B := by
  by_cases h : c
  · rw [decide_eq_true h, if_pos rfl]
    exact h1 h
  · rw [decide_eq_false h, if_neg Bool.false_ne_true]
    exact h2 h
theorem v_int {i j : Int} : (V.int i = V.int j) ↔ i = j := ⟨fun h => by injection h, fun h => by rw [h]⟩
theorem knx : ¬ (("num" : Str) = "den") := by decide +kernel
theorem frF_put (r : Rat) : putF "den" (.int (r.den : Int)) (putF "num" (.int r.num) []) = frF r := by
  show (if ("num" : Str) = "den" then _ else (("num" : Str), V.int r.num) :: putF "den" (V.int (r.den : Int)) []) = _
  rw [if_neg knx]
  rfl
theorem frac_init {P : Program} {w : World} {K : PySem.W.Frag} {mg : Str → Option Value} {base : Heap} {C Z : Addr} (T : IFx K mg C Z) {f : Addr} {fd : FuncData} (F : FunD K "__init__" "Frac.__init__" (defArgs Bp.s_Frac_init) (defBody Bp.s_Frac_init) (defScope Bp.s_Frac_init) [.int 0, .int 1] [] f fd) :
    FnOk P w K mg base (L2N.CX P w) 1 f fd ["self", "num", "den"] (spFI C Z) := by
  refine F.ok Bp.c_Frac_init (fun vs H Q E h => ?_) (fun cdv A outer s H vs Q E hr h => ?_)
  · obtain ⟨x, dx, n, d, rfl, _⟩ := h
    rfl
  · obtain ⟨x, dx, n, d, rfl, hx, hsz, kE, kQ⟩ := h
    refine ⟨_, pss_cons (ps_if (pt_cmpR op_eq (pv 2) pe_int (nomark _)) (pss_one (L2N.ps_raise rfl (L2N.takes_of rfl rfl rfl rfl) (pmk_plain PySem.F.excBase_ValueError T.xZ T.gZ T.kZ (raises_own T.bZ T.tZ) rfl))) pss_nil)
      (pss_cons (ps_set (i := 3) Bp.c_Frac_init.nd rfl (.inl rfl) (pe_callBfun cr_gcd rfl T.gcd (pa_cons (pv 1) (pa_cons (pv 2) pa_nil))))
      (pss_cons (ps_if (pt_cmpR op_lt (pv 2) pe_int (nomark _)) (pss_one (ps_set (i := 3) Bp.c_Frac_init.nd rfl (.inl rfl) (pe_un un_neg (pv 3)))) pss_nil)
      (pss_cons (ps_fld (pv 0) (pe_op fvZ (pv 1) (pv 3)) rfl)
      (pss_one (ps_fld (pv 0) (pe_op fvZ (pv 2) (pv 3)) rfl))))), ?_⟩
    refine ⟨_, rfl, rfl, _, rfl, ite_de (fun e => ?_) (fun e => ?_)⟩
    · exact kE (v_int.mp e)
    · have d0 : d ≠ 0 := fun z => e (by rw [z])
      have q := kQ d0
      have lc : (com n d).natAbs.log2 < 9000 := lg_of (Nat.lt_of_le_of_lt (com_le d0) (Nat.lt_of_lt_of_le hsz (pow_le (by decide)))) (by decide)
      have rest : ∀ z : V, z = .int (com n d) → (fun (D : Ends) (σ : L2.St) (H : Hp) => tSeq (sFld K (tVar 0) (tOp (rI (fun _ j => j ≠ 0 ∧ j.natAbs.log2 < 9000) fun i j => .int (i.fdiv j)) (tVar 1) (tVar 3)) "num")
          (sFld K (tVar 0) (tOp (rI (fun _ j => j ≠ 0 ∧ j.natAbs.log2 < 9000) fun i j => .int (i.fdiv j)) (tVar 2) (tVar 3)) "den") D σ H) { nx := fun _ H' => Q .non H', rt := Q } [some (.ref x), some (.int n), some (.int d), some z] H := by
        rintro z rfl
        refine ⟨_, rfl, _, rfl, _, _, rfl, rfl, ⟨com_ne d0, lc⟩, _, rfl, x, C, dx, [], rfl, hx, T.cl, T.nN, by decide, ?_⟩
        refine ⟨_, rfl, _, rfl, _, _, rfl, rfl, ⟨com_ne d0, lc⟩, _, rfl, x, C, dx, _, rfl, upd_same, T.cl, T.nD, (by show 1 < 1000; decide), ?_⟩
        dsimp only
        rw [num_com d0, den_com d0, frF_put, upd_upd]
        exact q _ upd_same fun b o hb e => by rw [upd_ne hb]; exact e
      refine ⟨_, rfl, _, rfl, n, d, rfl, ?_⟩
      refine ⟨_, rfl, _, _, rfl, rfl, _, rfl, ite_de (fun hd => ?_) (fun hd => ?_)⟩
      · exact ⟨_, rfl, _, rfl, rest _ (by unfold com; rw [if_pos hd])⟩
      · exact rest _ (by unfold com; rw [if_neg hd])
end J

namespace J
open PySem.Spec PySem PyProof.Rows
open L2 hiding St Takes XE CX takes_of PMk MkP ps_raise mk_of ps_try_as ps_try_many pmk_own passAt passes_call takes0 passL
open L2N hiding St
open Bp (takes0 passL OpS R2S IsI)

theorem e_it_int {p : Kd → Bool → Prop} (h0 : p (.non) false) (h1 : p (.bl) true) (h2 : p (.int) true) (h3 : p (.str) false) (h4 : p (.tup) false) (h5 : p (.lst) false) (h6 : p (.obj 0) false) : ∀ k b, it_int k = some b → p k b := by
  intro k b h
  unfold it_int at h
  split at h
  · cases h; exact h0
  · cases h; exact h1
  · cases h; exact h2
  · cases h; exact h3
  · cases h; exact h4
  · cases h; exact h5
  · cases h; exact h6
  · cases h

theorem e_it_bool {p : Kd → Bool → Prop} (h0 : p (.non) false) (h1 : p (.bl) true) (h2 : p (.int) false) (h3 : p (.str) false) (h4 : p (.tup) false) (h5 : p (.lst) false) (h6 : p (.obj 0) false) : ∀ k b, it_bool k = some b → p k b := by
  intro k b h
  unfold it_bool at h
  split at h
  · cases h; exact h0
  · cases h; exact h1
  · cases h; exact h2
  · cases h; exact h3
  · cases h; exact h4
  · cases h; exact h5
  · cases h; exact h6
  · cases h

theorem e_cat_BestError {p : Nat → Bool → Prop} (h0 : p (3) true) (h1 : p (2) true) : ∀ k b, cat_BestError k = some b → p k b := by
  intro k b h
  unfold cat_BestError at h
  split at h
  · cases h; exact h0
  · cases h; exact h1
  · cases h

theorem e_xt_is_BadNumber {p : Nat → Bool → Prop} (h0 : p (3) true) (h1 : p (2) false) : ∀ k b, xt_is_BadNumber k = some b → p k b := by
  intro k b h
  unfold xt_is_BadNumber at h
  split at h
  · cases h; exact h0
  · cases h; exact h1
  · cases h

theorem e_xt_is_DivisionByZero {p : Nat → Bool → Prop} (h0 : p (3) false) (h1 : p (2) true) : ∀ k b, xt_is_DivisionByZero k = some b → p k b := by
  intro k b h
  unfold xt_is_DivisionByZero at h
  split at h
  · cases h; exact h0
  · cases h; exact h1
  · cases h

theorem e_xt_is_ValueError {p : Nat → Bool → Prop} (h0 : p (3) true) (h1 : p (2) true) : ∀ k b, xt_is_ValueError k = some b → p k b := by
  intro k b h
  unfold xt_is_ValueError at h
  split at h
  · cases h; exact h0
  · cases h; exact h1
  · cases h

theorem e_it_str {p : Kd → Bool → Prop} (h0 : p (.non) false) (h1 : p (.bl) false) (h2 : p (.int) false) (h3 : p (.str) true) (h4 : p (.tup) false) (h5 : p (.lst) false) (h6 : p (.obj 0) false) : ∀ k b, it_str k = some b → p k b := by
  intro k b h
  unfold it_str at h
  split at h
  · cases h; exact h0
  · cases h; exact h1
  · cases h; exact h2
  · cases h; exact h3
  · cases h; exact h4
  · cases h; exact h5
  · cases h; exact h6
  · cases h

theorem e_it_Frac {p : Kd → Bool → Prop} (h0 : p (.non) false) (h1 : p (.bl) false) (h2 : p (.int) false) (h3 : p (.str) false) (h4 : p (.tup) false) (h5 : p (.lst) false) (h6 : p (.obj 0) true) : ∀ k b, it_Frac k = some b → p k b := by
  intro k b h
  unfold it_Frac at h
  split at h
  · cases h; exact h0
  · cases h; exact h1
  · cases h; exact h2
  · cases h; exact h3
  · cases h; exact h4
  · cases h; exact h5
  · cases h; exact h6
  · cases h

theorem e_it_int_Frac {p : Kd → Bool → Prop} (h0 : p (.non) false) (h1 : p (.bl) true) (h2 : p (.int) true) (h3 : p (.str) false) (h4 : p (.tup) false) (h5 : p (.lst) false) (h6 : p (.obj 0) true) : ∀ k b, it_int_Frac k = some b → p k b := by
  intro k b h
  unfold it_int_Frac at h
  split at h
  · cases h; exact h0
  · cases h; exact h1
  · cases h; exact h2
  · cases h; exact h3
  · cases h; exact h4
  · cases h; exact h5
  · cases h; exact h6
  · cases h

theorem e_it_into {p : Nat → Prop} (h0 : p 0) : ∀ c b, it_int (.obj c) = some b → p c := by
  intro c b h
  unfold it_int at h
  split at h <;> first | (rename_i e; cases e; assumption) | (rename_i e; cases e) | cases h

theorem e_it_boolo {p : Nat → Prop} (h0 : p 0) : ∀ c b, it_bool (.obj c) = some b → p c := by
  intro c b h
  unfold it_bool at h
  split at h <;> first | (rename_i e; cases e; assumption) | (rename_i e; cases e) | cases h

theorem e_it_stro {p : Nat → Prop} (h0 : p 0) : ∀ c b, it_str (.obj c) = some b → p c := by
  intro c b h
  unfold it_str at h
  split at h <;> first | (rename_i e; cases e; assumption) | (rename_i e; cases e) | cases h

theorem e_it_Fraco {p : Nat → Prop} (h0 : p 0) : ∀ c b, it_Frac (.obj c) = some b → p c := by
  intro c b h
  unfold it_Frac at h
  split at h <;> first | (rename_i e; cases e; assumption) | (rename_i e; cases e) | cases h

theorem e_it_int_Fraco {p : Nat → Prop} (h0 : p 0) : ∀ c b, it_int_Frac (.obj c) = some b → p c := by
  intro c b h
  unfold it_int_Frac at h
  split at h <;> first | (rename_i e; cases e; assumption) | (rename_i e; cases e) | cases h

def cmOf (a0 a1 a2 a3 : Addr) : Nat → Addr := fun i => match i with | 0 => a0 | 1 => a1 | 2 => a2 | _ => a3
def spLaw (K : PySem.W.Frag) : Sp := fun vs H Q _ => ∃ (a : Addr) (ns : List Int), vs = [.ref a] ∧ SqL K H a (ns.map V.int) ∧ ∀ H', Q (.bl true) H'
theorem rep_ints {G : Gb} {H : Hp} (ns : List Int) : Reps G H (ns.map PV.int) (ns.map V.int) := by
  induction ns with
  | nil => exact .nil
  | cons n r h => exact .cons (.int n) h
theorem law_sp {G : Gb} {vs : List V} {H : Hp} {Q : VK} {E : XK} (h : spLaw G.K vs H Q E) : spJ G f_law vs H Q E := by
  obtain ⟨a, ns, rfl, hs, q⟩ := h
  refine ⟨H, [scr ns], Same.refl _, .cons (.lst hs (rep_ints ns)) .nil, ?_⟩
  rw [law_ok ns]
  intro v Hf' H' g r
  cases r
  exact q H'
theorem fn_mono {P : Program} {w : World} {K : PySem.W.Frag} {mg : Str → Option Value} {base : Heap} {CXt : CXT} {k : Nat} {f : Addr} {fd : FuncData} {ps : List Str} {sp sp' : Sp} (F : FnOk P w K mg base CXt k f fd ps sp) (h : ∀ vs H Q E, sp' vs H Q E → sp vs H Q E) : FnOk P w K mg base CXt k f fd ps sp' :=
  ⟨fun vs H Q E z => F.len vs H Q E (h _ _ _ _ z), fun A outer s H args us vs Q E r e b v z => F.run A outer s H args us vs Q E r e b v (h _ _ _ _ z)⟩

theorem all_mk {P : Program} {w : World} {K : PySem.W.Frag} {h : Heap} {mg : Str → Option Value} {fa : Addr} (X : K.In h) (G : h.Ns mainGlobals mg) (hfa : mg "law" = some (.ref fa))
    {A0 A1 A2 A3 : Addr}
    {tkci0 : Tok}
    {f0 : Addr} {od0 an0 : Option Addr} {sl0 : Array (Option Value)} {oc0 kV0 dc0 pm0 cd0 ct0 : Value}
    {f1 : Addr} {od1 an1 : Option Addr} {sl1 : Array (Option Value)} {oc1 kV1 dc1 pm1 cd1 ct1 : Value}
    {f2 : Addr} {od2 an2 : Option Addr} {sl2 : Array (Option Value)} {oc2 kV2 dc2 pm2 cd2 ct2 : Value}
    {f3 : Addr} {od3 an3 : Option Addr} {sl3 : Array (Option Value)} {oc3 kV3 dc3 pm3 cd3 ct3 : Value}
    {f4 : Addr} {od4 an4 : Option Addr} {sl4 : Array (Option Value)} {oc4 kV4 dc4 pm4 cd4 ct4 : Value}
    {f5 : Addr} {od5 an5 : Option Addr} {sl5 : Array (Option Value)} {oc5 kV5 dc5 pm5 cd5 ct5 : Value}
    {f6 : Addr} {od6 an6 : Option Addr} {sl6 : Array (Option Value)} {oc6 kV6 dc6 pm6 cd6 ct6 : Value}
    {f7 : Addr} {od7 an7 : Option Addr} {sl7 : Array (Option Value)} {oc7 kV7 dc7 pm7 cd7 ct7 : Value}
    {f8 : Addr} {od8 an8 : Option Addr} {sl8 : Array (Option Value)} {oc8 kV8 dc8 pm8 cd8 ct8 : Value}
    {f9 : Addr} {od9 an9 : Option Addr} {sl9 : Array (Option Value)} {oc9 kV9 dc9 pm9 cd9 ct9 : Value}
    {f10 : Addr} {od10 an10 : Option Addr} {sl10 : Array (Option Value)} {oc10 kV10 dc10 pm10 cd10 ct10 : Value}
    {xn3 xq3 : Str} {xN3 : Addr} {xbs3 xbm3 : List Value} {xsn3 : List Str} {xsub3 : List Value} {xab3 : Bool} {xcol3 : Option Bool} {xdd3 : Option Addr} {xk03 xk13 xk23 xk33 xk53 : Option Value}
    {f11 : Addr} {od11 an11 : Option Addr} {sl11 : Array (Option Value)} {oc11 kV11 dc11 pm11 cd11 ct11 : Value}
    {f12 : Addr} {od12 an12 : Option Addr} {sl12 : Array (Option Value)} {oc12 kV12 dc12 pm12 cd12 ct12 : Value}
    {pw12 : Addr} {rs12 : List Value}
    {f13 : Addr} {od13 an13 : Option Addr} {sl13 : Array (Option Value)} {oc13 kV13 dc13 pm13 cd13 ct13 : Value}
    {f14 : Addr} {od14 an14 : Option Addr} {sl14 : Array (Option Value)} {oc14 kV14 dc14 pm14 cd14 ct14 : Value}
    {f15 : Addr} {od15 an15 : Option Addr} {sl15 : Array (Option Value)} {oc15 kV15 dc15 pm15 cd15 ct15 : Value}
    {f16 : Addr} {od16 an16 : Option Addr} {sl16 : Array (Option Value)} {oc16 kV16 dc16 pm16 cd16 ct16 : Value}
    {f17 : Addr} {od17 an17 : Option Addr} {sl17 : Array (Option Value)} {oc17 kV17 dc17 pm17 cd17 ct17 : Value}
    {f18 : Addr} {od18 an18 : Option Addr} {sl18 : Array (Option Value)} {oc18 kV18 dc18 pm18 cd18 ct18 : Value}
    {rg_0_mul : Addr}
    {fo_mul ro_mul : Option Value}
    {f19 : Addr} {od19 an19 : Option Addr} {sl19 : Array (Option Value)} {oc19 kV19 dc19 pm19 cd19 ct19 : Value}
    {f20 : Addr} {od20 an20 : Option Addr} {sl20 : Array (Option Value)} {oc20 kV20 dc20 pm20 cd20 ct20 : Value}
    {f21 : Addr} {od21 an21 : Option Addr} {sl21 : Array (Option Value)} {oc21 kV21 dc21 pm21 cd21 ct21 : Value}
    {TT : Addr} {oT : Obj} {t0 t1 : Tok} {nT : Nat}
    {f22 : Addr} {od22 an22 : Option Addr} {sl22 : Array (Option Value)} {oc22 kV22 dc22 pm22 cd22 ct22 : Value}
    (q0 : PySem.W.nsIn K mainGlobals "Frac" = some (some (.ref A0)))
    (q1 : PySem.W.nsIn K mainGlobals "BestError" = some (some (.ref A1)))
    (q2 : PySem.W.nsIn K mainGlobals "DivisionByZero" = some (some (.ref A2)))
    (q3 : PySem.W.nsIn K mainGlobals "BadNumber" = some (some (.ref A3)))
    (q4 : PySem.W.findCls K (.ref A0) (.type "type") "MOST_FIGURES" = some (.val (.int 40 tkci0)))
    (q5 : PySem.W.readsIn K A0 (.type "type") = true)
    (q6 : PySem.W.specialIn K (.ref A0) "__getattribute__" = some (some (.builtin "type.__getattribute__")))
    (q7 : PySem.W.nsIn K mainGlobals "isinstance" = some none)
    (q8 : PySem.W.nsIn K mainGlobals "int" = some none)
    (q9 : PySem.W.subIn K (.ref A0) (.type "int") = some false)
    (q10 : PySem.W.plainGet K A0 Str.empty = true)
    (q11 : PySem.W.hasDictIn K A0 = true)
    (q12 : PySem.W.plainOver K A0 = true)
    (q13 : PySem.W.findIn K (.ref A0) "__setattr__" = some (some (.builtin "object.__setattr__")))
    (q14 : PySem.W.findIn K (.ref A0) "__class__" = some (some (.builtin "object.__class__")))
    (q15 : PySem.W.specialIn K (.builtin "object.__class__") "__get__" = some (some (.builtin "getset_descriptor.__get__")))
    (q16 : PySem.W.takesIn K (.builtin "object.__class__") = some true)
    (q17 : PySem.W.mroIn K A0 (.type "object") = some true)
    (q18 : PySem.W.nsIn K mainGlobals "bool" = some none)
    (q19 : PySem.W.subIn K (.ref A0) (.type "bool") = some false)
    (q20 : K.lookup f0 = some ⟨oc0, od0, .func (PySem.W.fnOf "_law_integer" "_law_integer" (defArgs Bp.s_law_integer) (defBody Bp.s_law_integer) (defScope Bp.s_law_integer) .none kV0 dc0 pm0 an0 cd0 ct0), sl0⟩)
    (q21 : PySem.W.codeIn K cd0 "_law_integer" = true)
    (q22 : PySem.W.keepIn K (.ref f0) = true)
    (q23 : PySem.W.nsIn K mainGlobals "_law_integer" = some (some (.ref f0)))
    (q24 : PySem.W.nsIn K mainGlobals "len" = some none)
    (q25 : K.lookup f1 = some ⟨oc1, od1, .func (PySem.W.fnOf "_law_cell" "_law_cell" (defArgs Bp.s_law_cell) (defBody Bp.s_law_cell) (defScope Bp.s_law_cell) .none kV1 dc1 pm1 an1 cd1 ct1), sl1⟩)
    (q26 : PySem.W.codeIn K cd1 "_law_cell" = true)
    (q27 : PySem.W.keepIn K (.ref f1) = true)
    (q28 : PySem.W.nsIn K mainGlobals "_law_cell" = some (some (.ref f1)))
    (q29 : PySem.W.nsIn K mainGlobals "range" = some none)
    (q30 : K.lookup f2 = some ⟨oc2, od2, .func (PySem.W.fnOf "_law_number" "_law_number" (defArgs Bp.s_law_number) (defBody Bp.s_law_number) (defScope Bp.s_law_number) .none kV2 dc2 pm2 an2 cd2 ct2), sl2⟩)
    (q31 : PySem.W.codeIn K cd2 "_law_number" = true)
    (q32 : PySem.W.keepIn K (.ref f2) = true)
    (q33 : PySem.W.nsIn K mainGlobals "_law_number" = some (some (.ref f2)))
    (q34 : PySem.W.nsIn K mainGlobals "abs" = some none)
    (q35 : K.lookup f3 = some ⟨oc3, od3, .func (PySem.W.fnOf "_law_gcd" "_law_gcd" (defArgs Bp.s_law_gcd) (defBody Bp.s_law_gcd) (defScope Bp.s_law_gcd) .none kV3 dc3 pm3 an3 cd3 ct3), sl3⟩)
    (q36 : PySem.W.codeIn K cd3 "_law_gcd" = true)
    (q37 : PySem.W.keepIn K (.ref f3) = true)
    (q38 : PySem.W.nsIn K mainGlobals "_law_gcd" = some (some (.ref f3)))
    (q39 : K.lookup f4 = some ⟨oc4, od4, .func (PySem.W.fnOf "_law_low" "_law_low" (defArgs Bp.s_law_low) (defBody Bp.s_law_low) (defScope Bp.s_law_low) .none kV4 dc4 pm4 an4 cd4 ct4), sl4⟩)
    (q40 : PySem.W.codeIn K cd4 "_law_low" = true)
    (q41 : PySem.W.keepIn K (.ref f4) = true)
    (q42 : PySem.W.nsIn K mainGlobals "_law_low" = some (some (.ref f4)))
    (q43 : K.lookup f5 = some ⟨oc5, od5, .func (PySem.W.fnOf "_law_drawn" "_law_drawn" (defArgs Bp.s_law_drawn) (defBody Bp.s_law_drawn) (defScope Bp.s_law_drawn) .none kV5 dc5 pm5 an5 cd5 ct5), sl5⟩)
    (q44 : PySem.W.codeIn K cd5 "_law_drawn" = true)
    (q45 : PySem.W.keepIn K (.ref f5) = true)
    (q46 : PySem.W.nsIn K mainGlobals "_law_drawn" = some (some (.ref f5)))
    (q47 : PySem.W.nsIn K mainGlobals "str" = some none)
    (q48 : K.lookup f6 = some ⟨oc6, od6, .func (PySem.W.fnOf "_law_text" "_law_text" (defArgs Bp.s_law_text) (defBody Bp.s_law_text) (defScope Bp.s_law_text) .none kV6 dc6 pm6 an6 cd6 ct6), sl6⟩)
    (q49 : PySem.W.codeIn K cd6 "_law_text" = true)
    (q50 : PySem.W.keepIn K (.ref f6) = true)
    (q51 : PySem.W.nsIn K mainGlobals "_law_text" = some (some (.ref f6)))
    (q52 : K.lookup f7 = some ⟨oc7, od7, .func (PySem.W.fnOf "_law_figures" "_law_figures" (defArgs Bp.s_law_figures) (defBody Bp.s_law_figures) (defScope Bp.s_law_figures) .none kV7 dc7 pm7 an7 cd7 ct7), sl7⟩)
    (q53 : PySem.W.codeIn K cd7 "_law_figures" = true)
    (q54 : PySem.W.keepIn K (.ref f7) = true)
    (q55 : PySem.W.nsIn K mainGlobals "_law_figures" = some (some (.ref f7)))
    (q56 : K.lookup f8 = some ⟨oc8, od8, .func (PySem.W.fnOf "_law_reading" "_law_reading" (defArgs Bp.s_law_reading) (defBody Bp.s_law_reading) (defScope Bp.s_law_reading) .none kV8 dc8 pm8 an8 cd8 ct8), sl8⟩)
    (q57 : PySem.W.codeIn K cd8 "_law_reading" = true)
    (q58 : PySem.W.keepIn K (.ref f8) = true)
    (q59 : PySem.W.nsIn K mainGlobals "_law_reading" = some (some (.ref f8)))
    (q60 : PySem.W.subIn K (.ref A1) (.type "BaseException") = some true)
    (q61 : PySem.W.hasDictIn K A1 = true)
    (q62 : PySem.W.typeIn K (.ref A1) = some (.type "type"))
    (q63 : PySem.W.subIn K (.ref A3) (.ref A1) = some true)
    (q64 : PySem.W.subIn K (.ref A2) (.ref A1) = some true)
    (q65 : K.lookup f9 = some ⟨oc9, od9, .func (PySem.W.fnOf "are_figures" "are_figures" (defArgs Bp.s_are_figures) (defBody Bp.s_are_figures) (defScope Bp.s_are_figures) .none kV9 dc9 pm9 an9 cd9 ct9), sl9⟩)
    (q66 : PySem.W.codeIn K cd9 "are_figures" = true)
    (q67 : PySem.W.keepIn K (.ref f9) = true)
    (q68 : PySem.W.nsIn K mainGlobals "are_figures" = some (some (.ref f9)))
    (q69 : K.lookup f10 = some ⟨oc10, od10, .func (PySem.W.fnOf "__init__" "BadNumber.__init__" (defArgs Bp.s_BadNumber_init) (defBody Bp.s_BadNumber_init) (defScope Bp.s_BadNumber_init) .none kV10 dc10 pm10 an10 cd10 ct10), sl10⟩)
    (q70 : PySem.W.codeIn K cd10 "BadNumber.__init__" = true)
    (q71 : PySem.W.keepIn K (.ref f10) = true)
    (q72 : K.lookup A3 = some (excClassObj xn3 xq3 A3 xN3 xbs3 xbm3 true xsn3 xsub3 xab3 xcol3 xdd3 xk03 xk13 xk23 xk33 xk53 "ValueError.__new__"))
    (q73 : PySem.HandSPX.refsVE xbm3 = true)
    (q74 : PySem.W.findIn K (.ref A3) "__setattr__" = some (some (.builtin "object.__setattr__")))
    (q75 : PySem.W.subIn K (.ref A3) (.type "BaseException") = some true)
    (q76 : PySem.W.typeIn K (.ref A3) = some (.type "type"))
    (q77 : PySem.W.keepIn K (.ref A3) = true)
    (q78 : PySem.W.findIn K (.ref A3) "__init__" = some (some (.ref f10)))
    (q79 : PySem.W.typeIn K (.ref f10) = some (.type "function"))
    (q80 : PySem.W.findIn K (.ref A3) "text" = some none)
    (q81 : PySem.W.findIn K (.ref A0) "den" = some none)
    (q82 : PySem.W.findIn K (.ref A0) "num" = some none)
    (q83 : K.lookup f11 = some ⟨oc11, od11, .func (PySem.W.fnOf "__str__" "Frac.__str__" (defArgs Bp.s_Frac_str) (defBody Bp.s_Frac_str) (defScope Bp.s_Frac_str) .none kV11 dc11 pm11 an11 cd11 ct11), sl11⟩)
    (q84 : PySem.W.codeIn K cd11 "Frac.__str__" = true)
    (q85 : PySem.W.keepIn K (.ref f11) = true)
    (q86 : PySem.W.findIn K (.ref A0) "__str__" = some (some (.ref f11)))
    (q87 : PySem.W.isFn K (.ref f11) = true)
    (q88 : K.lookup f12 = some ⟨oc12, od12, .func (PySem.W.fnOf "read" "Frac.read" (defArgs Bp.s_Frac_read) (defBody Bp.s_Frac_read) (defScope Bp.s_Frac_read) .none kV12 dc12 pm12 an12 cd12 ct12), sl12⟩)
    (q89 : PySem.W.codeIn K cd12 "Frac.read" = true)
    (q90 : PySem.W.keepIn K (.ref f12) = true)
    (q91 : PySem.W.findCls K (.ref A0) (.type "type") "read" = some (.get (.builtin "staticmethod.__get__") (.ref pw12) .none (.ref A0)))
    (q92 : PySem.W.recIn K pw12 "staticmethod" = some (.ref f12 :: rs12))
    (q93 : PySem.W.findIn K (.ref A3) "__getattribute__" = some (some (.builtin "BaseException.__getattribute__")))
    (q94 : PySem.W.findIn K (.ref A3) "__getattr__" = some none)
    (q95 : PySem.W.hasDictIn K A3 = true)
    (q96 : PySem.W.findIn K (.ref A3) "__class__" = some (some (.builtin "object.__class__")))
    (q97 : PySem.W.mroIn K A3 (.type "object") = some true)
    (q98 : PySem.W.findIn K (.ref A2) "__getattribute__" = some (some (.builtin "BaseException.__getattribute__")))
    (q99 : PySem.W.findIn K (.ref A2) "__getattr__" = some none)
    (q100 : PySem.W.subIn K (.ref A2) (.type "BaseException") = some true)
    (q101 : PySem.W.hasDictIn K A2 = true)
    (q102 : PySem.W.findIn K (.ref A2) "__class__" = some (some (.builtin "object.__class__")))
    (q103 : PySem.W.mroIn K A2 (.type "object") = some true)
    (q104 : (((.ref A2) : Value) == (.ref A3)) = false)
    (q105 : PySem.W.isClsIn K A3 = true)
    (q106 : PySem.W.subIn K (.ref A2) (.ref A3) = some false)
    (q107 : (((.ref A3) : Value) == (.ref A2)) = false)
    (q108 : PySem.W.isClsIn K A2 = true)
    (q109 : PySem.W.typeIn K (.ref A2) = some (.type "type"))
    (q110 : PySem.W.subIn K (.ref A3) (.ref A2) = some false)
    (q111 : PySem.W.nsIn K mainGlobals "ValueError" = some none)
    (q112 : PySem.W.subIn K (.ref A3) (.type "ValueError") = some true)
    (q113 : PySem.W.subIn K (.ref A2) (.type "ValueError") = some true)
    (q114 : PySem.W.subIn K (.ref A0) (.type "str") = some false)
    (q115 : PySem.W.isClsIn K A0 = true)
    (q116 : PySem.W.typeIn K (.ref A0) = some (.type "type"))
    (q117 : PySem.W.subIn K (.type "NoneType") (.ref A0) = some false)
    (q118 : PySem.W.subIn K (.type "bool") (.ref A0) = some false)
    (q119 : PySem.W.subIn K (.type "int") (.ref A0) = some false)
    (q120 : PySem.W.subIn K (.type "str") (.ref A0) = some false)
    (q121 : PySem.W.subIn K (.type "tuple") (.ref A0) = some false)
    (q122 : PySem.W.subIn K (.type "list") (.ref A0) = some false)
    (q123 : K.lookup f13 = some ⟨oc13, od13, .func (PySem.W.fnOf "_law_is" "_law_is" (defArgs Bp.s_law_is) (defBody Bp.s_law_is) (defScope Bp.s_law_is) .none kV13 dc13 pm13 an13 cd13 ct13), sl13⟩)
    (q124 : PySem.W.codeIn K cd13 "_law_is" = true)
    (q125 : PySem.W.keepIn K (.ref f13) = true)
    (q126 : PySem.W.nsIn K mainGlobals "_law_is" = some (some (.ref f13)))
    (q127 : K.lookup f14 = some ⟨oc14, od14, .func (PySem.W.fnOf "_law_reads" "_law_reads" (defArgs Bp.s_law_reads) (defBody Bp.s_law_reads) (defScope Bp.s_law_reads) .none kV14 dc14 pm14 an14 cd14 ct14), sl14⟩)
    (q128 : PySem.W.codeIn K cd14 "_law_reads" = true)
    (q129 : PySem.W.keepIn K (.ref f14) = true)
    (q130 : PySem.W.nsIn K mainGlobals "_law_reads" = some (some (.ref f14)))
    (q131 : K.lookup f15 = some ⟨oc15, od15, .func (PySem.W.fnOf "_law_short" "_law_short" (defArgs Bp.s_law_short) (defBody Bp.s_law_short) (defScope Bp.s_law_short) .none kV15 dc15 pm15 an15 cd15 ct15), sl15⟩)
    (q132 : PySem.W.codeIn K cd15 "_law_short" = true)
    (q133 : PySem.W.keepIn K (.ref f15) = true)
    (q134 : PySem.W.nsIn K mainGlobals "_law_short" = some (some (.ref f15)))
    (q135 : K.lookup f16 = some ⟨oc16, od16, .func (PySem.W.fnOf "_law_spoilt" "_law_spoilt" (defArgs Bp.s_law_spoilt) (defBody Bp.s_law_spoilt) (defScope Bp.s_law_spoilt) .none kV16 dc16 pm16 an16 cd16 ct16), sl16⟩)
    (q136 : PySem.W.codeIn K cd16 "_law_spoilt" = true)
    (q137 : PySem.W.keepIn K (.ref f16) = true)
    (q138 : PySem.W.nsIn K mainGlobals "_law_spoilt" = some (some (.ref f16)))
    (q139 : K.lookup f17 = some ⟨oc17, od17, .func (PySem.W.fnOf "as_frac" "as_frac" (defArgs Bp.s_as_frac) (defBody Bp.s_as_frac) (defScope Bp.s_as_frac) .none kV17 dc17 pm17 an17 cd17 ct17), sl17⟩)
    (q140 : PySem.W.codeIn K cd17 "as_frac" = true)
    (q141 : PySem.W.keepIn K (.ref f17) = true)
    (q142 : PySem.W.nsIn K mainGlobals "as_frac" = some (some (.ref f17)))
    (q143 : K.lookup f18 = some ⟨oc18, od18, .func (PySem.W.fnOf "__mul__" "Frac.__mul__" (defArgs Bp.s_Frac_mul) (defBody Bp.s_Frac_mul) (defScope Bp.s_Frac_mul) .none kV18 dc18 pm18 an18 cd18 ct18), sl18⟩)
    (q144 : PySem.W.codeIn K cd18 "Frac.__mul__" = true)
    (q145 : PySem.W.keepIn K (.ref f18) = true)
    (q146 : PySem.W.findIn K (.ref A0) "__mul__" = some (some (.ref f18)))
    (q147 : PySem.W.isFn K (.ref f18) = true)
    (q148 : PySem.W.selfFirst K A0 = true)
    (q149 : PySem.W.findIn K (.ref A0) (dunderR "mul") = some (some (.ref rg_0_mul)))
    (q150 : PySem.W.findIn K (.type "int") (PySem.dunder "mul") = some fo_mul)
    (q151 : PySem.W.findIn K (.type "int") (dunderR "mul") = some ro_mul)
    (q152 : K.lookup f19 = some ⟨oc19, od19, .func (PySem.W.fnOf "__neg__" "Frac.__neg__" (defArgs Bp.s_Frac_neg) (defBody Bp.s_Frac_neg) (defScope Bp.s_Frac_neg) .none kV19 dc19 pm19 an19 cd19 ct19), sl19⟩)
    (q153 : PySem.W.codeIn K cd19 "Frac.__neg__" = true)
    (q154 : PySem.W.keepIn K (.ref f19) = true)
    (q155 : PySem.W.findIn K (.ref A0) "__neg__" = some (some (.ref f19)))
    (q156 : PySem.W.isFn K (.ref f19) = true)
    (q157 : K.lookup f20 = some ⟨oc20, od20, .func (PySem.W.fnOf "_law_writes" "_law_writes" (defArgs Bp.s_law_writes) (defBody Bp.s_law_writes) (defScope Bp.s_law_writes) .none kV20 dc20 pm20 an20 cd20 ct20), sl20⟩)
    (q158 : PySem.W.codeIn K cd20 "_law_writes" = true)
    (q159 : PySem.W.keepIn K (.ref f20) = true)
    (q160 : PySem.W.nsIn K mainGlobals "_law_writes" = some (some (.ref f20)))
    (q161 : K.lookup f21 = some ⟨oc21, od21, .func (PySem.W.fnOf "law" "law" (defArgs Bp.s_law) (defBody Bp.s_law) (defScope Bp.s_law) .none kV21 dc21 pm21 an21 cd21 ct21), sl21⟩)
    (q162 : PySem.W.codeIn K cd21 "law" = true)
    (q163 : PySem.W.keepIn K (.ref f21) = true)
    (q164 : PySem.W.nsIn K mainGlobals "law" = some (some (.ref f21)))
    (q165 : K.lookup f22 = some ⟨oc22, od22, .func (PySem.W.fnOf "__init__" "Frac.__init__" (defArgs Bp.s_Frac_init) (defBody Bp.s_Frac_init) (defScope Bp.s_Frac_init) (.ref TT) kV22 dc22 pm22 an22 cd22 ct22), sl22⟩)
    (q166 : PySem.W.codeIn K cd22 "Frac.__init__" = true)
    (q167 : PySem.W.keepIn K (.ref f22) = true)
    (q168 : PySem.W.makesIn K A0 = true)
    (q169 : PySem.W.findIn K (.ref A0) "__init__" = some (some (.ref f22)))
    (q170 : PySem.W.isFn K (.ref f22) = true)
    (q171 : PySem.W.keepIn K (.ref A0) = true)
    (q172 : K.lookup TT = some oT)
    (q173 : oT.data = .seq ([Value.int 0 t0, Value.int 1 t1] : List Value).toArray nT)
    (q174 : PySem.W.nsIn K mainGlobals "gcd" = some (some (.builtin "math.gcd")))
    (q175 : PySem.W.excIn K A2 [.type "ValueError", .type "Exception", .type "BaseException", .type "object"] "ValueError.__new__" = true)
    (q176 : PySem.W.keepIn K (.ref A2) = true)
    : ∃ fd : FuncData, (∀ (s : Shared) (v : Value), BindsTo s fd ⟨[v], []⟩ [("script", v)]) ∧ ∀ base : Heap, K.In base → base.Ns mainGlobals mg → FnOk P w K mg base (L2N.CX P w) 7 fa fd ["script"] (spLaw K) := by
  have e := hfa.symm.trans (PySem.W.mg_of X G q164)
  cases e
  have I : FunD K "__init__" "Frac.__init__" (defArgs Bp.s_Frac_init) (defBody Bp.s_Frac_init) (defScope Bp.s_Frac_init) [.int 0, .int 1] [] f22 _ := ⟨⟨_, _, _, _, _, _, _, _, _, _, rfl, q165, q166, .inr ⟨by simp, TT, oT, [Value.int 0 t0, Value.int 1 t1], nT, rfl, q172, q173, .cons ⟨t0, rfl⟩ (.cons ⟨t1, rfl⟩ .nil)⟩, .inl rfl⟩, q167⟩
  obtain ⟨ds3, v3, b3⟩ := FunD.binds1 (ps := ["self", "num", "den"]) I 3 2 (by simp) rfl fun T kV doc pm an cdv ct us its hl h2 => match us, hl, its, h2 with | [_, _, _], _, [_, _], _ => ⟨_, rfl, rfl⟩
  obtain ⟨ds2, v2, b2⟩ := FunD.binds1 (ps := ["self", "num", "den"]) I 2 1 (by simp) rfl fun T kV doc pm an cdv ct us its hl h2 => match us, hl, its, h2 with | [_, _], _, [_, _], _ => ⟨_, rfl, rfl⟩
  have ix : IFx K mg A0 A2 := ⟨⟨q10, q11, q12, q13⟩, q82, q81, PySem.W.mg_of X G q174, PySem.W.mg_of X G q2, q175, q176, q100, q109⟩
  have mk0 : Mk K A0 f22 := ⟨q168, q169, q170, q171⟩
  have FI : FrI K mg A0 A2 := ⟨⟨⟨_, _, _, ds3, PySem.W.mg_of X G q0, mk0, b3, v3, frac_init ix I⟩⟩, ⟨⟨_, _, _, ds2, PySem.W.mg_of X G q0, mk0, b2, v2, frac_init ix I⟩⟩⟩
  have T : TX mg ⟨K, cmOf A0 A1 A2 A3⟩ := {
    ci_Frac_MOST_FIGURES := ⟨_, _, ⟨q5, q6⟩, q4, PySem.W.mg_of X G q0⟩
    b_isinstance := PySem.W.mg_none_of X G q7
    b_int := PySem.W.mg_none_of X G q8
    hit_int := ⟨e_it_int (kit_ty (by decide +kernel)) (kit_ty (by decide +kernel)) (kit_ty (by decide +kernel)) (kit_ty (by decide +kernel)) (kit_ty (by decide +kernel)) (kit_ty (by decide +kernel)) (Bp.kit_base (by rfl) (by decide +kernel) q9), e_it_into (⟨⟨q10, q11, q12, q13⟩, q14, q15, q16, q17⟩ : InC K A0)⟩
    b_bool := PySem.W.mg_none_of X G q18
    hit_bool := ⟨e_it_bool (kit_ty (by decide +kernel)) (kit_ty (by decide +kernel)) (kit_ty (by decide +kernel)) (kit_ty (by decide +kernel)) (kit_ty (by decide +kernel)) (kit_ty (by decide +kernel)) (Bp.kit_base (by rfl) (by decide +kernel) q19), e_it_boolo (⟨⟨q10, q11, q12, q13⟩, q14, q15, q16, q17⟩ : InC K A0)⟩
    f_law_integer := ⟨_, _, (fun_mk (st := Bp.s_law_integer) q20 q21 q22), PySem.W.mg_of X G q23, (L2.Fun.binds (ps := ["told", "due"]) (fun_mk (st := Bp.s_law_integer) q20 q21 q22) fun _ _ _ _ _ _ us hl => match us, hl with | [_, _], _ => rfl)⟩
    b_len := PySem.W.mg_none_of X G q24
    f_law_cell := ⟨_, _, (fun_mk (st := Bp.s_law_cell) q25 q26 q27), PySem.W.mg_of X G q28, (L2.Fun.binds (ps := ["script", "k"]) (fun_mk (st := Bp.s_law_cell) q25 q26 q27) fun _ _ _ _ _ _ us hl => match us, hl with | [_, _], _ => rfl)⟩
    b_range := PySem.W.mg_none_of X G q29
    f_law_number := ⟨_, _, (fun_mk (st := Bp.s_law_number) q30 q31 q32), PySem.W.mg_of X G q33, (L2.Fun.binds (ps := ["script", "k", "figures"]) (fun_mk (st := Bp.s_law_number) q30 q31 q32) fun _ _ _ _ _ _ us hl => match us, hl with | [_, _, _], _ => rfl)⟩
    b_abs := PySem.W.mg_none_of X G q34
    f_law_gcd := ⟨_, _, (fun_mk (st := Bp.s_law_gcd) q35 q36 q37), PySem.W.mg_of X G q38, (L2.Fun.binds (ps := ["first", "second"]) (fun_mk (st := Bp.s_law_gcd) q35 q36 q37) fun _ _ _ _ _ _ us hl => match us, hl with | [_, _], _ => rfl)⟩
    f_law_low := ⟨_, _, (fun_mk (st := Bp.s_law_low) q39 q40 q41), PySem.W.mg_of X G q42, (L2.Fun.binds (ps := ["num", "den"]) (fun_mk (st := Bp.s_law_low) q39 q40 q41) fun _ _ _ _ _ _ us hl => match us, hl with | [_, _], _ => rfl)⟩
    f_law_drawn := ⟨_, _, (fun_mk (st := Bp.s_law_drawn) q43 q44 q45), PySem.W.mg_of X G q46, (L2.Fun.binds (ps := ["script"]) (fun_mk (st := Bp.s_law_drawn) q43 q44 q45) fun _ _ _ _ _ _ us hl => match us, hl with | [_], _ => rfl)⟩
    b_str := PySem.W.mg_none_of X G q47
    f_law_text := ⟨_, _, (fun_mk (st := Bp.s_law_text) q48 q49 q50), PySem.W.mg_of X G q51, (L2.Fun.binds (ps := ["value"]) (fun_mk (st := Bp.s_law_text) q48 q49 q50) fun _ _ _ _ _ _ us hl => match us, hl with | [_], _ => rfl)⟩
    f_law_figures := ⟨_, _, (fun_mk (st := Bp.s_law_figures) q52 q53 q54), PySem.W.mg_of X G q55, (L2.Fun.binds (ps := ["word"]) (fun_mk (st := Bp.s_law_figures) q52 q53 q54) fun _ _ _ _ _ _ us hl => match us, hl with | [_], _ => rfl)⟩
    f_law_reading := ⟨_, _, (fun_mk (st := Bp.s_law_reading) q56 q57 q58), PySem.W.mg_of X G q59, (L2.Fun.binds (ps := ["text"]) (fun_mk (st := Bp.s_law_reading) q56 q57 q58) fun _ _ _ _ _ _ us hl => match us, hl with | [_], _ => rfl)⟩
    hcat_BestError := e_cat_BestError (PySem.W.exm_ref q60 q61 q62 q63) (PySem.W.exm_ref q60 q61 q62 q64)
    f_are_figures := ⟨_, _, (fun_mk (st := Bp.s_are_figures) q65 q66 q67), PySem.W.mg_of X G q68, (L2.Fun.binds (ps := ["text"]) (fun_mk (st := Bp.s_are_figures) q65 q66 q67) fun _ _ _ _ _ _ us hl => match us, hl with | [_], _ => rfl)⟩
    x_BadNumber := ⟨_, _, (fun_mk (st := Bp.s_BadNumber_init) q69 q70 q71), ⟨⟨_, _, _, _, _, _, _, _, _, _, _, _, _, _, _, q72, q73⟩, q74, q75, q76, q77⟩, q78, q79, (L2.Fun.binds (ps := ["self", "text"]) (fun_mk (st := Bp.s_BadNumber_init) q69 q70 q71) fun _ _ _ _ _ _ us hl => match us, hl with | [_, _], _ => rfl)⟩
    nx_BadNumber_text := q80
    g_BadNumber := PySem.W.mg_of X G q3
    fi := FI
    cl_Frac := ⟨q10, q11, q12, q13⟩
    na_Frac_den := q81
    na_Frac_num := q82
    m_Frac_str := ⟨_, _, (fun_mk (st := Bp.s_Frac_str) q83 q84 q85), ⟨q86, q87, q85⟩, (L2.Fun.binds (ps := ["self"]) (fun_mk (st := Bp.s_Frac_str) q83 q84 q85) fun _ _ _ _ _ _ us hl => match us, hl with | [_], _ => rfl)⟩
    sm_Frac_read := ⟨_, _, _, (fun_mk (st := Bp.s_Frac_read) q88 q89 q90), ⟨q91, ⟨_, q92⟩, q90⟩, ⟨q5, q6⟩, PySem.W.mg_of X G q0, (L2.Fun.binds (ps := ["text"]) (fun_mk (st := Bp.s_Frac_read) q88 q89 q90) fun _ _ _ _ _ _ us hl => match us, hl with | [_], _ => rfl)⟩
    hxt_is_BadNumber := e_xt_is_BadNumber ⟨(⟨q93, q94, q75, q95, q96, q15, q16, q97⟩ : L2.ExcC K A3), Bp.kit_same⟩ ⟨(⟨q98, q99, q100, q101, q102, q15, q16, q103⟩ : L2.ExcC K A2), (Bp.kit_cls q104 q105 q76 q106)⟩
    g_DivisionByZero := PySem.W.mg_of X G q2
    hxt_is_DivisionByZero := e_xt_is_DivisionByZero ⟨(⟨q93, q94, q75, q95, q96, q15, q16, q97⟩ : L2.ExcC K A3), (Bp.kit_cls q107 q108 q109 q110)⟩ ⟨(⟨q98, q99, q100, q101, q102, q15, q16, q103⟩ : L2.ExcC K A2), Bp.kit_same⟩
    b_ValueError := PySem.W.mg_none_of X G q111
    hxt_is_ValueError := e_xt_is_ValueError ⟨(⟨q93, q94, q75, q95, q96, q15, q16, q97⟩ : L2.ExcC K A3), (Bp.kit_base (by rfl) (by decide +kernel) q112)⟩ ⟨(⟨q98, q99, q100, q101, q102, q15, q16, q103⟩ : L2.ExcC K A2), (Bp.kit_base (by rfl) (by decide +kernel) q113)⟩
    xf_BadNumber := ⟨q93, q94, q75, q95⟩
    hit_str := ⟨e_it_str (kit_ty (by decide +kernel)) (kit_ty (by decide +kernel)) (kit_ty (by decide +kernel)) (kit_ty (by decide +kernel)) (kit_ty (by decide +kernel)) (kit_ty (by decide +kernel)) (Bp.kit_base (by rfl) (by decide +kernel) q114), e_it_stro (⟨⟨q10, q11, q12, q13⟩, q14, q15, q16, q17⟩ : InC K A0)⟩
    g_BestError := PySem.W.mg_of X G q1
    g_Frac := PySem.W.mg_of X G q0
    hit_Frac := ⟨e_it_Frac (Bp.kit_cls (by rfl) q115 q116 q117) (Bp.kit_cls (by rfl) q115 q116 q118) (Bp.kit_cls (by rfl) q115 q116 q119) (Bp.kit_cls (by rfl) q115 q116 q120) (Bp.kit_cls (by rfl) q115 q116 q121) (Bp.kit_cls (by rfl) q115 q116 q122) Bp.kit_same, e_it_Fraco (⟨⟨q10, q11, q12, q13⟩, q14, q15, q16, q17⟩ : InC K A0)⟩
    f_law_is := ⟨_, _, (fun_mk (st := Bp.s_law_is) q123 q124 q125), PySem.W.mg_of X G q126, (L2.Fun.binds (ps := ["told", "due"]) (fun_mk (st := Bp.s_law_is) q123 q124 q125) fun _ _ _ _ _ _ us hl => match us, hl with | [_, _], _ => rfl)⟩
    f_law_reads := ⟨_, _, (fun_mk (st := Bp.s_law_reads) q127 q128 q129), PySem.W.mg_of X G q130, (L2.Fun.binds (ps := ["text"]) (fun_mk (st := Bp.s_law_reads) q127 q128 q129) fun _ _ _ _ _ _ us hl => match us, hl with | [_], _ => rfl)⟩
    f_law_short := ⟨_, _, (fun_mk (st := Bp.s_law_short) q131 q132 q133), PySem.W.mg_of X G q134, (L2.Fun.binds (ps := ["k"]) (fun_mk (st := Bp.s_law_short) q131 q132 q133) fun _ _ _ _ _ _ us hl => match us, hl with | [_], _ => rfl)⟩
    f_law_spoilt := ⟨_, _, (fun_mk (st := Bp.s_law_spoilt) q135 q136 q137), PySem.W.mg_of X G q138, (L2.Fun.binds (ps := ["value", "kind", "place", "char"]) (fun_mk (st := Bp.s_law_spoilt) q135 q136 q137) fun _ _ _ _ _ _ us hl => match us, hl with | [_, _, _, _], _ => rfl)⟩
    hit_int_Frac := ⟨e_it_int_Frac (kitAny_cons (b := false) (kit_ty (by decide +kernel)) (fun _ => (kitAny_cons (b := false) (Bp.kit_cls (by rfl) q115 q116 q117) (fun _ => kitAny_nil) (fun z => nomatch z))) (fun z => nomatch z)) (kitAny_cons (b := true) (kit_ty (by decide +kernel)) (fun z => nomatch z) (fun _ => rfl)) (kitAny_cons (b := true) (kit_ty (by decide +kernel)) (fun z => nomatch z) (fun _ => rfl)) (kitAny_cons (b := false) (kit_ty (by decide +kernel)) (fun _ => (kitAny_cons (b := false) (Bp.kit_cls (by rfl) q115 q116 q120) (fun _ => kitAny_nil) (fun z => nomatch z))) (fun z => nomatch z)) (kitAny_cons (b := false) (kit_ty (by decide +kernel)) (fun _ => (kitAny_cons (b := false) (Bp.kit_cls (by rfl) q115 q116 q121) (fun _ => kitAny_nil) (fun z => nomatch z))) (fun z => nomatch z)) (kitAny_cons (b := false) (kit_ty (by decide +kernel)) (fun _ => (kitAny_cons (b := false) (Bp.kit_cls (by rfl) q115 q116 q122) (fun _ => kitAny_nil) (fun z => nomatch z))) (fun z => nomatch z)) (kitAny_cons (b := false) (Bp.kit_base (by rfl) (by decide +kernel) q9) (fun _ => (kitAny_cons (b := true) Bp.kit_same (fun z => nomatch z) (fun _ => rfl))) (fun z => nomatch z)), e_it_int_Fraco (⟨⟨q10, q11, q12, q13⟩, q14, q15, q16, q17⟩ : InC K A0)⟩
    f_as_frac := ⟨_, _, (fun_mk (st := Bp.s_as_frac) q139 q140 q141), PySem.W.mg_of X G q142, (L2.Fun.binds (ps := ["number"]) (fun_mk (st := Bp.s_as_frac) q139 q140 q141) fun _ _ _ _ _ _ us hl => match us, hl with | [_], _ => rfl)⟩
    m_Frac_mul := ⟨_, _, (fun_mk (st := Bp.s_Frac_mul) q143 q144 q145), ⟨q146, q147, q145⟩, (L2.Fun.binds (ps := ["self", "other"]) (fun_mk (st := Bp.s_Frac_mul) q143 q144 q145) fun _ _ _ _ _ _ us hl => match us, hl with | [_, _], _ => rfl)⟩
    ow_Frac := ⟨q148, q119, q117, q120, q9⟩
    of_Frac_mul := ⟨⟨_, q149, .inr ⟨_, rfl⟩⟩, ⟨_, q150⟩, ⟨_, q151⟩⟩
    m_Frac_neg := ⟨_, _, (fun_mk (st := Bp.s_Frac_neg) q152 q153 q154), ⟨q155, q156, q154⟩, (L2.Fun.binds (ps := ["self"]) (fun_mk (st := Bp.s_Frac_neg) q152 q153 q154) fun _ _ _ _ _ _ us hl => match us, hl with | [_], _ => rfl)⟩
    f_law_writes := ⟨_, _, (fun_mk (st := Bp.s_law_writes) q157 q158 q159), PySem.W.mg_of X G q160, (L2.Fun.binds (ps := ["value", "other"]) (fun_mk (st := Bp.s_law_writes) q157 q158 q159) fun _ _ _ _ _ _ us hl => match us, hl with | [_, _], _ => rfl)⟩
    f_law := ⟨_, _, (fun_mk (st := Bp.s_law) q161 q162 q163), PySem.W.mg_of X G q164, (L2.Fun.binds (ps := ["script"]) (fun_mk (st := Bp.s_law) q161 q162 q163) fun _ _ _ _ _ _ us hl => match us, hl with | [_], _ => rfl)⟩
  }
  exact ⟨_, fun s v => .of_eq rfl, fun base _ _ => fn_mono (d_law_at T (fun_mk (st := Bp.s_law) q161 q162 q163)) fun vs H Q E z => law_sp (G := ⟨K, cmOf A0 A1 A2 A3⟩) z⟩
theorem walk {l : PySem.W.OpenLaw} {q : Program} {loose : List Str} {XP : (Str → Option Value) → Heap → Prop} {YP : World → Heap → Prop} {d : DefRec} {K : Params → PySem.W.Frag} (hn : l.most = some 63) (hdf : d.params.defaults = [])
    (hY : ∀ (w : World) (h : Heap), YP w h → (K w.params).In h)
    (F : ∀ (w : World) (mg : Str → Option Value) (fa : Addr) (h : Heap), (K w.params).In h → h.Ns mainGlobals mg → mg d.name = some (.ref fa) →
      ∃ fd : FuncData, (∀ (s : Shared) (u : Value), BindsTo s fd ⟨[u], []⟩ [("script", u)]) ∧ ∀ base : Heap, (K w.params).In base → base.Ns mainGlobals mg → FnOk l.prog w (K w.params) mg base (L2N.CX l.prog w) 7 fa fd ["script"] (spLaw (K w.params))) :
    PySem.W.WalkO q loose XP YP l.row.toRowW d [] (fun f vs => PySem.call f vs) :=
  L2.walk_of (n := 63) (k := 7) (x := "script") (CX := fun w => L2N.CX l.prog w) (sp := fun w => spLaw (K w.params)) hn (by decide) hdf ⟨rfl, by decide, by decide⟩ hY F (fun _ _ a ns hl _ hS => ⟨a, ns, rfl, hS, fun _ => rfl⟩) fun _ _ _ _ _ ⟨_, _, _, _, _, _, _, _, _, _, _, _, z⟩ => z
end J

open PySem.W PyProof.Rows PySem
set_option maxHeartbeats 0 in
theorem PySem.Challenge.cw_bestpapers_k02_fraction_texts_holds : PySem.Challenge.rw_bestpapers_k02_fraction_texts.Holds := by
  w_on
  o_law
  k_head
  (case hw =>
    w_witness2)
  k_fill
  refine J.walk (l := PySem.Challenge.rw_bestpapers_k02_fraction_texts) rfl rfl (fun w h Y => PySem.W.kIn_of Y) ?F
  case F =>
    intro w mg fa h KX G hmg
    refine' J.all_mk KX G hmg ?q0 ?q1 ?q2 ?q3 ?q4 ?q5 ?q6 ?q7 ?q8 ?q9 ?q10 ?q11 ?q12 ?q13 ?q14 ?q15 ?q16 ?q17 ?q18 ?q19 ?q20 ?q21 ?q22 ?q23 ?q24 ?q25 ?q26 ?q27 ?q28 ?q29 ?q30 ?q31 ?q32 ?q33 ?q34 ?q35 ?q36 ?q37 ?q38 ?q39 ?q40 ?q41 ?q42 ?q43 ?q44 ?q45 ?q46 ?q47 ?q48 ?q49 ?q50 ?q51 ?q52 ?q53 ?q54 ?q55 ?q56 ?q57 ?q58 ?q59 ?q60 ?q61 ?q62 ?q63 ?q64 ?q65 ?q66 ?q67 ?q68 ?q69 ?q70 ?q71 ?q72 ?q73 ?q74 ?q75 ?q76 ?q77 ?q78 ?q79 ?q80 ?q81 ?q82 ?q83 ?q84 ?q85 ?q86 ?q87 ?q88 ?q89 ?q90 ?q91 ?q92 ?q93 ?q94 ?q95 ?q96 ?q97 ?q98 ?q99 ?q100 ?q101 ?q102 ?q103 ?q104 ?q105 ?q106 ?q107 ?q108 ?q109 ?q110 ?q111 ?q112 ?q113 ?q114 ?q115 ?q116 ?q117 ?q118 ?q119 ?q120 ?q121 ?q122 ?q123 ?q124 ?q125 ?q126 ?q127 ?q128 ?q129 ?q130 ?q131 ?q132 ?q133 ?q134 ?q135 ?q136 ?q137 ?q138 ?q139 ?q140 ?q141 ?q142 ?q143 ?q144 ?q145 ?q146 ?q147 ?q148 ?q149 ?q150 ?q151 ?q152 ?q153 ?q154 ?q155 ?q156 ?q157 ?q158 ?q159 ?q160 ?q161 ?q162 ?q163 ?q164 ?q165 ?q166 ?q167 ?q168 ?q169 ?q170 ?q171 ?q172 ?q173 ?q174 ?q175 ?q176
    (case q0 => k_is)
    (case q1 => k_is)
    (case q2 => k_is)
    (case q3 => k_is)
    (case q7 => k_is)
    (case q8 => k_is)
    (case q18 => k_is)
    (case q23 => k_is)
    (case q24 => k_is)
    (case q28 => k_is)
    (case q29 => k_is)
    (case q33 => k_is)
    (case q34 => k_is)
    (case q38 => k_is)
    (case q42 => k_is)
    (case q46 => k_is)
    (case q47 => k_is)
    (case q51 => k_is)
    (case q55 => k_is)
    (case q59 => k_is)
    (case q68 => k_is)
    (case q111 => k_is)
    (case q126 => k_is)
    (case q130 => k_is)
    (case q134 => k_is)
    (case q138 => k_is)
    (case q142 => k_is)
    (case q160 => k_is)
    (case q164 => k_is)
    (case q174 => k_is)
    (case q13 => k_is)
    (case q14 => k_is)
    (case q74 => k_is)
    (case q78 => k_is)
    (case q80 => k_is)
    (case q81 => k_is)
    (case q82 => k_is)
    (case q86 => k_is)
    (case q93 => k_is)
    (case q94 => k_is)
    (case q96 => k_is)
    (case q98 => k_is)
    (case q99 => k_is)
    (case q102 => k_is)
    (case q146 => k_is)
    (case q149 => k_is)
    (case q150 => k_is)
    (case q151 => k_is)
    (case q155 => k_is)
    (case q169 => k_is)
    (case q4 => k_is)
    (case q91 => k_is)
    (case q92 => k_is)
    (case q20 => k_is)
    (case q25 => k_is)
    (case q30 => k_is)
    (case q35 => k_is)
    (case q39 => k_is)
    (case q43 => k_is)
    (case q48 => k_is)
    (case q52 => k_is)
    (case q56 => k_is)
    (case q65 => k_is)
    (case q69 => k_is)
    (case q83 => k_is)
    (case q88 => k_is)
    (case q123 => k_is)
    (case q127 => k_is)
    (case q131 => k_is)
    (case q135 => k_is)
    (case q139 => k_is)
    (case q143 => k_is)
    (case q152 => k_is)
    (case q157 => k_is)
    (case q161 => k_is)
    (case q165 => k_is)
    (case q72 => k_is)
    (case q172 => k_is)
    (case q5 => k_is)
    (case q6 => k_is)
    (case q9 => k_is)
    (case q10 => k_is)
    (case q11 => k_is)
    (case q12 => k_is)
    (case q15 => k_is)
    (case q16 => k_is)
    (case q17 => k_is)
    (case q19 => k_is)
    (case q21 => k_is)
    (case q22 => k_is)
    (case q26 => k_is)
    (case q27 => k_is)
    (case q31 => k_is)
    (case q32 => k_is)
    (case q36 => k_is)
    (case q37 => k_is)
    (case q40 => k_is)
    (case q41 => k_is)
    (case q44 => k_is)
    (case q45 => k_is)
    (case q49 => k_is)
    (case q50 => k_is)
    (case q53 => k_is)
    (case q54 => k_is)
    (case q57 => k_is)
    (case q58 => k_is)
    (case q60 => k_is)
    (case q61 => k_is)
    (case q62 => k_is)
    (case q63 => k_is)
    (case q64 => k_is)
    (case q66 => k_is)
    (case q67 => k_is)
    (case q70 => k_is)
    (case q71 => k_is)
    (case q75 => k_is)
    (case q76 => k_is)
    (case q77 => k_is)
    (case q79 => k_is)
    (case q84 => k_is)
    (case q85 => k_is)
    (case q87 => k_is)
    (case q89 => k_is)
    (case q90 => k_is)
    (case q95 => k_is)
    (case q97 => k_is)
    (case q100 => k_is)
    (case q101 => k_is)
    (case q103 => k_is)
    (case q105 => k_is)
    (case q106 => k_is)
    (case q108 => k_is)
    (case q109 => k_is)
    (case q110 => k_is)
    (case q112 => k_is)
    (case q113 => k_is)
    (case q114 => k_is)
    (case q115 => k_is)
    (case q116 => k_is)
    (case q117 => k_is)
    (case q118 => k_is)
    (case q119 => k_is)
    (case q120 => k_is)
    (case q121 => k_is)
    (case q122 => k_is)
    (case q124 => k_is)
    (case q125 => k_is)
    (case q128 => k_is)
    (case q129 => k_is)
    (case q132 => k_is)
    (case q133 => k_is)
    (case q136 => k_is)
    (case q137 => k_is)
    (case q140 => k_is)
    (case q141 => k_is)
    (case q144 => k_is)
    (case q145 => k_is)
    (case q147 => k_is)
    (case q148 => k_is)
    (case q153 => k_is)
    (case q154 => k_is)
    (case q156 => k_is)
    (case q158 => k_is)
    (case q159 => k_is)
    (case q162 => k_is)
    (case q163 => k_is)
    (case q166 => k_is)
    (case q167 => k_is)
    (case q168 => k_is)
    (case q170 => k_is)
    (case q171 => k_is)
    (case q175 => k_exc)
    (case q176 => k_is)
    (case q73 => rfl)
    (case q104 => rfl)
    (case q107 => rfl)
    (case q173 => rfl)
