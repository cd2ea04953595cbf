import PyProof.Rows.All
import Wide.All
import OpenK.AllK
import Wide.FinOn
import HandS.Base
import HandS.Call
import HandS.List
import HandS.Ends
import HandS.Words
import HandS.Exc
import HandS.ExcOwn
import HandS.Wide
import HandS.ForExc
import HandS.IsInst
import HandS.Property
import HandS.Gcd
import HandS.Defaults
import KE.KFromBytes
import HandS.SlotsOwn
import PySem.Challenge.RW_bestpapers_k01_fraction_operators
import HandS.ExcIs
set_option Elab.async false
set_option linter.all false
set_option maxRecDepth 100000
set_option maxHeartbeats 4000000
set_option exponentiation.threshold 10000
namespace Bp
open PySem.Spec PySem PyProof.Rows L2 PySem.W

section
variable {prog : Program} {w : World} {A : Around} {E : Value → Shared → Prop} {s : Shared} {C dx p : Addr} {Q : Value → Shared → Prop} {i : Int} {t : Tok}
theorem dec_add (ho : s.heap.get? p = some (instObj C dx)) (h : Q .notImplemented s) : wpAny (model prog w) A (call (.builtin "int.__add__") [.int i t, .ref p]) Q E s := by
  obtain ⟨hp, g, d, tk, os⟩ := s
  refine wpAny_call (codeAny_call_builtin F.slot_int_add.plain F.entry_int_add (F.slot_int_add.check _ _ _ _ _ _ _ _ (typeIs_int _ i t) (F.args_int_add_2 _ _) ?_))
  wp_walk using AutoSeq1.wpAny_loadPart' ho
  exact h
theorem dec_sub (ho : s.heap.get? p = some (instObj C dx)) (h : Q .notImplemented s) : wpAny (model prog w) A (call (.builtin "int.__sub__") [.int i t, .ref p]) Q E s := by
  obtain ⟨hp, g, d, tk, os⟩ := s
  refine wpAny_call (codeAny_call_builtin F.slot_int_sub.plain F.entry_int_sub (F.slot_int_sub.check _ _ _ _ _ _ _ _ (typeIs_int _ i t) (F.args_int_sub_2 _ _) ?_))
  wp_walk using AutoSeq1.wpAny_loadPart' ho
  exact h
theorem dec_mul (ho : s.heap.get? p = some (instObj C dx)) (h : Q .notImplemented s) : wpAny (model prog w) A (call (.builtin "int.__mul__") [.int i t, .ref p]) Q E s := by
  obtain ⟨hp, g, d, tk, os⟩ := s
  refine wpAny_call (codeAny_call_builtin F.slot_int_mul.plain F.entry_int_mul (F.slot_int_mul.check _ _ _ _ _ _ _ _ (typeIs_int _ i t) (F.args_int_mul_2 _ _) ?_))
  wp_walk using AutoSeq1.wpAny_loadPart' ho
  exact h
theorem dec_floordiv (ho : s.heap.get? p = some (instObj C dx)) (h : Q .notImplemented s) : wpAny (model prog w) A (call (.builtin "int.__floordiv__") [.int i t, .ref p]) Q E s := by
  obtain ⟨hp, g, d, tk, os⟩ := s
  refine wpAny_call (codeAny_call_builtin F.slot_int_floordiv.plain F.entry_int_floordiv (F.slot_int_floordiv.check _ _ _ _ _ _ _ _ (typeIs_int _ i t) (F.args_int_floordiv_2 _ _) ?_))
  wp_walk using AutoSeq1.wpAny_loadPart' ho
  exact h
theorem dec_mod (ho : s.heap.get? p = some (instObj C dx)) (h : Q .notImplemented s) : wpAny (model prog w) A (call (.builtin "int.__mod__") [.int i t, .ref p]) Q E s := by
  obtain ⟨hp, g, d, tk, os⟩ := s
  refine wpAny_call (codeAny_call_builtin F.slot_int_mod.plain F.entry_int_mod (F.slot_int_mod.check _ _ _ _ _ _ _ _ (typeIs_int _ i t) (F.args_int_mod_2 _ _) ?_))
  wp_walk using AutoSeq1.wpAny_loadPart' ho
  exact h
theorem dec_lt (ho : s.heap.get? p = some (instObj C dx)) (h : Q .notImplemented s) : wpAny (model prog w) A (call (.builtin "int.__lt__") [.int i t, .ref p]) Q E s := by
  obtain ⟨hp, g, d, tk, os⟩ := s
  refine wpAny_call (codeAny_call_builtin F.slot_int_lt.plain F.entry_int_lt (F.slot_int_lt.check _ _ _ _ _ _ _ _ (typeIs_int _ i t) (F.args_int_lt_2 _ _) ?_))
  wp_walk using AutoSeq1.wpAny_loadPart' ho
  exact h
theorem dec_le (ho : s.heap.get? p = some (instObj C dx)) (h : Q .notImplemented s) : wpAny (model prog w) A (call (.builtin "int.__le__") [.int i t, .ref p]) Q E s := by
  obtain ⟨hp, g, d, tk, os⟩ := s
  refine wpAny_call (codeAny_call_builtin F.slot_int_le.plain F.entry_int_le (F.slot_int_le.check _ _ _ _ _ _ _ _ (typeIs_int _ i t) (F.args_int_le_2 _ _) ?_))
  wp_walk using AutoSeq1.wpAny_loadPart' ho
  exact h
theorem dec_gt (ho : s.heap.get? p = some (instObj C dx)) (h : Q .notImplemented s) : wpAny (model prog w) A (call (.builtin "int.__gt__") [.int i t, .ref p]) Q E s := by
  obtain ⟨hp, g, d, tk, os⟩ := s
  refine wpAny_call (codeAny_call_builtin F.slot_int_gt.plain F.entry_int_gt (F.slot_int_gt.check _ _ _ _ _ _ _ _ (typeIs_int _ i t) (F.args_int_gt_2 _ _) ?_))
  wp_walk using AutoSeq1.wpAny_loadPart' ho
  exact h
theorem dec_ge (ho : s.heap.get? p = some (instObj C dx)) (h : Q .notImplemented s) : wpAny (model prog w) A (call (.builtin "int.__ge__") [.int i t, .ref p]) Q E s := by
  obtain ⟨hp, g, d, tk, os⟩ := s
  refine wpAny_call (codeAny_call_builtin F.slot_int_ge.plain F.entry_int_ge (F.slot_int_ge.check _ _ _ _ _ _ _ _ (typeIs_int _ i t) (F.args_int_ge_2 _ _) ?_))
  wp_walk using AutoSeq1.wpAny_loadPart' ho
  exact h
theorem dec_eq (ho : s.heap.get? p = some (instObj C dx)) (h : Q .notImplemented s) : wpAny (model prog w) A (call (.builtin "int.__eq__") [.int i t, .ref p]) Q E s := by
  obtain ⟨hp, g, d, tk, os⟩ := s
  refine wpAny_call (codeAny_call_builtin F.slot_int_eq.plain F.entry_int_eq (F.slot_int_eq.check _ _ _ _ _ _ _ _ (typeIs_int _ i t) (F.args_int_eq_2 _ _) ?_))
  wp_walk using AutoSeq1.wpAny_loadPart' ho
  exact h
theorem dec_ne (ho : s.heap.get? p = some (instObj C dx)) (h : Q .notImplemented s) : wpAny (model prog w) A (call (.builtin "int.__ne__") [.int i t, .ref p]) Q E s := by
  obtain ⟨hp, g, d, tk, os⟩ := s
  refine wpAny_call (codeAny_call_builtin F.slot_int_ne.plain F.entry_int_ne (F.slot_int_ne.check _ _ _ _ _ _ _ _ (typeIs_int _ i t) (F.args_int_ne_2 _ _) ?_))
  wp_walk using AutoSeq1.wpAny_loadPart' ho
  exact h

/-- the answer of a def of one's own for an operator: some value -/
abbrev Got (Q : Value → Shared → Prop) (r : Option Value) (s' : Shared) : Prop := ∃ v, r = some v ∧ Q v s'
section
variable {K : Frag} {f g : Addr} {ox : Obj} {od : Option Obj} {nm T : String} {b : Value} {x : Addr} {fo ro rc : Option Value}
/-- x op b, both of the class at C -/
theorem own1_same (X : K.In s.heap) (I : InstAt s.heap x ox C od) (hb : Looks (model prog w) s.heap (typeOf b) (.ref C)) (hc : selfFirst K C = true)
    (hs : findIn K (.ref C) (PySem.dunder nm) = some (some (.ref f))) (hf : isFn K (.ref f) = true)
    (h : wpAny (model prog w) A (call (.ref f) [.ref x, b]) (PySem.W.CmpBack Q) E s) : wpAny (model prog w) A (binaryOp1 nm (.ref x) b) (Got Q) E s := by
  have k1 := ksp_try X I hs hf h
  obtain ⟨cd, rest, hcd, hm⟩ := ksp_first hc
  obtain ⟨hh, gg, d, tt, os⟩ := s
  have e1 : Looks (model prog w) hh (typeOf (.ref x)) (.ref C) := I.type
  have e3 : Looks (model prog w) hh (fillsNumberSlot (.ref C) nm) true := fills_K X hcd hm hs
  unfold binaryOp1
  refine wpAny_bind (e1.at (wpAny_bind (hb.at (wpAny_bind (e3.at ?_)))))
  simp only [beq_self_eq_true, if_true]
  ksp_lk
  refine wpAny_mono k1 (fun r s' q => ?_) fun _ _ e => e
  obtain ⟨v, rfl, q⟩ := q
  ksp_lk
  exact ⟨v, rfl, q⟩
/-- x op b, x of the class at C, b of a built-in type -/
theorem own1_base (X : K.In s.heap) (I : InstAt s.heap x ox C od) (hb : typeOf b = pure (.type T)) (hc : selfFirst K C = true)
    (hs : findIn K (.ref C) (PySem.dunder nm) = some (some (.ref f))) (hf : isFn K (.ref f) = true) (hr : findIn K (.ref C) (dunderR nm) = some rc) (hp : rc = none ∨ ∃ g : Addr, rc = some (.ref g))
    (h1 : findIn K (.type T) (PySem.dunder nm) = some fo) (h2 : findIn K (.type T) (dunderR nm) = some ro) (hsub : subIn K (.type T) (.ref C) = some false)
    (h : wpAny (model prog w) A (call (.ref f) [.ref x, b]) (PySem.W.CmpBack Q) E s) : wpAny (model prog w) A (binaryOp1 nm (.ref x) b) (Got Q) E s := by
  have k1 := ksp_try X I hs hf h
  obtain ⟨cd, rest, hcd, hm⟩ := ksp_first hc
  obtain ⟨hh, gg, d, tt, os⟩ := s
  have e1 : Looks (model prog w) hh (typeOf (.ref x)) (.ref C) := I.type
  have e2 : Looks (model prog w) hh (typeOf b) (.type T) := .of_pure hb
  have e3 : Looks (model prog w) hh (fillsNumberSlot (.ref C) nm) true := fills_K X hcd hm hs
  have e4 : Looks (model prog w) hh (fillsNumberSlot (.type T) nm) _ := ksp_fillsT X h1 h2
  have e5 : Looks (model prog w) hh (isSubtype (.type T) (.ref C)) false := looks_subIn X hsub
  have e6 : Looks (model prog w) hh (numberSlotInPython (.ref C) nm) true := ksp_inPy X hs hr hp
  have e7 : Looks (model prog w) hh (numberSlotInPython (.type T) nm) false := .of_pure rfl
  have e8 : Looks (model prog w) hh (typeLookup (.type T) (dunderR nm)) ro := looks_findIn X h2
  generalize ((fo.isSome && !isSeqSlot fo) || (ro.isSome && !isSeqSlot ro)) = right at e4
  have ne : (Value.ref C == Value.type T) = false := Bool.eq_false_iff.mpr fun q => by cases beq_iff_eq.mp q
  unfold binaryOp1
  refine wpAny_bind (e1.at (wpAny_bind (e2.at (wpAny_bind (e3.at ?_)))))
  simp only [ne, Bool.false_eq_true, if_false]
  cases right <;>
  · ksp_lk
    refine wpAny_mono k1 (fun r s' q => ?_) fun _ _ e => e
    obtain ⟨v, rfl, q⟩ := q
    ksp_lk
    exact ⟨v, rfl, q⟩
/-- i op x, i an int, x of the class at C: the int declines, the reflected def answers -/
theorem own1_refl {idl : String} (X : K.In s.heap) (I : InstAt s.heap x ox C od) (hc : selfFirst K C = true) (hfl : fillsNumberSlot (.type "int") nm = pure true)
    (hs : findIn K (.ref C) (PySem.dunder nm) = some (some (.ref f))) (hr : findIn K (.ref C) (dunderR nm) = some (some (.ref g))) (hg : isFn K (.ref g) = true) (hsub : subIn K (.ref C) (.type "int") = some false)
    (slot : Slot "int" (PySem.dunder nm) idl) (dec : ∀ {Q : Value → Shared → Prop} {E : Value → Shared → Prop}, Q .notImplemented s → wpAny (model prog w) A (call (.builtin idl) [.int i t, .ref x]) Q E s)
    (h : wpAny (model prog w) A (call (.ref g) [.ref x, .int i t]) (PySem.W.CmpBack Q) E s) : wpAny (model prog w) A (binaryOp1 nm (.int i t) (.ref x)) (Got Q) E s := by
  have k1 := ksp_try X I hr hg h
  obtain ⟨cd, rest, hcd, hm⟩ := ksp_first hc
  have k2 : wpAny (model prog w) A (tryMethod (.int i t) (PySem.dunder nm) (.ref x)) (fun r s' => r = none ∧ s' = s) E s := wpAny_tryMethod_declines (typeIs_int s i t) slot (dec ⟨rfl, rfl, rfl⟩)
  obtain ⟨hh, gg, d, tt, os⟩ := s
  have e1 : Looks (model prog w) hh (typeOf (.ref x)) (.ref C) := I.type
  have e2 : Looks (model prog w) hh (typeOf (.int i t)) (.type "int") := .of_pure rfl
  have e3 : Looks (model prog w) hh (fillsNumberSlot (.ref C) nm) true := fills_K X hcd hm hs
  have e4 : Looks (model prog w) hh (fillsNumberSlot (.type "int") nm) true := .of_pure hfl
  have e5 : Looks (model prog w) hh (isSubtype (.ref C) (.type "int")) false := looks_subIn X hsub
  have e7 : Looks (model prog w) hh (numberSlotInPython (.type "int") nm) false := .of_pure rfl
  have ne : (Value.type "int" == Value.ref C) = false := Bool.eq_false_iff.mpr fun q => by cases beq_iff_eq.mp q
  unfold binaryOp1
  refine wpAny_bind (e2.at (wpAny_bind (e1.at (wpAny_bind (e4.at ?_)))))
  simp only [ne, Bool.false_eq_true, if_false]
  ksp_lk
  refine wpAny_mono k2 (fun r s' q => ?_) fun _ _ e => e
  obtain ⟨rfl, rfl⟩ := q
  ksp_lk
  refine wpAny_mono k1 (fun r s' q => ?_) fun _ _ e => e
  obtain ⟨v, rfl, q⟩ := q
  ksp_lk
  exact ⟨v, rfl, q⟩
/-- the operator from its first half -/
theorem bin_of1 {op : Operator} {a b : Value} (h : wpAny (model prog w) A (binaryOp1 op.info.2 a b) (Got Q) E s) : wpAny (model prog w) A (binaryOp op a b) Q E s := by
  rcases hi : op.info with ⟨sym, n⟩
  rw [hi] at h
  simp only [binaryOp, hi]
  refine wpAny_holding (wpAny_bind (wpAny_mono h (fun r s' q => ?_) fun _ _ e => e))
  obtain ⟨v, rfl, q⟩ := q
  exact wpAny_pure q
/-- x op= b where the class has no operator in place -/
theorem inp_of1 {op : Operator} {cd : ClassData} (X : K.In s.heap) (I : InstAt s.heap x ox C od) (hcd : clsIn K C = some cd) (hm : cd.mro = [.ref C, .type "object"])
    (n1 : findIn K (.ref C) (dunderI op.info.2) = some none) (n2 : findIn K (.type "object") (dunderI op.info.2) = some none)
    (h : wpAny (model prog w) A (binaryOp1 op.info.2 (.ref x) b) (Got Q) E s) : wpAny (model prog w) A (inplaceOp op (.ref x) b) Q E s := by
  obtain ⟨hh, gg, d, tt, os⟩ := s
  have e1 : Looks (model prog w) hh (typeOf (.ref x)) (.ref C) := I.type
  have e2 : Looks (model prog w) hh (mroOf (.ref C)) [.ref C, .type "object"] := hm ▸ (looks_clsIn X hcd).andThen (f := fun cd => pure cd.mro) .now
  have e3 : Looks (model prog w) hh (typeLookup (.ref C) (dunderI op.info.2)) none := looks_findIn X n1
  have e4 : Looks (model prog w) hh (typeLookup (.type "object") (dunderI op.info.2)) none := looks_findIn X n2
  unfold inplaceOp fillsInplaceSlot
  refine wpAny_holding ?_
  refine wpAny_bind (e1.at ?_)
  refine wpAny_bind ?_
  refine wpAny_bind (e2.at ?_)
  rw [List.anyM_cons]
  refine wpAny_bind (wpAny_bind (e3.at (wpAny_pure ?_)))
  simp only [Bool.false_eq_true, if_false]
  rw [List.anyM_cons]
  refine wpAny_bind (wpAny_bind (e4.at (wpAny_pure ?_)))
  simp only [Bool.false_eq_true, if_false]
  rw [List.anyM_nil]
  refine wpAny_pure ?_
  simp only [Bool.false_eq_true, if_false]
  refine wpAny_bind (wpAny_mono h (fun r s' q => ?_) fun _ _ e => e)
  obtain ⟨v, rfl, q⟩ := q
  exact wpAny_pure q
/-- i < x and its like, i an int: the int declines, the turned def answers -/
theorem cmp_refl {op : CmpOp} {idl : String} (hu : A.units < cLine) (X : K.In s.heap) (I : InstAt s.heap x ox C od) (hr : findIn K (.ref C) (cmpInfo op).2.2 = some (some (.ref g))) (hg : isFn K (.ref g) = true)
    (hsub : subIn K (.ref C) (.type "int") = some false) (slot : Slot "int" (cmpInfo op).2.1 idl)
    (dec : ∀ {Q : Value → Shared → Prop} {E : Value → Shared → Prop}, Q .notImplemented s → wpAny (model prog w) A (call (.builtin idl) [.int i t, .ref x]) Q E s)
    (h : wpAny (model prog w) A (call (.ref g) [.ref x, .int i t]) (PySem.W.CmpBack Q) E s) : wpAny (model prog w) A (richCompare op (.int i t) (.ref x)) Q E s := by
  have k1 : wpAny (model prog w) A (tryCompare (.ref x) (cmpInfo op).2.2 (.int i t)) (Got Q) E s := by
    unfold tryCompare
    refine wpAny_bind (ifBound_K X I hr hg (wpAny_mono h (fun v s' q => ?_) fun _ _ e => e))
    cases v <;> first | exact q.elim | exact wpAny_pure ⟨_, rfl, q⟩
  have k2 : wpAny (model prog w) A (tryCompare (.int i t) (cmpInfo op).2.1 (.ref x)) (fun r s' => r = none ∧ s' = s) E s := wpAny_tryCompare_declines (typeIs_int s i t) slot (dec ⟨rfl, rfl, rfl⟩)
  have e1 := I.type (M := model prog w)
  have e5 : Looks (model prog w) s.heap (isSubtype (.ref C) (.type "int")) false := looks_subIn X hsub
  have one : oneThing? op (.int i t) (.ref x) = none := by cases op <;> rfl
  have ne : (Value.type "int" != Value.ref C) = true := by
    rw [bne_iff_ne]
    intro q
    cases q
  unfold richCompare
  simp only [one]
  refine wpAny_holding (wpAny_bind (wpAny_cRoomFor hu ?_))
  refine wpAny_bind (wpAny_typeOf (typeIs_int s i t) (wpAny_bind (e1.here ?_)))
  rw [if_pos ne]
  refine wpAny_bind (e5.here ?_)
  simp only [Bool.false_eq_true, if_false]
  refine wpAny_bind (wpAny_mono k2 (fun r s' q => ?_) fun _ _ e => e)
  obtain ⟨rfl, rfl⟩ := q
  simp only [Bool.not_false, if_true]
  refine wpAny_bind (wpAny_mono k1 (fun r s' q => ?_) fun _ _ e => e)
  obtain ⟨v, rfl, q⟩ := q
  exact wpAny_pure q
end
end
end Bp

namespace Bp
open PySem.Spec PySem PyProof.Rows
open L2 hiding St

/-! ### operators whose wish of an exception hangs on the slots -/
abbrev R2S := L2.St → R2
def OpS (X : Cx) (f : Value → Value → Sem Value) (r : R2S) : Prop :=
  ∀ (pins : List (Addr × Obj)) (s : Shared) (σ : L2.St) (H : Hp) (x y : V) (v u : Value) (Q : VK), Inv X pins σ H s → RelV x v → RelV y u → r σ x y H Q → wpAny (model X.prog X.w) X.A (f v u) (EP X pins σ Q) X.xe s
def tOpS (r : R2S) (ta tb : TE) : TE := fun σ H Q => ta σ H fun x H1 => tb σ H1 fun y H2 => r σ x y H2 Q
section
variable {X : Cx} {a b : Expr} {ta tb : TE} {pos : Pos} {r r' : R2S}
theorem OpS.or {f : Value → Value → Sem Value} (h : OpS X f r) (h' : OpS X f r') : OpS X f (fun σ x y H Q => r σ x y H Q ∨ r' σ x y H Q) := by
  intro pins s σ H x y v u Q I rx ry q
  exact q.elim (fun q => h pins s σ H x y v u Q I rx ry q) (fun q => h' pins s σ H x y v u Q I rx ry q)
theorem OpS.of {f : Value → Value → Sem Value} {r : R2} (h : OpR X f r) : OpS X f (fun _ => r) := fun pins s σ H x y v u Q I rx ry q => h pins s σ H x y v u Q I rx ry q
theorem OpS.imp {f : Value → Value → Sem Value} (h : OpS X f r) (k : ∀ σ x y H Q, r' σ x y H Q → r σ x y H Q) : OpS X f r' := fun pins s σ H x y v u Q I rx ry q => h pins s σ H x y v u Q I rx ry (k _ _ _ _ _ q)
theorem pe_opS {op : Operator} (ho : OpS X (binaryOp op) r) (ha : PE X a ta) (hb : PE X b tb) : PE X (.BinOp a op b pos) (tOpS r ta tb) := by
  refine ⟨fun pins s σ H Q I h => wpAny_BinOp (binT ha hb I h fun v u s2 x y H2 I2 rx ry q => ?_)⟩
  exact ho pins s2 σ H2 x y v u Q I2 rx ry q
theorem pe_cmpS {op : CmpOp} (ho : OpS X (compareOp op) r) (ha : PE X a ta) (hb : PE X b tb) (hm : behindInMarks op b = false) : PE X (.Compare a [op] [b] pos) (tOpS r ta tb) := by
  refine ⟨fun pins s σ H Q I h => wpAny_Compare1 (binT ha hb I h fun v u s2 x y H2 I2 rx ry q => ?_) hm⟩
  exact ho pins s2 σ H2 x y v u Q I2 rx ry q
theorem pt_cmpS {op : CmpOp} (ho : OpS X (compareOp op) r) (ha : PE X a ta) (hb : PE X b tb) (hm : behindInMarks op b = false) : PT X (.Compare a [op] [b] pos) (tTest (tOpS r ta tb)) := by
  refine ⟨fun pins s σ H Q I h => ?_⟩
  refine wpAny_isTrue_Compare1 (thn (ha.run pins s σ H _ I h) fun v s1 ⟨x, H1, I1, r1, q1⟩ => thn (hb.run pins s1 σ H1 _ I1 q1) fun u s2 ⟨y, H2, I2, r2, q2⟩ => ?_) hm
  refine thn (ho pins s2 σ H2 x y v u _ I2 r1 r2 q2) fun c s3 ⟨z, H3, I3, r3, k, e, q3⟩ => ?_
  subst e
  cases r3
  exact wpAny_truthy_bool ⟨H3, I3, q3⟩
/-- x op= e at a name -/
def tAugS1 (i : Nat) (te : TE) (r : R2S) : TS := fun D σ H => ∃ x, σ[i]? = some (some x) ∧ te σ H fun y H1 => r σ x y H1 fun z H2 => D.nx (σ.set i (some z)) H2
end

/-! ### instances of the class at C as operands -/
def IsI (C : Addr) (H : Hp) (y : V) : Prop := ∃ b dx fs, y = .ref b ∧ H b = some (.ins C dx fs)
theorem inst_of {X : Cx} {pins : List (Addr × Obj)} {σ : L2.St} {H : Hp} {s : Shared} {C b dx : Addr} {fs : List (Str × V)} (I : Inv X pins σ H s) (h : H b = some (.ins C dx fs)) :
    s.heap.get? b = some (PySem.W.instObj C dx) ∧ ∃ od, PySem.W.InstAt s.heap b (PySem.W.instObj C dx) C (some od) := by
  obtain ⟨mA, O, _, _, _, _⟩ := ins_get I.hok h
  obtain ⟨od, J, _⟩ := O.look
  exact ⟨O.obj, od, J⟩
/-- what the text must say of the class at C and of its def f for the operator nm -/
structure BinT (K : PySem.W.Frag) (C f : Addr) (nm : String) : Prop where
  hc : PySem.W.selfFirst K C = true
  hs : PySem.W.findIn K (.ref C) (PySem.dunder nm) = some (some (.ref f))
  hf : PySem.W.isFn K (.ref f) = true
  hr : ∃ rc, PySem.W.findIn K (.ref C) (dunderR nm) = some rc ∧ (rc = none ∨ ∃ g : Addr, rc = some (.ref g))
  h1 : ∃ fo, PySem.W.findIn K (.type "int") (PySem.dunder nm) = some fo
  h2 : ∃ ro, PySem.W.findIn K (.type "int") (dunderR nm) = some ro
  sub : PySem.W.subIn K (.type "int") (.ref C) = some false
  subC : PySem.W.subIn K (.ref C) (.type "int") = some false
section
variable {X : Cx} {CX : CXT} {k : Nat} {C f g : Addr} {fd : FuncData} {ps : List Str} {sp : Sp} {E : L2.St → XK}
def rOwn (C : Addr) (sp : Sp) (E : L2.St → XK) : R2S := fun σ x y H Q => IsI C H x ∧ (IsI C H y ∨ ∃ j, y = .int j) ∧ sp [x, y] H Q (E σ)
def rRef (C : Addr) (sp : Sp) (E : L2.St → XK) : R2S := fun σ x y H Q => (∃ i, x = .int i) ∧ IsI C H y ∧ sp [y, x] H Q (E σ)
theorem ownback {pins : List (Addr × Obj)} {σ : L2.St} {Q : VK} {v : Value} {s' : Shared} (h : EP X pins σ Q v s') : PySem.W.CmpBack (EP X pins σ Q) v s' := by
  have h' := h
  obtain ⟨z, H', I, rz, q⟩ := h
  cases z with
  | non => cases (show v = Value.none from rz); exact h'
  | bl b => cases (show v = Value.bool b from rz); exact h'
  | int i => obtain ⟨t, rfl⟩ := (show ∃ t, v = Value.int i t from rz); exact h'
  | str x => obtain ⟨t, rfl⟩ := (show ∃ t, v = Value.str x t from rz); exact h'
  | byt b => obtain ⟨t, rfl⟩ := (show ∃ t, v = Value.bytes b t from rz); exact h'
  | flt b => obtain ⟨t, rfl⟩ := (show ∃ t, v = Value.float b t from rz); exact h'
  | ref a => cases (show v = Value.ref a from rz); exact h'
  | ty n => cases (show v = Value.type n from rz); exact h'
theorem callBack {pins : List (Addr × Obj)} {σ : L2.St} {H : Hp} {s : Shared} {Q : VK} {us : List Value} {vs : List V} (F : FnOk X.prog X.w X.K X.mg X.base CX k f fd ps sp) (hr : Room k X.A) (hb : Binds X.K fd ps []) (hx : ∀ σ, PassesAt CX X σ (E σ))
    (I : Inv X pins σ H s) (r : Vals vs us) (h : sp vs H Q (E σ)) : wpAny (model X.prog X.w) X.A (call (.ref f) us) (PySem.W.CmpBack (EP X pins σ Q)) X.xe s :=
  thn (run_fnS F hr hb (hx σ) I r h) fun _ _ q => ownback q
theorem own1 {nm : String} {pins : List (Addr × Obj)} {s : Shared} {σ : L2.St} {H : Hp} {x y : V} {v u : Value} {Q : VK} (B : BinT X.K C f nm) (F : FnOk X.prog X.w X.K X.mg X.base CX k f fd ps sp) (hr : Room k X.A) (hb : Binds X.K fd ps [])
    (hx : ∀ σ, PassesAt CX X σ (E σ)) (I : Inv X pins σ H s) (rx : RelV x v) (ry : RelV y u) (h : rOwn C sp E σ x y H Q) : wpAny (model X.prog X.w) X.A (binaryOp1 nm v u) (Got (EP X pins σ Q)) X.xe s := by
  obtain ⟨⟨a, dx, fs, rfl, ha⟩, hy, q⟩ := h
  cases (show v = Value.ref a from rx)
  obtain ⟨_, od, J⟩ := inst_of I ha
  rcases hy with ⟨b, dy, gs, rfl, hb'⟩ | ⟨j, rfl⟩
  · cases (show u = Value.ref b from ry)
    obtain ⟨_, od', J'⟩ := inst_of I hb'
    exact own1_same I.kIn J J'.type B.hc B.hs B.hf (callBack (us := [.ref a, .ref b]) (vs := [.ref a, .ref b]) F hr hb hx I (.cons rfl (.cons rfl .nil)) q)
  · obtain ⟨t, rfl⟩ := (show ∃ t, u = Value.int j t from ry)
    obtain ⟨rc, hrc, hp⟩ := B.hr
    obtain ⟨fo, h1⟩ := B.h1
    obtain ⟨ro, h2⟩ := B.h2
    exact own1_base I.kIn J rfl B.hc B.hs B.hf hrc hp h1 h2 B.sub (callBack (us := [.ref a, .int j t]) (vs := [.ref a, .int j]) F hr hb hx I (.cons rfl (.cons ⟨t, rfl⟩ .nil)) q)
theorem op_own {op : Operator} (B : BinT X.K C f op.info.2) (F : FnOk X.prog X.w X.K X.mg X.base CX k f fd ps sp) (hr : Room k X.A) (hb : Binds X.K fd ps []) (hx : ∀ σ, PassesAt CX X σ (E σ)) : OpS X (binaryOp op) (rOwn C sp E) :=
  fun pins s σ H x y v u Q I rx ry h => bin_of1 (own1 B F hr hb hx I rx ry h)
/-- the built-in half: an int's own def for the operator, which declines -/
structure IntT (nm : String) (idl : String) : Prop where
  fl : fillsNumberSlot (.type "int") nm = pure true
  slot : Slot "int" (PySem.dunder nm) idl
  dec : ∀ {prog : Program} {w : World} {A : Around} {E : Value → Shared → Prop} {s : Shared} {C dx p : Addr} {Q : Value → Shared → Prop} {i : Int} {t : Tok}, s.heap.get? p = some (PySem.W.instObj C dx) → Q .notImplemented s →
    wpAny (model prog w) A (call (.builtin idl) [.int i t, .ref p]) Q E s
theorem op_ref {op : Operator} {idl : String} (L : IntT op.info.2 idl) (B : BinT X.K C f op.info.2) (hg : PySem.W.findIn X.K (.ref C) (dunderR op.info.2) = some (some (.ref g))) (fg : PySem.W.isFn X.K (.ref g) = true)
    (F : FnOk X.prog X.w X.K X.mg X.base CX k g fd ps sp) (hr : Room k X.A) (hb : Binds X.K fd ps []) (hx : ∀ σ, PassesAt CX X σ (E σ)) : OpS X (binaryOp op) (rRef C sp E) := by
  intro pins s σ H x y v u Q I rx ry h
  obtain ⟨⟨i, rfl⟩, ⟨b, dy, gs, rfl, hb'⟩, q⟩ := h
  obtain ⟨t, rfl⟩ := (show ∃ t, v = Value.int i t from rx)
  cases (show u = Value.ref b from ry)
  obtain ⟨ho, od, J⟩ := inst_of I hb'
  exact bin_of1 (own1_refl I.kIn J B.hc L.fl B.hs hg fg B.subC L.slot (fun {_ _} z => L.dec ho z) (callBack (us := [.ref b, .int i t]) (vs := [.ref b, .int i]) F hr hb hx I (.cons rfl (.cons ⟨t, rfl⟩ .nil)) q))
theorem int_add : IntT "add" "int.__add__" := ⟨F.fills_int_add, F.slot_int_add, fun ho q => dec_add ho q⟩
theorem int_sub : IntT "sub" "int.__sub__" := ⟨F.fills_int_sub, F.slot_int_sub, fun ho q => dec_sub ho q⟩
theorem int_mul : IntT "mul" "int.__mul__" := ⟨F.fills_int_mul, F.slot_int_mul, fun ho q => dec_mul ho q⟩
theorem int_floordiv : IntT "floordiv" "int.__floordiv__" := ⟨F.fills_int_floordiv, F.slot_int_floordiv, fun ho q => dec_floordiv ho q⟩
theorem int_mod : IntT "mod" "int.__mod__" := ⟨F.fills_int_mod, F.slot_int_mod, fun ho q => dec_mod ho q⟩
/-- x op= e at a name that holds an instance; the class has no operator in place -/
theorem ps_augOwn {i : Nat} {x : Str} {e : Expr} {te : TE} {op : Operator} {r : R2S} {pos pos' : Pos} (hN : X.N.Nodup) (hi : X.N[i]? = some x) (hx : X.env.scope.names.lookup x = some .local) (he : PE X e te) (ho : OpS X (inplaceOp op) r) :
    PS X (.AugAssign (.Name x pos') op e pos) (tAugS1 i te r) := by
  refine ⟨fun pins s σ H D I h => ?_⟩
  obtain ⟨v, e1, h⟩ := h
  obtain ⟨m, hn, hl⟩ := I.loc
  obtain ⟨u, ru, l⟩ := hl i x v hi e1 (.inl hx)
  have go : wpAny (model X.prog X.w) X.A (eval e X.env) (fun w' s1 => wpAny (model X.prog X.w) X.A (inplaceOp op u w') (fun z s2 => wpAny (model X.prog X.w) X.A (storeName X.env x z) (fun _ => SP X pins D .next) X.xe s2) X.xe s1) X.xe s := by
    refine thn (he.run pins s σ H _ I h) fun w' s1 ⟨y, H1, I1, r1, q1⟩ => thn (ho pins s1 σ H1 v y u w' _ I1 ru r1 q1) fun z s2 ⟨zv, H2, I2, r2, q2⟩ => ?_
    exact store_ok I2 hN hi (.inl hx) r2 (fun s3 I3 => ⟨_, H2, I3, q2⟩) (.inr hx)
  refine wpAny_AugAssign_Name ?_
  rcases l with ⟨hk, hm⟩ | ⟨hk, _⟩
  · exact wpAny_loadName_local I.ok.kind hk hn hm go
  · have z : X.env.scope.names.lookup x = some .cell ∨ X.env.scope.names.lookup x = some .free := hk
    rw [hx] at z
    rcases z with z | z <;> cases z
theorem inp_own {op : Operator} {cd : ClassData} (hcd : PySem.W.clsIn X.K C = some cd) (hm : cd.mro = [.ref C, .type "object"]) (n1 : PySem.W.findIn X.K (.ref C) (dunderI op.info.2) = some none) (n2 : PySem.W.findIn X.K (.type "object") (dunderI op.info.2) = some none)
    (B : BinT X.K C f op.info.2) (F : FnOk X.prog X.w X.K X.mg X.base CX k f fd ps sp) (hr : Room k X.A) (hb : Binds X.K fd ps []) (hx : ∀ σ, PassesAt CX X σ (E σ)) : OpS X (inplaceOp op) (rOwn C sp E) := by
  intro pins s σ H x y v u Q I rx ry h
  have h' := h
  obtain ⟨⟨a, dx, fs, rfl, ha⟩, _, _⟩ := h'
  have e : v = Value.ref a := rx
  have one := own1 B F hr hb hx I rx ry h
  subst e
  obtain ⟨_, od, J⟩ := inst_of I ha
  exact inp_of1 I.kIn J hcd hm n1 n2 one
/-! ### comparisons -/
theorem cmp_own {op : CmpOp} (hop : ∀ a b, compareOp op a b = richCompare op a b) (hs : PySem.W.findIn X.K (.ref C) (cmpInfo op).2.1 = some (some (.ref f))) (hf : PySem.W.isFn X.K (.ref f) = true) (sub : PySem.W.subIn X.K (.type "int") (.ref C) = some false)
    (F : FnOk X.prog X.w X.K X.mg X.base CX k f fd ps sp) (hr : Room k X.A) (hb : Binds X.K fd ps []) (hx : ∀ σ, PassesAt CX X σ (E σ)) : OpS X (compareOp op) (rOwn C sp E) := by
  intro pins s σ H x y v u Q I rx ry h
  obtain ⟨⟨a, dx, fs, rfl, ha⟩, hy, q⟩ := h
  cases (show v = Value.ref a from rx)
  obtain ⟨_, od, J⟩ := inst_of I ha
  obtain ⟨m, hF⟩ := I.fr
  rw [hop]
  rcases hy with ⟨b, dy, gs, rfl, hb'⟩ | ⟨j, rfl⟩
  · cases (show u = Value.ref b from ry)
    obtain ⟨_, od', J'⟩ := inst_of I hb'
    refine PySem.W.cmp_K (tb := .ref C) hr.units0 hF I.ok.mod.kin J J'.type ?_ hs hf (callBack (us := [.ref a, .ref b]) (vs := [.ref a, .ref b]) F hr hb hx I (.cons rfl (.cons rfl .nil)) q)
    unfold PySem.W.notFirst
    rw [beq_self_eq_true, Bool.true_or]
  · obtain ⟨t, rfl⟩ := (show ∃ t, u = Value.int j t from ry)
    refine PySem.W.cmp_K (tb := .type "int") hr.units0 hF I.ok.mod.kin J (.of_pure rfl) ?_ hs hf (callBack (us := [.ref a, .int j t]) (vs := [.ref a, .int j]) F hr hb hx I (.cons rfl (.cons ⟨t, rfl⟩ .nil)) q)
    unfold PySem.W.notFirst
    rw [sub, beq_self_eq_true, Bool.or_true]
structure IntC (op : CmpOp) (idl : String) : Prop where
  slot : Slot "int" (cmpInfo op).2.1 idl
  dec : ∀ {prog : Program} {w : World} {A : Around} {E : Value → Shared → Prop} {s : Shared} {C dx p : Addr} {Q : Value → Shared → Prop} {i : Int} {t : Tok}, s.heap.get? p = some (PySem.W.instObj C dx) → Q .notImplemented s →
    wpAny (model prog w) A (call (.builtin idl) [.int i t, .ref p]) Q E s
theorem cmp_ref {op : CmpOp} {idl : String} (hop : ∀ a b, compareOp op a b = richCompare op a b) (L : IntC op idl) (hs : PySem.W.findIn X.K (.ref C) (cmpInfo op).2.2 = some (some (.ref g))) (hf : PySem.W.isFn X.K (.ref g) = true)
    (subC : PySem.W.subIn X.K (.ref C) (.type "int") = some false) (F : FnOk X.prog X.w X.K X.mg X.base CX k g fd ps sp) (hr : Room k X.A) (hb : Binds X.K fd ps []) (hx : ∀ σ, PassesAt CX X σ (E σ)) : OpS X (compareOp op) (rRef C sp E) := by
  intro pins s σ H x y v u Q I rx ry h
  obtain ⟨⟨i, rfl⟩, ⟨b, dy, gs, rfl, hb'⟩, q⟩ := h
  obtain ⟨t, rfl⟩ := (show ∃ t, v = Value.int i t from rx)
  cases (show u = Value.ref b from ry)
  obtain ⟨ho, od, J⟩ := inst_of I hb'
  rw [hop]
  exact cmp_refl hr.units0 I.kIn J hs hf subC L.slot (fun {_ _} z => L.dec ho z) (callBack (us := [.ref b, .int i t]) (vs := [.ref b, .int i]) F hr hb hx I (.cons rfl (.cons ⟨t, rfl⟩ .nil)) q)
theorem int_lt : IntC .Lt "int.__lt__" := ⟨F.slot_int_lt, fun ho q => dec_lt ho q⟩
theorem int_le : IntC .LtE "int.__le__" := ⟨F.slot_int_le, fun ho q => dec_le ho q⟩
theorem int_gt : IntC .Gt "int.__gt__" := ⟨F.slot_int_gt, fun ho q => dec_gt ho q⟩
theorem int_ge : IntC .GtE "int.__ge__" := ⟨F.slot_int_ge, fun ho q => dec_ge ho q⟩
theorem int_eq : IntC .Eq "int.__eq__" := ⟨F.slot_int_eq, fun ho q => dec_eq ho q⟩
theorem int_ne : IntC .NotEq "int.__ne__" := ⟨F.slot_int_ne, fun ho q => dec_ne ho q⟩
/-! ### -x, abs(x), bool(x) of an instance -/
def rUnO (C : Addr) (sp : Sp) (E : XK) : V → Hp → VK → Prop := fun x H Q => IsI C H x ∧ sp [x] H Q E
theorem un_own (hs : PySem.W.findIn X.K (.ref C) "__neg__" = some (some (.ref f))) (hf : PySem.W.isFn X.K (.ref f) = true) (F : FnOk X.prog X.w X.K X.mg X.base CX k f fd ps sp) (hr : Room k X.A) (hb : Binds X.K fd ps []) {E : XK} (hx : ∀ σ, PassesAt CX X σ E) :
    UnR X (unaryOp .USub) (rUnO C sp E) := by
  intro pins s σ H x v Q I rx h
  obtain ⟨⟨a, dx, fs, rfl, ha⟩, q⟩ := h
  cases (show v = Value.ref a from rx)
  obtain ⟨_, od, J⟩ := inst_of I ha
  obtain ⟨m, hF⟩ := I.fr
  exact PySem.W.ksp_neg hF I.ok.mod.kin J hs hf (run_fnS (us := [.ref a]) (vs := [.ref a]) (E := fun _ => E) F hr hb (hx σ) I (.cons rfl .nil) q)
end
/-! ### raise X(), X an own class over ValueError without __init__ -/
section
variable {X : Cx} {C : Addr} {bmB : List Value} {B newId initId : String}
theorem pmk_own0 {x : Str} {p pos : Pos} (F : ExcBaseFacts B newId initId bmB) (q : PySem.W.excIn X.K C bmB newId = true) (gC : X.mg x = some (.ref C)) (kC : PySem.W.keepIn X.K (.ref C) = true) (r : Raises X (.ref C)) (hg : Gl X x)
    (hdb : (x == ("__debug__" : Str)) = false := by decide) : PMk X (.Call (.Name x p) [] [] pos) (fun _ H Q => Q (.ref C) none H) := by
  intro pins s σ H Q I h
  refine wpAny_Call_Name_kw (ld_glob I hg gC ?_ hdb)
  refine PySem.W.callWith_K0 I.kIn kC ?_
  obtain ⟨bm, N, nm, qn, bs, hdct, sn, sub, ab, col, dd, k0, k1, k2, k3, k5, mN, hC, hN, hni, T⟩ := exc_obj I.kIn q
  exact wpAny_call_exc_subT (rest := []) F T hC hN hni (fun h' e hm => mk_of I hm r h (I.hok.gone hm.new)) (by rw [sizeLine_eq]; exact Nat.zero_le _)
end
end Bp

namespace Bp
open PySem.Spec PySem PyProof.Rows
open L2 hiding St

/-! ### a def that hands back NotImplemented -/
/-- behind such a call: all that was tracked stands -/
def NIback (outer : List Env) (P : Program) (w : World) (H : Hp) (s : Shared) (r : Result) (s' : Shared) : Prop :=
  match r with
  | .ok (.ret u) => u = .notImplemented ∧ ∃ H', s'.os = s.os ∧ AllBare s'.gens ∧ Un (frs outer) [] H H' s.heap s'.heap ∧ HOk P w H' s'.heap ∧ Same H H'
  | _ => False
structure FnNI (P : Program) (w : World) (K : PySem.W.Frag) (mg : Str → Option Value) (base : Heap) (k : Nat) (f : Addr) (fd : FuncData) (ps : List Str) (pre : List V → Hp → Prop) : Prop where
  len : ∀ vs H, pre vs H → vs.length = ps.length
  run : ∀ (A : Around) (outer : List Env) (s : Shared) (H : Hp) (args : Args) (us : List Value) (vs : List V), Room k A → Env0 P w K mg base A outer s H → BindsTo s fd args (ps.zip us) → Vals vs us → pre vs H →
    codeAny (model P w) A (.call (.ref f) args) (NIback outer P w H s) s
/-- the body: its first statement is «if test: return NotImplemented», and the test is true -/
theorem ni_of {P : Program} {w : World} {K : PySem.W.Frag} {mg : Str → Option Value} {base : Heap} {k : Nat} {f : Addr} {fd : FuncData} {qual x : Str} {st : Stmt} {N ps : List Str} {pre : List V → Hp → Prop}
    {c : Expr} {p1 p2 p3 : Pos} {rest : List Stmt} (Fn : L2.Fun K x qual st f fd) (S : FnScope N ps (defScope st)) (len : ∀ vs H, pre vs H → vs.length = ps.length)
    (hb : defBody st = .If c [.Return (some (.Name "NotImplemented" p1)) p2] [] p3 :: rest) (hN : mg "NotImplemented" = none) (hg : ∀ X : Cx, X.env.scope = defScope st → Gl X "NotImplemented")
    (ht : ∀ (cdv : Value) (A : Around) (outer : List Env) (s : Shared) (H : Hp) (vs : List V), Room k (A.deeper (envOfC qual (defScope st) s.heap.objs.size f cdv)) → pre vs H →
      ∃ t, PT (cxOf CX0 P w K mg base N qual (defScope st) f cdv A outer s H E0) c t ∧ t (start N vs) H fun b H' => b = true ∧ Same H H') : FnNI P w K mg base (k + 1) f fd ps pre := by
  obtain ⟨oc, od, kV, doc, pm, an, cdv, ct, osl, rfl, lk, hcd⟩ := Fn.ex
  refine ⟨len, fun A outer s H args us vs hr e0 hbt r hp => ?_⟩
  have hl := len _ _ hp
  have KX : K.In s.heap := e0.mod.kin.keeps fun b o e => (e0.bs b o e).1
  have lim : s.heap.NoLimit := e0.mod.nolimit.keeps fun b o e => (e0.bs b o e).1
  have hk : ∀ y ∈ ps.zip us, (defScope st).names.lookup y.1 = some .local ∨ ((defScope st).names.lookup y.1 = some .cell ∧ ((cellsFrom (s.heap.objs.size + 1) (defScope st).names []).lookup y.1).isSome = true) := by
    rintro ⟨n, v⟩ hy
    exact (S.par n (List.of_mem_zip hy).1).elim .inl fun q => .inr ⟨q, PySem.W.cellsFrom_some _ _ _ (.inl q)⟩
  refine codeAny_call_function hr.depth (KX _ _ lk) rfl S.co S.gen rfl (PySem.W.codeRec_of KX hcd) (hbt _ _ _ _ (wpAny_newFunctionEnv_cells S.kind hk fun env he s1 xx => ?_))
  subst he
  refine ⟨lim.keeps xx.toInCall.keep, codeAny_func ?_⟩
  obtain ⟨t, hpt, hq⟩ := ht cdv A outer s H vs (hr.deeper _) hp
  have I : Inv (cxOf CX0 P w K mg base N qual (defScope st) f cdv A outer s H E0) [] (start N vs) H s1 := inv_start S hr.hd e0 hl r xx
  show wpAny _ _ (execs (defBody st) _) _ _ _
  rw [hb]
  refine wpAny_execs_cons (wpAny_If (wpAny_mono (hpt.run [] s1 _ H _ I hq) (fun b s2 q => ?_) (fun e s2 q => ?_)))
  · obtain ⟨H', I2, rfl, same⟩ := q
    rw [if_pos rfl]
    refine wpAny_execs_cons (wpAny_Return_some (ld_blt I2 (hg _ rfl) hN (u := .notImplemented) (by decide +kernel) ?_))
    exact ⟨rfl, H', I2.os, I2.bare, I2.base, I2.hok, same⟩
  · exact wpAny_mono q (fun _ _ z => z.elim) fun _ _ z => z.elim
/-! ### x == y where the own def declines and y is None or a text -/
section
variable {prog : Program} {w : World} {A : Around} {E : Value → Shared → Prop} {s : Shared} {C dx p : Addr} {Q : Value → Shared → Prop}
theorem dec_eq_none (ho : s.heap.get? p = some (PySem.W.instObj C dx)) (h : Q .notImplemented s) : wpAny (model prog w) A (call (.builtin "NoneType.__eq__") [.none, .ref p]) Q E s := by
  obtain ⟨hp, g, d, tk, os⟩ := s
  refine wpAny_call (codeAny_call_builtin F.slot_NoneType_eq.plain F.entry_NoneType_eq (F.slot_NoneType_eq.check _ _ _ _ _ _ _ _ rfl (F.args_NoneType_eq_2 _ _) ?_))
  wp_walk using AutoSeq1.wpAny_loadPart' ho
  exact h
theorem dec_eq_str {x : Str} {t : Tok} (ho : s.heap.get? p = some (PySem.W.instObj C dx)) (h : Q .notImplemented s) : wpAny (model prog w) A (call (.builtin "str.__eq__") [.str x t, .ref p]) Q E s := by
  obtain ⟨hp, g, d, tk, os⟩ := s
  refine wpAny_call (codeAny_call_builtin F.slot_str_eq.plain F.entry_str_eq (F.slot_str_eq.check _ _ _ _ _ _ _ _ (typeIs_str _ x t) (F.args_str_eq_2 _ _) ?_))
  wp_walk using AutoSeq1.wpAny_loadPart' ho
  exact h
end
section
variable {X : Cx} {k : Nat} {C f : Addr} {fd : FuncData} {ps : List Str} {pre : List V → Hp → Prop}
/-- None or a text -/
def NoNum (y : V) : Prop := y = .non ∨ ∃ x, y = .str x
def rDecl (C : Addr) (pre : List V → Hp → Prop) : R2S := fun _ x y H Q => IsI C H x ∧ NoNum y ∧ pre [x, y] H ∧ ∀ H', Same H H' → Q (.bl false) H'
theorem eq_decl (hs : PySem.W.findIn X.K (.ref C) "__eq__" = some (some (.ref f))) (hf : PySem.W.isFn X.K (.ref f) = true) (s1 : PySem.W.subIn X.K (.type "NoneType") (.ref C) = some false) (s2 : PySem.W.subIn X.K (.type "str") (.ref C) = some false)
    (F : FnNI X.prog X.w X.K X.mg X.base k f fd ps pre) (hr : Room k X.A) (hb : L2.Binds X.K fd ps []) : OpS X (compareOp .Eq) (rDecl C pre) := by
  intro pins s σ H x y v u Q I rx ry h
  obtain ⟨⟨a, dx, fs, rfl, ha⟩, hy, hp, q⟩ := h
  cases (show v = Value.ref a from rx)
  obtain ⟨ho, od, J⟩ := inst_of I ha
  have hl : ([Value.ref a, u] ++ []).length = ps.length := F.len _ _ hp
  -- the own def hands back NotImplemented
  have k1 : ∀ {R : Option Value → Shared → Prop}, (∀ s' H', Inv X pins σ H' s' → Same H H' → R none s') → wpAny (model X.prog X.w) X.A (tryCompare (.ref a) "__eq__" u) R X.xe s := by
    intro R z
    unfold tryCompare
    refine wpAny_bind (PySem.W.ifBound_K I.kIn J hs hf (wpAny_call (codeAny_mono (F.run X.A X.stack s H ⟨[.ref a, u], []⟩ [.ref a, u] [.ref a, y] hr I.env0 (hb s [.ref a, u] I.kIn hl) (.cons rfl (.cons ry .nil)) hp) fun r s' hq => ?_)))
    cases r with
    | error e => exact hq.elim
    | ok fl =>
      cases fl with
      | ret u' =>
        obtain ⟨rfl, H', os, ag, un, hok, same⟩ := hq
        exact wpAny_pure (z s' H' (I.call' os un hok ag fun b z => absurd z (by simp)) same)
      | next => exact hq.elim
      | brk => exact hq.elim
      | cont => exact hq.elim
  show wpAny _ _ (richCompare .Eq (.ref a) u) _ _ _
  have e1 := J.type (M := model X.prog X.w)
  rcases hy with rfl | ⟨x, rfl⟩
  · cases (show u = Value.none from ry)
    have e5 : PySem.W.Looks (model X.prog X.w) s.heap (isSubtype (.type "NoneType") (.ref C)) false := PySem.W.looks_subIn I.kIn s1
    have ne : (Value.ref C != Value.type "NoneType") = true := by
      rw [bne_iff_ne]
      intro q
      cases q
    unfold richCompare
    refine wpAny_holding (wpAny_bind (wpAny_cRoomFor hr.units0 ?_))
    refine wpAny_bind (e1.here (wpAny_bind (wpAny_pure ?_)))
    dsimp only
    rw [if_pos ne]
    refine wpAny_bind (e5.here ?_)
    simp only [Bool.false_eq_true, if_false]
    refine wpAny_bind (k1 fun s' H' I' same => ?_)
    obtain ⟨ho', _, _⟩ := inst_of I' (same _ _ ha)
    simp only [Bool.not_false, if_true]
    refine wpAny_bind (wpAny_tryCompare_declines rfl PySem.F.slot_NoneType_eq_refl (dec_eq_none ho' ⟨rfl, ?_⟩))
    refine wpAny_bind (wpAny_rule (wpAny_bind (wpAny_of_eq (isSame_none _) (wpAny_pure ?_))))
    exact ⟨.bl false, H', I', rfl, q H' same⟩
  · obtain ⟨t, rfl⟩ := (show ∃ t, u = Value.str x t from ry)
    have e5 : PySem.W.Looks (model X.prog X.w) s.heap (isSubtype (.type "str") (.ref C)) false := PySem.W.looks_subIn I.kIn s2
    have ne : (Value.ref C != Value.type "str") = true := by
      rw [bne_iff_ne]
      intro q
      cases q
    unfold richCompare
    refine wpAny_holding (wpAny_bind (wpAny_cRoomFor hr.units0 ?_))
    refine wpAny_bind (e1.here (wpAny_bind (wpAny_pure ?_)))
    dsimp only
    rw [if_pos ne]
    refine wpAny_bind (e5.here ?_)
    simp only [Bool.false_eq_true, if_false]
    refine wpAny_bind (k1 fun s' H' I' same => ?_)
    obtain ⟨ho', _, _⟩ := inst_of I' (same _ _ ha)
    simp only [Bool.not_false, if_true]
    refine wpAny_bind (wpAny_tryCompare_declines (typeIs_str s' x t) PySem.F.slot_str_eq_refl (dec_eq_str ho' ⟨rfl, ?_⟩))
    refine wpAny_bind (wpAny_rule (wpAny_bind (wpAny_of_eq (a := false) rfl (wpAny_pure ?_))))
    exact ⟨.bl false, H', I', rfl, q H' same⟩
end
end Bp

namespace Bp
/-! ### fractions: plain Lean over the core's Rat -/
/-- both parts are below 2 ^ b -/
def Sm (b : Nat) (r : Rat) : Prop := r.num.natAbs < 2 ^ b ∧ r.den < 2 ^ b
theorem pow_le {a b : Nat} (h : a ≤ b) : 2 ^ a ≤ 2 ^ b := Nat.pow_le_pow_right (by decide) h
theorem Sm.mono {a b : Nat} {r : Rat} (h : Sm a r) (k : a ≤ b) : Sm b r := ⟨Nat.lt_of_lt_of_le h.1 (pow_le k), Nat.lt_of_lt_of_le h.2 (pow_le k)⟩
theorem Sm.neg {b : Nat} {r : Rat} (h : Sm b r) : Sm b (-r) := ⟨by rw [Rat.neg_num, Int.natAbs_neg]; exact h.1, h.2⟩
theorem natAbs_den (r : Rat) : ((r.den : Int)).natAbs = r.den := rfl
theorem mul_lt {a b x y : Nat} (hx : x < 2 ^ a) (hy : y < 2 ^ b) : x * y < 2 ^ (a + b) := by
  rw [Nat.pow_add]
  exact Nat.mul_lt_mul'' hx hy
theorem imul_lt {a b : Nat} {x y : Int} (hx : x.natAbs < 2 ^ a) (hy : y.natAbs < 2 ^ b) : (x * y).natAbs < 2 ^ (a + b) := by
  rw [Int.natAbs_mul]
  exact mul_lt hx hy
theorem iadd_lt {a b : Nat} {x y : Int} (hx : x.natAbs < 2 ^ a) (hy : y.natAbs < 2 ^ b) : (x + y).natAbs < 2 ^ (a + b + 1) := by
  have h := Int.natAbs_add_le x y
  have e1 : 2 ^ a ≤ 2 ^ (a + b) := pow_le (Nat.le_add_right _ _)
  have e2 : 2 ^ b ≤ 2 ^ (a + b) := pow_le (Nat.le_add_left _ _)
  rw [Nat.pow_succ]
  omega
theorem isub_lt {a b : Nat} {x y : Int} (hx : x.natAbs < 2 ^ a) (hy : y.natAbs < 2 ^ b) : (x - y).natAbs < 2 ^ (a + b + 1) := by
  rw [Int.sub_eq_add_neg]
  exact iadd_lt hx (by rw [Int.natAbs_neg]; exact hy)
theorem sub_lt {a b : Nat} {x y : Int} (hx : x.natAbs < 2 ^ a) (hy : y.natAbs < 2 ^ b) : (x - y).natAbs < 2 ^ (a + b + 1) := isub_lt hx hy
/-- what Frac(n, d) divides by -/
def com (n d : Int) : Int := if d < 0 then -((Nat.gcd n.natAbs d.natAbs : Nat) : Int) else ((Nat.gcd n.natAbs d.natAbs : Nat) : Int)
theorem gcd_pos {n d : Int} (h : d ≠ 0) : 0 < Nat.gcd n.natAbs d.natAbs := Nat.gcd_pos_of_pos_right _ (by omega)
theorem com_ne {n d : Int} (h : d ≠ 0) : com n d ≠ 0 := by
  have := gcd_pos (n := n) h
  unfold com
  split <;> omega
theorem com_abs (n d : Int) : (com n d).natAbs = Nat.gcd n.natAbs d.natAbs := by
  unfold com
  split
  · rw [Int.natAbs_neg]
    rfl
  · rfl
theorem com_le {n d : Int} (h : d ≠ 0) : (com n d).natAbs ≤ d.natAbs := by
  rw [com_abs]
  exact Nat.gcd_le_right _ (by omega)
theorem fdiv_mul {c m : Int} (h : c ≠ 0) : (c * m).fdiv c = m := Int.mul_fdiv_cancel_left _ h
theorem num_com {n d : Int} (h : d ≠ 0) : n.fdiv (com n d) = (Rat.divInt n d).num := by
  have hg := gcd_pos (n := n) h
  obtain ⟨k, hk⟩ : ((Nat.gcd n.natAbs d.natAbs : Nat) : Int) ∣ n := Int.ofNat_dvd_left.mpr (Nat.gcd_dvd_left _ _)
  have e : (d.gcd n : Nat) = Nat.gcd n.natAbs d.natAbs := Nat.gcd_comm _ _
  rw [Rat.num_divInt, e]
  unfold com
  have gz : ((Nat.gcd n.natAbs d.natAbs : Nat) : Int) ≠ 0 := by omega
  generalize hG : ((Nat.gcd n.natAbs d.natAbs : Nat) : Int) = G at *
  split
  · rename_i hd
    rw [Int.sign_eq_neg_one_of_neg hd, hk]
    have a1 : (G * k).fdiv (-G) = -k := by
      have : G * k = (-G) * (-k) := by rw [Int.neg_mul_neg]
      rw [this, fdiv_mul (by omega)]
    have a2 : -1 * (G * k) / G = -k := by
      have : -1 * (G * k) = G * (-k) := by rw [Int.mul_neg, Int.neg_mul, Int.one_mul]
      rw [this, Int.mul_ediv_cancel_left _ gz]
    rw [a1, a2]
  · rename_i hd
    rw [Int.sign_eq_one_of_pos (by omega), hk, fdiv_mul gz, Int.one_mul, Int.mul_ediv_cancel_left _ gz]
theorem den_com {n d : Int} (h : d ≠ 0) : d.fdiv (com n d) = ((Rat.divInt n d).den : Int) := by
  have hg := gcd_pos (n := n) h
  obtain ⟨k, hk⟩ : ((Nat.gcd n.natAbs d.natAbs : Nat) : Int) ∣ d := Int.ofNat_dvd_left.mpr (Nat.gcd_dvd_right _ _)
  have e : (d.gcd n : Nat) = Nat.gcd n.natAbs d.natAbs := Nat.gcd_comm _ _
  rw [Rat.den_divInt, if_neg h, e, Int.natCast_ediv]
  unfold com
  have gz : ((Nat.gcd n.natAbs d.natAbs : Nat) : Int) ≠ 0 := by omega
  have gp : 0 < ((Nat.gcd n.natAbs d.natAbs : Nat) : Int) := by omega
  generalize hG : ((Nat.gcd n.natAbs d.natAbs : Nat) : Int) = G at *
  split
  · rename_i hd
    have z : ((d.natAbs : Nat) : Int) = -d := by omega
    rw [z]
    have a1 : d.fdiv (-G) = -k := by
      have : d = (-G) * (-k) := by rw [Int.neg_mul_neg]; exact hk
      rw [this, fdiv_mul (by omega)]
    have a2 : -d / G = -k := by
      have : -d = G * (-k) := by rw [Int.mul_neg, ← hk]
      rw [this, Int.mul_ediv_cancel_left _ gz]
    rw [a1, a2]
  · rename_i hd
    have z : ((d.natAbs : Nat) : Int) = d := by omega
    rw [z]
    have a1 : d.fdiv G = k := by
      rw [hk, fdiv_mul gz]
    have a2 : d / G = k := by
      rw [hk, Int.mul_ediv_cancel_left _ gz]
    rw [a1, a2]
theorem divInt_num_le (n d : Int) : (Rat.divInt n d).num.natAbs ≤ n.natAbs := by
  rw [Rat.num_divInt]
  refine Nat.le_trans (Int.natAbs_ediv_le_natAbs _ _) ?_
  rw [Int.natAbs_mul]
  have := Int.natAbs_sign d
  by_cases h : d = 0
  · subst h
    simp
  · have : d.sign.natAbs = 1 := Int.natAbs_sign_of_ne_zero h
    rw [this, Nat.one_mul]
    exact Nat.le_refl _
theorem divInt_den_le {n d : Int} (h : d ≠ 0) : (Rat.divInt n d).den ≤ d.natAbs := by
  rw [Rat.den_divInt, if_neg h]
  exact Nat.div_le_self _ _
theorem sm_divInt {n d : Int} {b : Nat} (h : d ≠ 0) (hn : n.natAbs < 2 ^ b) (hd : d.natAbs < 2 ^ b) : Sm b (Rat.divInt n d) := ⟨Nat.lt_of_le_of_lt (divInt_num_le n d) hn, Nat.lt_of_le_of_lt (divInt_den_le h) hd⟩
theorem den_ne (r : Rat) : (r.den : Int) ≠ 0 := by
  have := r.den_pos
  omega
theorem den_pos' (r : Rat) : (0 : Int) < (r.den : Int) := by
  have := r.den_pos
  omega
theorem divInt_self (r : Rat) : Rat.divInt r.num r.den = r := Rat.num_divInt_den r
theorem divInt_one (n : Int) : Rat.divInt n 1 = (n : Rat) := by
  have := Rat.num_divInt_den (n : Rat)
  exact this
theorem add_is (p q : Rat) : Rat.divInt (p.num * q.den + q.num * p.den) (p.den * q.den) = p + q := by
  rw [Rat.add_def', ← Int.natCast_mul, Rat.divInt_ofNat]
theorem sub_is (p q : Rat) : Rat.divInt (p.num * q.den - q.num * p.den) (p.den * q.den) = p - q := by
  rw [Rat.sub_def', ← Int.natCast_mul, Rat.divInt_ofNat]
theorem mul_is (p q : Rat) : Rat.divInt (p.num * q.num) (p.den * q.den) = p * q := by
  rw [Rat.mul_def', ← Int.natCast_mul, Rat.divInt_ofNat]
theorem over_is (p q : Rat) : Rat.divInt (p.num * q.den) (p.den * q.num) = p / q := by
  rw [Rat.div_def, Rat.inv_def, ← Rat.divInt_mul_divInt, divInt_self]
theorem neg_is (p : Rat) : Rat.divInt (-p.num) p.den = -p := by
  rw [← Rat.neg_divInt, divInt_self]
theorem floor_is (p : Rat) : p.num / (p.den : Int) = p.floor := (Rat.floor_def p).symm
theorem num_zero {q : Rat} : q.num = 0 ↔ q = 0 := Rat.num_eq_zero
theorem pow_is (p : Rat) (k : Nat) : Rat.divInt (p.num ^ k) ((p.den : Int) ^ k) = p ^ k := by
  have := Rat.num_divInt_den (p ^ k)
  rw [Rat.num_pow, Rat.den_pow, Int.natCast_pow] at this
  exact this
theorem scale_is {n d f : Int} (h : f ≠ 0) : Rat.divInt (n * f) (d * f) = Rat.divInt n d := Rat.divInt_mul_right h
theorem rsub_is (p q : Rat) : -p + q = q - p := by
  rw [Rat.add_comm, ← Rat.sub_eq_add_neg]
theorem sm_int {n : Int} {b : Nat} (h : n.natAbs < 2 ^ b) (hb : 0 < b) : Sm b (n : Rat) := ⟨h, Nat.lt_of_lt_of_le (by decide : (1 : Nat) < 2 ^ 1) (pow_le hb)⟩
theorem sm_floor {p : Rat} {b : Nat} (h : Sm b p) : p.floor.natAbs < 2 ^ (b + 1) := by
  rw [Rat.floor_def]
  have a := Int.natAbs_ediv_le_natAbs p.num (p.den : Int)
  exact Nat.lt_of_le_of_lt a (Nat.lt_of_lt_of_le h.1 (pow_le (Nat.le_succ b)))
end Bp

namespace Bp
open PySem.Spec PySem PyProof.Rows
open L2 hiding St

/-! ### heaps -/
theorem _root_.L2.Same.new {H : Hp} {p : Addr} {o : HO} (h : H p = none) : Same H (upd H p o) := fun b q e => by
  rw [upd_ne (ne_of_none e h)]
  exact e
theorem _root_.L2.Same.at {H H' : Hp} {p : Addr} {o : HO} (s : Same H H') (h : H p = some o) : H' p = some o := s p o h

/-! ### a def of the module, as the text has it; a def with its promise -/
structure GFun (K : PySem.W.Frag) (mg : Str → Option Value) (x : Str) (st : Stmt) (ps : List Str) : Prop where
  ex : ∃ f fd, L2.Fun K x x st f fd ∧ mg x = some (.ref f) ∧ L2.Binds K fd ps []
structure MFun (K : PySem.W.Frag) (C : Addr) (m qual : Str) (st : Stmt) (ps : List Str) : Prop where
  ex : ∃ f fd, L2.Fun K m qual st f fd ∧ Meth K C m f ∧ L2.Binds K fd ps []
structure Def (P : Program) (w : World) (K : PySem.W.Frag) (mg : Str → Option Value) (base : Heap) (k : Nat) (x : Str) (ps : List Str) (sp : Sp) : Prop where
  ex : ∃ f fd, mg x = some (.ref f) ∧ PySem.W.keepIn K (.ref f) = true ∧ L2.Binds K fd ps [] ∧ FnOk P w K mg base (L2.CX P w) k f fd ps sp
structure MDef (P : Program) (w : World) (K : PySem.W.Frag) (mg : Str → Option Value) (base : Heap) (k : Nat) (C : Addr) (m : Str) (ps : List Str) (sp : Sp) : Prop where
  ex : ∃ f fd, Meth K C m f ∧ L2.Binds K fd ps [] ∧ FnOk P w K mg base (L2.CX P w) k f fd ps sp
section
variable {P : Program} {w : World} {K : PySem.W.Frag} {mg : Str → Option Value} {base : Heap}
/-- how such a def is shown: by its body -/
theorem GFun.ok {x : Str} {st : Stmt} {ps N : List Str} {k : Nat} {sp : Sp} (F : GFun K mg x st ps) (S : FnScope N ps (defScope st)) (len : ∀ vs H Q E, sp vs H Q E → vs.length = ps.length)
    (hbody : ∀ (f : Addr) (cdv : Value) (A : Around) (outer : List Env) (s : Shared) (H : Hp) (vs : List V) (Q : VK) (E : XK), Room k (A.deeper (envOfC x (defScope st) s.heap.objs.size f cdv)) → sp vs H Q E →
      ∃ t, PSs (cxOf (L2.CX P w) P w K mg base N x (defScope st) f cdv A outer s H E) (defBody st) t ∧ t { nx := fun _ H' => Q .non H', rt := Q } (start N vs) H) : Def P w K mg base (k + 1) x ps sp := by
  obtain ⟨f, fd, Fn, g, b⟩ := F.ex
  exact ⟨f, fd, g, Fn.kp, b, Fn.okX S len (hbody f)⟩
theorem MFun.ok {m qual : Str} {C : Addr} {st : Stmt} {ps N : List Str} {k : Nat} {sp : Sp} (F : MFun K C m qual st ps) (S : FnScope N ps (defScope st)) (len : ∀ vs H Q E, sp vs H Q E → vs.length = ps.length)
    (hbody : ∀ (f : Addr) (cdv : Value) (A : Around) (outer : List Env) (s : Shared) (H : Hp) (vs : List V) (Q : VK) (E : XK), Room k (A.deeper (envOfC qual (defScope st) s.heap.objs.size f cdv)) → sp vs H Q E →
      ∃ t, PSs (cxOf (L2.CX P w) P w K mg base N qual (defScope st) f cdv A outer s H E) (defBody st) t ∧ t { nx := fun _ H' => Q .non H', rt := Q } (start N vs) H) : MDef P w K mg base (k + 1) C m ps sp := by
  obtain ⟨f, fd, Fn, g, b⟩ := F.ex
  exact ⟨f, fd, g, b, Fn.okX S len (hbody f)⟩
theorem Def.mono {j k : Nat} {x : Str} {ps : List Str} {sp : Sp} (D : Def P w K mg base j x ps sp) (h : j ≤ k) : Def P w K mg base k x ps sp := by
  obtain ⟨f, fd, g, kp, b, F⟩ := D.ex
  exact ⟨f, fd, g, kp, b, F.mono h⟩
theorem MDef.mono {j k : Nat} {C : Addr} {m : Str} {ps : List Str} {sp : Sp} (D : MDef P w K mg base j C m ps sp) (h : j ≤ k) : MDef P w K mg base k C m ps sp := by
  obtain ⟨f, fd, g, b, F⟩ := D.ex
  exact ⟨f, fd, g, b, F.mono h⟩
end
section
variable {X : Cx} {k : Nat} {C : Addr} {x m : Str} {ps : List Str} {sp : Sp} {W : WX} {p pos apos : Pos} {e o : Expr} {es : List Expr} {ta : TE} {t : TA}
/-- f(e, ..) -/
theorem pe_callD (D : Def X.prog X.w X.K X.mg X.base k x ps sp) (hr : Room k X.A) (tk : Takes X W) (ha : PA X (e :: es) t) (hg : Gl X x := by rfl) (hdb : (x == ("__debug__" : Str)) = false := by decide)
    (he : starEach (e :: es) X.env = (false, eval e X.env) :: starEach es X.env := by rfl) (hpl : (backTo pos (starEach es X.env)).any (·.1) = false := by rfl) :
    PE X (.Call (.Name x p) (e :: es) [] pos) (tCallS sp (WE W) t) := by
  obtain ⟨f, fd, g, kp, b, F⟩ := D.ex
  exact pe_callS F hr hg g kp b (fun σ => passAt tk σ) ha hdb he hpl
/-- o.m(e, ..) -/
def tMethS (C : Addr) (m : Str) (sp : Sp) (E : L2.St → XK) (ta : TE) (t : TA) : TE := fun σ H Q => ta σ H fun x H1 => ∃ a dx fs, x = .ref a ∧ H1 a = some (.ins C dx fs) ∧ fs.lookup m = none ∧ t σ H1 fun vs H2 => sp (x :: vs) H2 Q (E σ)
theorem pe_methD {pl : Sem Bool} (D : MDef X.prog X.w X.K X.mg X.base k C m ps sp) (hr : Room k X.A) (tk : Takes X W) (c : Cls X.K C) (he : PE X o ta) (ha : PA X (e :: es) t)
    (hst : starEach (e :: es) X.env = (false, eval e X.env) :: starEach es X.env := by rfl) (hpl : (backTo pos (starEach es X.env)).any (·.1) = false := by rfl)
    (ht : eval (.Call (.Attribute o m apos) (e :: es) [] pos) X.env = (eval o X.env >>= fun ov => standAt apos.atName >>= fun _ => holding [ov] (getMethod ov m pl) >>= fun q =>
      callWith pos q.1 q.2 (backTo pos (starEach (e :: es) X.env)) (backToKw pos (keywordEach [] X.env))) := by rfl) :
    PE X (.Call (.Attribute o m apos) (e :: es) [] pos) (tMethS C m sp (WE W) ta t) := by
  obtain ⟨f, fd, hm, b, F⟩ := D.ex
  refine ⟨fun pins s σ H Q I h => PySem.W.methodCall_KW (pl := pl) (thn (he.run pins s σ H _ I h) fun u s1 ⟨x, H1, I1, rx, a, dx, fs, ex, ea, l, q⟩ => ?_) ht⟩
  subst ex
  obtain rfl : u = Value.ref a := rx
  refine getmeth_ok I1 ea c hm l (PySem.W.callWith_K (first := [.ref a]) (h₀ := X.base) I.ok.mod.kin hm.kp (thn (ha.run pos pins s1 σ H1 _ I1 q) fun us s2 ⟨vs, H2, I2, r, q2⟩ => ⟨I2.kIn, ?_⟩) hst hpl)
  exact run_fnS (us := .ref a :: us) (vs := .ref a :: vs) (E := WE W) F hr b (passAt tk σ) I2 (.cons rfl r) q2
theorem pe_methD0 {pl : Sem Bool} (D : MDef X.prog X.w X.K X.mg X.base k C m ps sp) (hr : Room k X.A) (tk : Takes X W) (c : Cls X.K C) (he : PE X o ta)
    (ht : eval (.Call (.Attribute o m apos) [] [] pos) X.env = (eval o X.env >>= fun ov => standAt apos.atName >>= fun _ => holding [ov] (getMethod ov m pl) >>= fun q =>
      callWith pos q.1 q.2 (backTo pos (starEach [] X.env)) (backToKw pos (keywordEach [] X.env))) := by rfl) :
    PE X (.Call (.Attribute o m apos) [] [] pos) (tMethS C m sp (WE W) ta tNil) := by
  obtain ⟨f, fd, hm, b, F⟩ := D.ex
  refine ⟨fun pins s σ H Q I h => PySem.W.methodCall_KW (pl := pl) (thn (he.run pins s σ H _ I h) fun u s1 ⟨x, H1, I1, rx, a, dx, fs, ex, ea, l, q⟩ => ?_) ht⟩
  subst ex
  obtain rfl : u = Value.ref a := rx
  refine getmeth_ok I1 ea c hm l (PySem.W.callWith_K0 (first := [.ref a]) I1.kIn hm.kp ?_)
  exact run_fnS (us := [.ref a]) (vs := [.ref a]) (E := WE W) F hr b (passAt tk σ) I1 (.cons rfl .nil) q
/-- C(..): a class whose __init__ has defaults: n values are written, ds are the others -/
structure CDef (P : Program) (w : World) (K : PySem.W.Frag) (mg : Str → Option Value) (base : Heap) (k : Nat) (x : Str) (C : Addr) (sp : Sp) (dvs : List V) : Prop where
  ex : ∃ f fd ps ds, mg x = some (.ref C) ∧ Mk K C f ∧ L2.Binds K fd ps ds ∧ Vals dvs ds ∧ FnOk P w K mg base (L2.CX P w) k f fd ps sp
def tMakeS (C : Addr) (sp : Sp) (dvs : List V) (E : L2.St → XK) (t : TA) : TE := fun σ H Q => t σ H fun vs H1 => ∀ x dx, H1 x = none → H1 dx = none → dx ≠ x →
  sp (.ref x :: (vs ++ dvs)) (upd (upd H1 dx (.own x)) x (.ins C dx [])) (fun v H2 => v = .non ∧ Q (.ref x) H2) (E σ)
theorem run_makeS {CX : CXT} {f : Addr} {fd : FuncData} {E : XK} {pins : List (Addr × Obj)} {σ : L2.St} {H : Hp} {s : Shared} {Q : VK} {us ds : List Value} {vs dvs : List V} (M : Mk X.K C f) (F : FnOk X.prog X.w X.K X.mg X.base CX k f fd ps sp) (hr : Room (k + 1) X.A)
    (hb : L2.Binds X.K fd ps ds) (hd : Vals dvs ds) (hx : PassesAt CX X σ E) (I : Inv X pins σ H s) (r : Vals vs us)
    (h : ∀ x dx, H x = none → H dx = none → dx ≠ x → sp (.ref x :: (vs ++ dvs)) (upd (upd H dx (.own x)) x (.ins C dx [])) (fun v H2 => v = .non ∧ Q (.ref x) H2) E) :
    wpAny (model X.prog X.w) X.A (call (.ref C) us) (EP X pins σ Q) X.xe s := by
  have n1 := I.hok.fresh (Nat.le_succ s.heap.objs.size)
  have n2 := I.hok.fresh (Nat.le_refl s.heap.objs.size)
  have hq := h _ _ n1 n2 (Nat.ne_of_lt (Nat.lt_succ_self _))
  have J := Inv.made (C := C) I
  have rr : Vals (V.ref (s.heap.objs.size + 1) :: (vs ++ dvs)) (Value.ref (s.heap.objs.size + 1) :: (us ++ ds)) := .cons rfl (r.append hd)
  have hl : (Value.ref (s.heap.objs.size + 1) :: us ++ ds).length = ps.length := rr.length.symm.trans (F.len _ _ _ _ hq)
  have body := F.run _ X.stack _ _ ⟨Value.ref (s.heap.objs.size + 1) :: us, []⟩ _ _ _ E (hr.make C us []) (J.env0.make C us []) (hb _ (Value.ref (s.heap.objs.size + 1) :: us) J.kIn hl) rr hq
  refine wpAny_call (make_map (f := f) I.kIn M.makes M.init (beq_iff_eq.mp M.fn) (codeAny_mono body fun r s' z => ?_))
  cases r with
  | error e => exact hx pins _ _ e s' J z
  | ok fl =>
    cases fl with
    | ret u =>
      obtain ⟨v, H', I3, rv, ev, q3⟩ := J.after z
      subst ev
      exact ⟨rv, V.ref (s.heap.objs.size + 1), H', I3, rfl, q3⟩
    | next => exact z.elim
    | brk => exact z.elim
    | cont => exact z.elim
theorem pe_makeD {dvs : List V} (D : CDef X.prog X.w X.K X.mg X.base k x C sp dvs) (hr : Room (k + 1) X.A) (tk : Takes X W) (ha : PA X (e :: es) t) (hg : Gl X x := by rfl) (hdb : (x == ("__debug__" : Str)) = false := by decide)
    (he : starEach (e :: es) X.env = (false, eval e X.env) :: starEach es X.env := by rfl) (hpl : (backTo pos (starEach es X.env)).any (·.1) = false := by rfl) :
    PE X (.Call (.Name x p) (e :: es) [] pos) (tMakeS C sp dvs (WE W) t) := by
  obtain ⟨f, fd, ps, ds, hm, M, hb, hd, F⟩ := D.ex
  refine ⟨fun pins s σ H Q I h => wpAny_Call_Name_kw (ld_glob I hg hm ?_ hdb)⟩
  refine PySem.W.callWith_K (h₀ := X.base) I.ok.mod.kin M.kp (thn (ha.run pos pins s σ H _ I h) fun us s1 ⟨vs, H1, I1, r, q⟩ => ⟨I1.kIn, ?_⟩) he hpl
  exact run_makeS M F hr hb hd (passAt tk σ) I1 r q
theorem pe_makeD0 {dvs : List V} (D : CDef X.prog X.w X.K X.mg X.base k x C sp dvs) (hr : Room (k + 1) X.A) (tk : Takes X W) (hg : Gl X x := by rfl) (hdb : (x == ("__debug__" : Str)) = false := by decide) :
    PE X (.Call (.Name x p) [] [] pos) (tMakeS C sp dvs (WE W) tNil) := by
  obtain ⟨f, fd, ps, ds, hm, M, hb, hd, F⟩ := D.ex
  refine ⟨fun pins s σ H Q I h => wpAny_Call_Name_kw (ld_glob I hg hm ?_ hdb)⟩
  exact PySem.W.callWith_K0 I.kIn M.kp (run_makeS (us := []) M F hr hb hd (passAt tk σ) I .nil h)
/-- operators of the class's own, by its defs -/
theorem op_ownD {op : Operator} {nm : Str} (hnm : nm = PySem.dunder op.info.2 := by rfl) (hc : PySem.W.selfFirst X.K C = true) (hr1 : ∃ rc, PySem.W.findIn X.K (.ref C) (dunderR op.info.2) = some rc ∧ (rc = none ∨ ∃ g : Addr, rc = some (.ref g)))
    (h1 : ∃ fo, PySem.W.findIn X.K (.type "int") (PySem.dunder op.info.2) = some fo) (h2 : ∃ ro, PySem.W.findIn X.K (.type "int") (dunderR op.info.2) = some ro) (sub : PySem.W.subIn X.K (.type "int") (.ref C) = some false)
    (subC : PySem.W.subIn X.K (.ref C) (.type "int") = some false) (D : MDef X.prog X.w X.K X.mg X.base k C nm ps sp) (hr : Room k X.A) (tk : Takes X W) : OpS X (binaryOp op) (rOwn C sp (WE W)) := by
  obtain ⟨f, fd, hm, b, F⟩ := D.ex
  subst hnm
  exact op_own ⟨hc, hm.at_, hm.fn, hr1, h1, h2, sub, subC⟩ F hr b fun σ => passAt tk σ
end
/-- kitOne from what the text says of subclasses -/
theorem kit_base {K : PySem.W.Frag} {t : Value} {T : String} {b : Bool} (ne : (t == Value.type T) = false) (hm : PySem.W.kitMeta T = true) (hs : PySem.W.subIn K t (.type T) = some b) : PySem.W.kitOne K t (.type T) = some b := by
  show (if (t == Value.type T) = true then some true else if PySem.W.kitMeta T = true then PySem.W.subIn K t (.type T) else none) = some b
  rw [ne, if_neg Bool.false_ne_true, if_pos hm, hs]
theorem kit_same {K : PySem.W.Frag} {t : Value} : PySem.W.kitOne K t t = some true := by
  unfold PySem.W.kitOne
  rw [beq_self_eq_true, if_pos rfl]
theorem kit_cls {K : PySem.W.Frag} {t : Value} {C : Addr} {b : Bool} (ne : (t == Value.ref C) = false) (h1 : PySem.W.isClsIn K C = true) (h2 : PySem.W.typeIn K (.ref C) = some (.type "type")) (hs : PySem.W.subIn K t (.ref C) = some b) : PySem.W.kitOne K t (.ref C) = some b := by
  have h1' : (PySem.W.clsIn K C).isSome = true := h1
  show (if (t == Value.ref C) = true then some true else if ((PySem.W.clsIn K C).isSome && PySem.W.typeIn K (.ref C) == some (.type "type")) = true then PySem.W.subIn K t (.ref C) else none) = some b
  rw [ne, if_neg Bool.false_ne_true, h1', h2, hs]
  rfl
end Bp

namespace Bp
open PySem.Spec PySem PyProof.Rows
open L2 hiding St

/-! ### what an expression comes to: from every heap that keeps H's objects, a value with P, all kept -/
abbrev VP := V → Hp → Prop
def Ge (te : TE) (σ : L2.St) (H : Hp) (P : VP) : Prop := ∀ H1, Same H H1 → ∀ Q : VK, (∀ v H2, Same H1 H2 → P v H2 → Q v H2) → te σ H1 Q
def GeA (ta : TA) (σ : L2.St) (H : Hp) (P : List V → Hp → Prop) : Prop := ∀ H1, Same H H1 → ∀ Q : List V → Hp → Prop, (∀ vs H2, Same H1 H2 → P vs H2 → Q vs H2) → ta σ H1 Q
def GeT (tt : TT) (σ : L2.St) (H : Hp) (b : Bool) : Prop := ∀ H1, Same H H1 → ∀ Q : Bool → Hp → Prop, (∀ H2, Same H1 H2 → Q b H2) → tt σ H1 Q
/-- the value is v -/
abbrev Is (v : V) : VP := fun x _ => x = v
/-- P stands in every later heap -/
def Up (P : VP) : Prop := ∀ v H H', P v H → Same H H' → P v H'
theorem Up.is (v : V) : Up (Is v) := fun _ _ _ h _ => h
section
variable {σ : L2.St} {H : Hp} {i : Nat} {v x y : V} {ta tb te : TE} {tA : TA} {t u : TT} {P PA PB : VP} {K : PySem.W.Frag} {b c : Bool}
theorem Ge.mono {H' : Hp} (h : Ge te σ H P) (s : Same H H') : Ge te σ H' P := fun H1 s1 => h H1 (s.trans s1)
theorem Ge.imp {P' : VP} (h : Ge te σ H P) (k : ∀ v H1, Same H H1 → P v H1 → P' v H1) : Ge te σ H P' := fun H1 s1 Q q => h H1 s1 Q fun v H2 s2 p => q v H2 s2 (k v H2 (s1.trans s2) p)
theorem ge_var (h : σ[i]? = some (some v)) : Ge (tVar i) σ H (Is v) := fun H1 _ Q q => ⟨v, h, q v H1 (Same.refl _) rfl⟩
theorem ge_varP (h : σ[i]? = some (some v)) (hp : P v H) (up : Up P) : Ge (tVar i) σ H P := fun H1 s Q q => ⟨v, h, q v H1 (Same.refl _) (up _ _ _ hp s)⟩
theorem ge_c : Ge (tC v) σ H (Is v) := fun H1 _ Q q => q v H1 (Same.refl _) rfl
/-- two operands -/
theorem ge_two {r : R2} (ha : Ge ta σ H PA) (hb : Ge tb σ H PB) (ua : Up PA) (hr : ∀ x y H1, Same H H1 → PA x H1 → PB y H1 → ∀ Q : VK, (∀ v H2, Same H1 H2 → P v H2 → Q v H2) → r x y H1 Q) : Ge (tOp r ta tb) σ H P := fun H1 s Q q =>
  ha H1 s _ fun x H2 s2 px => hb H2 (s.trans s2) _ fun y H3 s3 py => hr x y H3 ((s.trans s2).trans s3) (ua _ _ _ px s3) py Q fun v H4 s4 pv => q v H4 ((s2.trans s3).trans s4) pv
theorem ge_twoS {r : R2S} (ha : Ge ta σ H PA) (hb : Ge tb σ H PB) (ua : Up PA) (hr : ∀ x y H1, Same H H1 → PA x H1 → PB y H1 → ∀ Q : VK, (∀ v H2, Same H1 H2 → P v H2 → Q v H2) → r σ x y H1 Q) : Ge (tOpS r ta tb) σ H P := fun H1 s Q q =>
  ha H1 s _ fun x H2 s2 px => hb H2 (s.trans s2) _ fun y H3 s3 py => hr x y H3 ((s.trans s2).trans s3) (ua _ _ _ px s3) py Q fun v H4 s4 pv => q v H4 ((s2.trans s3).trans s4) pv
theorem ge_I0 {g : Int → Int → V} {m n : Int} (ha : Ge ta σ H (Is (.int m))) (hb : Ge tb σ H (Is (.int n))) : Ge (tOp (rI0 g) ta tb) σ H (Is (g m n)) :=
  ge_two ha hb (Up.is _) fun x y H1 _ ex ey Q q => ⟨m, n, ex, ey, q _ H1 (Same.refl _) rfl⟩
theorem ge_I {C : Int → Int → Prop} {g : Int → Int → V} {m n : Int} (ha : Ge ta σ H (Is (.int m))) (hb : Ge tb σ H (Is (.int n))) (hc : C m n) : Ge (tOp (rI C g) ta tb) σ H (Is (g m n)) :=
  ge_two ha hb (Up.is _) fun x y H1 _ ex ey Q q => ⟨m, n, ex, ey, hc, q _ H1 (Same.refl _) rfl⟩
theorem ge_add {m n : Int} (ha : Ge ta σ H (Is (.int m))) (hb : Ge tb σ H (Is (.int n))) : Ge (tOp (rI0 fun i j => .int (i + j)) ta tb) σ H (Is (.int (m + n))) := ge_I0 ha hb
theorem ge_sub {m n : Int} (ha : Ge ta σ H (Is (.int m))) (hb : Ge tb σ H (Is (.int n))) : Ge (tOp (rI0 fun i j => .int (i - j)) ta tb) σ H (Is (.int (m - n))) := ge_I0 ha hb
theorem ge_eq (ha : Ge ta σ H (Is x)) (hb : Ge tb σ H (Is y)) (hs : scal x y = true) : Ge (tOp rEq ta tb) σ H (Is (.bl (decide (x = y)))) :=
  ge_two ha hb (Up.is _) fun x' y' H1 _ ex ey Q q => by subst ex; subst ey; exact ⟨hs, q _ H1 (Same.refl _) rfl⟩
theorem ge_ne (ha : Ge ta σ H (Is x)) (hb : Ge tb σ H (Is y)) (hs : scal x y = true) : Ge (tOp rNe ta tb) σ H (Is (.bl (!decide (x = y)))) :=
  ge_two ha hb (Up.is _) fun x' y' H1 _ ex ey Q q => by subst ex; subst ey; exact ⟨hs, q _ H1 (Same.refl _) rfl⟩
theorem ge_un {g : Int → V} {m : Int} (ha : Ge ta σ H (Is (.int m))) : Ge (tUn (rU g) ta) σ H (Is (g m)) := fun H1 s Q q => ha H1 s _ fun v H2 s2 e => ⟨m, e, q _ H2 s2 rfl⟩
theorem ge_unP {r : V → Hp → VK → Prop} (ha : Ge ta σ H PA) (hr : ∀ x H1, Same H H1 → PA x H1 → ∀ Q : VK, (∀ v H2, Same H1 H2 → P v H2 → Q v H2) → r x H1 Q) : Ge (tUn r ta) σ H P := fun H1 s Q q =>
  ha H1 s _ fun x H2 s2 px => hr x H2 (s.trans s2) px Q fun v H3 s3 pv => q v H3 (s2.trans s3) pv
/-! arguments -/
theorem ga_nil : GeA tNil σ H (fun vs _ => vs = []) := fun H1 _ Q q => q [] H1 (Same.refl _) rfl
theorem ga_cons {PL : List V → Hp → Prop} (ha : Ge te σ H PA) (hr : GeA tA σ H PL) (ua : Up PA) : GeA (tCons te tA) σ H (fun vs H1 => ∃ v r, vs = v :: r ∧ PA v H1 ∧ PL r H1) := fun H1 s Q q =>
  ha H1 s _ fun v H2 s2 pv => hr H2 (s.trans s2) _ fun vs H3 s3 pl => q _ H3 (s2.trans s3) ⟨v, vs, rfl, ua _ _ _ pv s3, pl⟩
theorem ga1 (ha : Ge te σ H PA) (ua : Up PA) : GeA (tCons te tNil) σ H (fun vs H1 => ∃ v, vs = [v] ∧ PA v H1) := fun H1 s Q q =>
  ha H1 s _ fun v H2 s2 pv => q [v] H2 s2 ⟨v, rfl, pv⟩
theorem ga2 (ha : Ge ta σ H PA) (hb : Ge tb σ H PB) (ua : Up PA) : GeA (tCons ta (tCons tb tNil)) σ H (fun vs H1 => ∃ v w, vs = [v, w] ∧ PA v H1 ∧ PB w H1) := fun H1 s Q q =>
  ha H1 s _ fun v H2 s2 pv => hb H2 (s.trans s2) _ fun w' H3 s3 pw => q [v, w'] H3 (s2.trans s3) ⟨v, w', rfl, ua _ _ _ pv s3, pw⟩
theorem ga3 {tc : TE} {PC : VP} (ha : Ge ta σ H PA) (hb : Ge tb σ H PB) (hc : Ge tc σ H PC) (ua : Up PA) (ub : Up PB) : GeA (tCons ta (tCons tb (tCons tc tNil))) σ H (fun vs H1 => ∃ v w z, vs = [v, w, z] ∧ PA v H1 ∧ PB w H1 ∧ PC z H1) := fun H1 s Q q =>
  ha H1 s _ fun v H2 s2 pv => hb H2 (s.trans s2) _ fun w' H3 s3 pw => hc H3 ((s.trans s2).trans s3) _ fun z H4 s4 pz => q [v, w', z] H4 ((s2.trans s3).trans s4) ⟨v, w', z, rfl, ua _ _ _ pv (s3.trans s4), ub _ _ _ pw s4, pz⟩
theorem ga4 {tc td : TE} {PC PD : VP} (ha : Ge ta σ H PA) (hb : Ge tb σ H PB) (hc : Ge tc σ H PC) (hd : Ge td σ H PD) (ua : Up PA) (ub : Up PB) (uc : Up PC) :
    GeA (tCons ta (tCons tb (tCons tc (tCons td tNil)))) σ H (fun vs H1 => ∃ v w z y, vs = [v, w, z, y] ∧ PA v H1 ∧ PB w H1 ∧ PC z H1 ∧ PD y H1) := fun H1 s Q q =>
  ha H1 s _ fun v H2 s2 pv => hb H2 (s.trans s2) _ fun w' H3 s3 pw => hc H3 ((s.trans s2).trans s3) _ fun z H4 s4 pz => hd H4 (((s.trans s2).trans s3).trans s4) _ fun y H5 s5 py =>
    q [v, w', z, y] H5 (((s2.trans s3).trans s4).trans s5) ⟨v, w', z, y, rfl, ua _ _ _ pv ((s3.trans s4).trans s5), ub _ _ _ pw (s4.trans s5), uc _ _ _ pz s5, py⟩
/-! calls -/
theorem ge_call {sp : Sp} {E : L2.St → XK} {PL : List V → Hp → Prop} (ha : GeA tA σ H PL) (h : ∀ vs H1, Same H H1 → PL vs H1 → ∀ Q : VK, (∀ v H2, Same H1 H2 → P v H2 → Q v H2) → sp vs H1 Q (E σ)) : Ge (tCallS sp E tA) σ H P := fun H1 s Q q =>
  ha H1 s _ fun vs H2 s2 pl => h vs H2 (s.trans s2) pl Q fun v H3 s3 pv => q v H3 (s2.trans s3) pv
theorem ge_callB {r : List V → Hp → VK → Prop} {PL : List V → Hp → Prop} (ha : GeA tA σ H PL) (h : ∀ vs H1, Same H H1 → PL vs H1 → ∀ Q : VK, (∀ v H2, Same H1 H2 → P v H2 → Q v H2) → r vs H1 Q) : Ge (tCB r tA) σ H P := fun H1 s Q q =>
  ha H1 s _ fun vs H2 s2 pl => h vs H2 (s.trans s2) pl Q fun v H3 s3 pv => q v H3 (s2.trans s3) pv
/-! displays -/
theorem ge_tup {PL : List V → Hp → Prop} {n : Nat} (ha : GeA tA σ H PL) (hl : ∀ vs H1, PL vs H1 → vs.length ≤ sizeLine) : Ge (tTup tA) σ H (fun v H1 => ∃ p vs H0, v = .ref p ∧ PL vs H0 ∧ Same H0 H1 ∧ H1 p = some (.tup vs)) := fun H1 s Q q =>
  ha H1 s _ fun vs H2 s2 pl => ⟨hl vs H2 pl, fun p hp => q _ _ (s2.trans (Same.new hp)) ⟨p, vs, H2, rfl, pl, Same.new hp, upd_same⟩⟩
/-- a tuple, a list that stands -/
abbrev Tup (xs : List V) : VP := fun v H => ∃ p, v = .ref p ∧ H p = some (.tup xs)
abbrev Lst (xs : List V) : VP := fun v H => ∃ p, v = .ref p ∧ H p = some (.lst xs)
theorem up_tup (xs : List V) : Up (Tup xs) := fun v H H' ⟨p, e, h⟩ s => ⟨p, e, s _ _ h⟩
theorem up_lst (xs : List V) : Up (Lst xs) := fun v H H' ⟨p, e, h⟩ s => ⟨p, e, s _ _ h⟩
theorem ge_pair (ha : Ge ta σ H (Is x)) (hb : Ge tb σ H (Is y)) : Ge (tTup (tCons ta (tCons tb tNil))) σ H (Tup [x, y]) := fun H1 s Q q =>
  ha H1 s _ fun v H2 s2 e2 => hb H2 (s.trans s2) _ fun w' H3 s3 e3 => by
    subst e2
    subst e3
    exact ⟨by show 2 ≤ sizeLine; decide, fun p hp => q _ _ ((s2.trans s3).trans (Same.new hp)) ⟨p, rfl, upd_same⟩⟩
/-- t[i] of a tuple that stands -/
theorem ge_ix {xs : List V} {j : Int} (ha : Ge ta σ H (Tup xs)) (hb : Ge tb σ H (Is (.int j))) (h : atI xs j = some v) : Ge (tOp (rIxT K) ta tb) σ H (Is v) :=
  ge_two ha hb (up_tup xs) fun x y H1 _ px ey Q q => by
    obtain ⟨p, e, hp⟩ := px
    exact ⟨p, xs, j, v, e, ey, SqT.of hp, h, q _ H1 (Same.refl _) rfl⟩
theorem ge_ixL {xs : List V} {j : Int} (ha : Ge ta σ H (Lst xs)) (hb : Ge tb σ H (Is (.int j))) (h : atI xs j = some v) : Ge (tOp (rIxL K) ta tb) σ H (Is v) :=
  ge_two ha hb (up_lst xs) fun x y H1 _ px ey Q q => by
    obtain ⟨p, e, hp⟩ := px
    exact ⟨p, xs, j, v, e, ey, SqL.of hp, h, q _ H1 (Same.refl _) rfl⟩
/-! tests -/
theorem gt_test (h : Ge te σ H (Is (.bl b))) : GeT (tTest te) σ H b := fun H1 s Q q => h H1 s _ fun v H2 s2 e => ⟨b, e, q H2 s2⟩
theorem gt_b (h : Ge te σ H (Is (.bl b))) : GeT (tB te) σ H b := fun H1 s Q q => h H1 s _ fun v H2 s2 e => ⟨b, e, q H2 s2⟩
theorem gt_not (h : GeT t σ H b) : GeT (tNot t) σ H (!b) := fun H1 s Q q => h H1 s _ q
theorem GeT.mono {H' : Hp} (h : GeT t σ H b) (s : Same H H') : GeT t σ H' b := fun H1 s1 => h H1 (s.trans s1)
theorem GeT.to {b' : Bool} (h : GeT t σ H b) (e : b = b') : GeT t σ H b' := e ▸ h
theorem gt_and (h : GeT t σ H b) (k : b = true → GeT u σ H c) : GeT (tAnd t u) σ H (b && c) := fun H1 s Q q => h H1 s _ fun H2 s2 => by
  cases b with
  | true => exact iteT (k rfl H2 (s.trans s2) Q fun H3 s3 => q H3 (s2.trans s3))
  | false => exact iteF (q H2 s2)
theorem gt_or (h : GeT t σ H b) (k : b = false → GeT u σ H c) : GeT (tOr t u) σ H (b || c) := fun H1 s Q q => h H1 s _ fun H2 s2 => by
  cases b with
  | true => exact iteT (q H2 s2)
  | false => exact iteF (k rfl H2 (s.trans s2) Q fun H3 s3 => q H3 (s2.trans s3))
/-! and, or, not as values -/
theorem ge_andV (h : Ge ta σ H (Is (.bl b))) (k : b = true → Ge tb σ H (Is (.bl c))) : Ge (tAndV ta tb) σ H (Is (.bl (b && c))) := fun H1 s Q q => h H1 s _ fun v H2 s2 e => ⟨b, e, by
  cases b with
  | true => exact iteT (k rfl H2 (s.trans s2) Q fun v H3 s3 => q v H3 (s2.trans s3))
  | false => exact iteF (q _ H2 s2 rfl)⟩
theorem ge_orV (h : Ge ta σ H (Is (.bl b))) (k : b = false → Ge tb σ H (Is (.bl c))) : Ge (tOrV ta tb) σ H (Is (.bl (b || c))) := fun H1 s Q q => h H1 s _ fun v H2 s2 e => ⟨b, e, by
  cases b with
  | true => exact iteT (q _ H2 s2 rfl)
  | false => exact iteF (k rfl H2 (s.trans s2) Q fun v H3 s3 => q v H3 (s2.trans s3))⟩
theorem ge_notV (h : Ge ta σ H (Is (.bl b))) : Ge (tNotV ta) σ H (Is (.bl (!b))) := fun H1 s Q q => h H1 s _ fun v H2 s2 e => ⟨b, e, q _ H2 s2 rfl⟩
theorem ge_if (ht : GeT t σ H b) (ha : b = true → Ge ta σ H P) (hb : b = false → Ge tb σ H P) : Ge (tIf t ta tb) σ H P := fun H1 s Q q => ht H1 s _ fun H2 s2 => by
  cases b with
  | true => exact iteT (ha rfl H2 (s.trans s2) Q fun v H3 s3 => q v H3 (s2.trans s3))
  | false => exact iteF (hb rfl H2 (s.trans s2) Q fun v H3 s3 => q v H3 (s2.trans s3))
/-! statements -/
variable {D : Ends} {t1 t2 : TS}
theorem sq (h : t1 { D with nx := t2 D } σ H) : tSeq t1 t2 D σ H := h
theorem s_set (h : Ge te σ H P) (k : ∀ v H1, Same H H1 → P v H1 → D.nx (σ.set i (some v)) H1) : tAsg te (gName i) D σ H := h H (Same.refl _) _ k
theorem s_ret (h : Ge te σ H P) (k : ∀ v H1, Same H H1 → P v H1 → D.rt v H1) : tRet te D σ H := h H (Same.refl _) _ k
theorem s_if (h : GeT t σ H b) (k1 : b = true → ∀ H1, Same H H1 → t1 D σ H1) (k2 : b = false → ∀ H1, Same H H1 → t2 D σ H1) : tIfS t t1 t2 D σ H := h H (Same.refl _) _ fun H1 s => by
  cases b with
  | true => exact iteT (k1 rfl H1 s)
  | false => exact iteF (k2 rfl H1 s)
theorem s_next (h : D.nx σ H) : tNext D σ H := h
theorem s_yes (h : GeT t σ H true) (k : ∀ H1, Same H H1 → t1 D σ H1) : tIfS t t1 t2 D σ H := s_if h (fun _ => k) fun z => nomatch z
theorem s_no (h : GeT t σ H false) (k : ∀ H1, Same H H1 → t2 D σ H1) : tIfS t t1 t2 D σ H := s_if h (fun z => nomatch z) fun _ => k
end
end Bp

namespace Bp
open PySem.Spec PySem PyProof.Rows
open L2 hiding St
section
variable {prog : Program} {w : World} {A : Around} {E : Value → Shared → Prop} {s : Shared} {K : PySem.W.Frag} {x C f : Addr} {ox : Obj} {od : Option Obj} {Q : Value → Shared → Prop}
/-- abs(x) by the own def -/
theorem abs_own (X : K.In s.heap) (I : PySem.W.InstAt s.heap x ox C od) (hs : PySem.W.findIn K (.ref C) "__abs__" = some (some (.ref f))) (hf : PySem.W.isFn K (.ref f) = true) (h : wpAny (model prog w) A.in1 (call (.ref f) [.ref x]) Q E s) :
    wpAny (model prog w) A (call (.builtin "abs") [.ref x]) Q E s := by
  refine Calls.call_function_entry kind_abs plain_abs entry_abs (args_abs _) ?_
  unfold Builtin.«abs»
  refine wpAny_bind (m := oneArg "abs" _) (wpAny_pure (wpAny_bind (m := callSpecial? (.ref x) (Str.ofString "__abs__")) (PySem.W.special_fn X I hs (beq_iff_eq.mp hf) (wpAny_mono h (fun r s' hr => ?_) fun _ _ y => y))))
  exact wpAny_pure ⟨r, rfl, hr⟩
/-- bool(x) by the own def -/
theorem bool_own (X : K.In s.heap) (I : PySem.W.InstAt s.heap x ox C od) (hs : PySem.W.findIn K (.ref C) "__bool__" = some (some (.ref f))) (hf : PySem.W.isFn K (.ref f) = true)
    (h : wpAny (model prog w) A.in1.in1 (call (.ref f) [.ref x]) (fun r s₁ => ∃ b, r = Value.bool b ∧ Q r s₁) E s) : wpAny (model prog w) A (call (.type "bool") [.ref x]) Q E s := by
  refine callType_codes (T := "bool") (Bi := Builtin.«object.__init__») (Q₁ := fun r s₁ => ∃ b, r = Value.bool b ∧ Q r s₁) PySem.F.called_bool (PySem.F.typeCall_bool_1 _) PySem.F.entry_object_init ?_ ?_
  · refine codeAny_of_tree ?_
    show wpAny _ A.in1.in1 (checkBuiltinCall "bool.__new__" ⟨[.type "bool", .ref x], []⟩ >>= fun _ => again (.builtin "bool.__new__" ⟨[.type "bool", .ref x], []⟩)) _ _ s
    refine wpAny_bind (wpAny_of_eq (PySem.F.newCall_bool_1 _) (wpAny_pure ⟨plainId_quiet (by decide +kernel) _, codeAny_builtin PySem.F.entry_bool_new ?_⟩))
    rw [Around.under_plainId (by decide +kernel) _]
    have tr : wpAny (model prog w) A.in1.in1 (truthy (.ref x)) (fun b s₁ => Q (.bool b) s₁) E s := by
      unfold truthy
      refine wpAny_bind (m := callSpecial? (.ref x) (Str.ofString "__bool__")) (PySem.W.special_fn X I hs (beq_iff_eq.mp hf) (wpAny_mono h (fun r s' hr => ?_) fun _ _ y => y))
      obtain ⟨b, rfl, q⟩ := hr
      exact wpAny_pure q
    have f1 := PySem.F.conv_sub_bool
    obtain ⟨hp, g, d, tk, os⟩ := s
    repeat (any_goals (first | assumption | (with_reducible refine wpAny_mono tr (fun b s₁ q => ?_) fun _ _ y => y) | wp_step))
    all_goals exact ⟨b, rfl, q⟩
  · rintro obj s₁ ⟨b, rfl, hq⟩
    refine ⟨rfl, PySem.F.args_object_init_2 _ _, ?_⟩
    exact object_init_meets PySem.F.called_bool.init.lookup PySem.F.called_bool.made (by decide) prog w A.in1 _ s₁ ⟨rfl, rfl, hq⟩
end
section
variable {X : Cx} {k : Nat} {C : Addr} {ps : List Str} {sp : Sp}
/-- a def that lets nothing out, run below a built-in -/
theorem run_below {f : Addr} {fd : FuncData} {A : Around} {pins : List (Addr × Obj)} {σ : L2.St} {H : Hp} {s : Shared} {Q : VK} {us : List Value} {vs : List V} (F : FnOk X.prog X.w X.K X.mg X.base (L2.CX X.prog X.w) k f fd ps sp) (hr : Room k A) (e0 : Env0 X.prog X.w X.K X.mg X.base A X.stack s H)
    (hb : L2.Binds X.K fd ps []) (I : Inv X pins σ H s) (r : Vals vs us) (h : sp vs H Q E0) : wpAny (model X.prog X.w) A (call (.ref f) us) (EP X pins σ Q) X.xe s := by
  have hl : us.length = ps.length := by rw [← r.length]; exact F.len _ _ _ _ h
  have b := hb s us I.kIn (by rw [List.append_nil]; exact hl)
  rw [List.append_nil] at b
  refine wpAny_call (codeAny_mono (F.run A X.stack s H ⟨us, []⟩ us vs Q E0 hr e0 b r h) fun r s' hq => ?_)
  cases r with
  | error e => exact passL pins σ H s e s' I hq
  | ok fl =>
    cases fl with
    | ret u => exact I.after hq
    | next => exact False.elim hq
    | brk => exact False.elim hq
    | cont => exact False.elim hq
def rAbsO (C : Addr) (sp : Sp) : List V → Hp → VK → Prop := fun xs H Q => ∃ x, xs = [x] ∧ IsI C H x ∧ sp [x] H Q E0
theorem call_absO (D : MDef X.prog X.w X.K X.mg X.base k C "__abs__" ps sp) (hr : Room (k + 1) X.A) : CallR X (.builtin "abs") (rAbsO C sp) := by
  intro pins s σ H xs us Q I r h
  obtain ⟨x, rfl, ⟨a, dx, fs, rfl, ha⟩, q⟩ := h
  obtain ⟨u, rfl, ru⟩ := vals1 r
  cases (show u = Value.ref a from ru)
  obtain ⟨f, fd, hm, b, F⟩ := D.ex
  obtain ⟨_, od, J⟩ := inst_of I ha
  exact abs_own I.kIn J hm.at_ hm.fn (run_below (us := [.ref a]) (vs := [.ref a]) F hr.in1 I.env0.in1 b I (.cons rfl .nil) q)
def rBoolO (C : Addr) (sp : Sp) : List V → Hp → VK → Prop := fun xs H Q => ∃ x, xs = [x] ∧ IsI C H x ∧ sp [x] H (fun z H' => ∃ b, z = .bl b ∧ Q z H') E0
theorem call_boolO (D : MDef X.prog X.w X.K X.mg X.base k C "__bool__" ps sp) (hr : Room (k + 2) X.A) : CallR X (.type "bool") (rBoolO C sp) := by
  intro pins s σ H xs us Q I r h
  obtain ⟨x, rfl, ⟨a, dx, fs, rfl, ha⟩, q⟩ := h
  obtain ⟨u, rfl, ru⟩ := vals1 r
  cases (show u = Value.ref a from ru)
  obtain ⟨f, fd, hm, b, F⟩ := D.ex
  obtain ⟨_, od, J⟩ := inst_of I ha
  have r2 : Room (k + 1) X.A.in1 := hr.in1
  refine bool_own I.kIn J hm.at_ hm.fn (thn (run_below (us := [.ref a]) (vs := [.ref a]) F r2.in1 I.env0.in1.in1 b I (.cons rfl .nil) q) fun w s' z => ?_)
  obtain ⟨z', H', I', rz, i, ei, qz⟩ := z
  subst ei
  cases (show w = Value.bool i from rz)
  exact ⟨i, rfl, .bl i, H', I', rfl, qz⟩
end
end Bp

namespace Bp
open PySem.Spec PySem PyProof.Rows
open L2 hiding St
def top (i : Nat) : Stmt := PySem.Challenge.pw_bestpapers_k01_fraction_operators.main.body.getD i (.Pass ⟨0, 0, 0, 0⟩)
abbrev s_BadNumber_init : Stmt := inClass (top 4) 0
abbrev s_as_frac : Stmt := top 6
abbrev s_gap : Stmt := top 7
abbrev s_are_figures : Stmt := top 8
abbrev s_Frac_init : Stmt := inClass (top 9) 1
abbrev s_Frac_read : Stmt := inClass (top 9) 2
abbrev s_Frac_over : Stmt := inClass (top 9) 3
abbrev s_Frac_floor : Stmt := inClass (top 9) 4
abbrev s_Frac_ceiling : Stmt := inClass (top 9) 5
abbrev s_Frac_is_whole : Stmt := inClass (top 9) 6
abbrev s_Frac_str : Stmt := inClass (top 9) 7
abbrev s_Frac_repr : Stmt := inClass (top 9) 8
abbrev s_Frac_bool : Stmt := inClass (top 9) 9
abbrev s_Frac_neg : Stmt := inClass (top 9) 10
abbrev s_Frac_abs : Stmt := inClass (top 9) 11
abbrev s_Frac_add : Stmt := inClass (top 9) 12
abbrev s_Frac_radd : Stmt := inClass (top 9) 13
abbrev s_Frac_sub : Stmt := inClass (top 9) 14
abbrev s_Frac_rsub : Stmt := inClass (top 9) 15
abbrev s_Frac_mul : Stmt := inClass (top 9) 16
abbrev s_Frac_rmul : Stmt := inClass (top 9) 17
abbrev s_Frac_floordiv : Stmt := inClass (top 9) 18
abbrev s_Frac_rfloordiv : Stmt := inClass (top 9) 19
abbrev s_Frac_mod : Stmt := inClass (top 9) 20
abbrev s_Frac_rmod : Stmt := inClass (top 9) 21
abbrev s_Frac_pow : Stmt := inClass (top 9) 22
abbrev s_Frac_eq : Stmt := inClass (top 9) 23
abbrev s_Frac_ne : Stmt := inClass (top 9) 24
abbrev s_Frac_lt : Stmt := inClass (top 9) 25
abbrev s_Frac_le : Stmt := inClass (top 9) 26
abbrev s_Frac_gt : Stmt := inClass (top 9) 27
abbrev s_Frac_ge : Stmt := inClass (top 9) 28
abbrev s_law_cell : Stmt := top 11
abbrev s_law_gcd : Stmt := top 12
abbrev s_law_low : Stmt := top 13
abbrev s_law_add : Stmt := top 14
abbrev s_law_mul : Stmt := top 15
abbrev s_law_floor : Stmt := top 16
abbrev s_law_great : Stmt := top 17
abbrev s_law_numerator : Stmt := top 18
abbrev s_law_denominator : Stmt := top 19
abbrev s_law_made : Stmt := top 20
abbrev s_law_integer : Stmt := top 21
abbrev s_law_truth : Stmt := top 22
abbrev s_law_is : Stmt := top 23
abbrev s_law_refused : Stmt := top 24
abbrev s_law_operators : Stmt := top 25
abbrev s_law_over : Stmt := top 26
abbrev s_law_orders : Stmt := top 27
abbrev s_law_powers : Stmt := top 28
abbrev s_law_single : Stmt := top 29
abbrev s_law_in_place : Stmt := top 30
abbrev s_law_made_plain : Stmt := top 31
abbrev s_law : Stmt := top 32
theorem c_BadNumber_init : FnScope ["self", "text"] ["self", "text"] (defScope s_BadNumber_init) := ⟨rfl, rfl, rfl, by decide +kernel, rfl, by decide +kernel, by decide +kernel⟩
theorem c_as_frac : FnScope ["number"] ["number"] (defScope s_as_frac) := ⟨rfl, rfl, rfl, by decide +kernel, rfl, by decide +kernel, by decide +kernel⟩
theorem c_gap : FnScope ["left", "right", "other"] ["left", "right"] (defScope s_gap) := ⟨rfl, rfl, rfl, by decide +kernel, rfl, by decide +kernel, by decide +kernel⟩
theorem c_are_figures : FnScope ["text"] ["text"] (defScope s_are_figures) := ⟨rfl, rfl, rfl, by decide +kernel, rfl, by decide +kernel, by decide +kernel⟩
theorem c_Frac_init : FnScope ["self", "num", "den", "common"] ["self", "num", "den"] (defScope s_Frac_init) := ⟨rfl, rfl, rfl, by decide +kernel, rfl, by decide +kernel, by decide +kernel⟩
theorem c_Frac_read : FnScope ["text", "top", "slash", "bottom", "number"] ["text"] (defScope s_Frac_read) := ⟨rfl, rfl, rfl, by decide +kernel, rfl, by decide +kernel, by decide +kernel⟩
theorem c_Frac_over : FnScope ["self", "other", "right"] ["self", "other"] (defScope s_Frac_over) := ⟨rfl, rfl, rfl, by decide +kernel, rfl, by decide +kernel, by decide +kernel⟩
theorem c_Frac_floor : FnScope ["self"] ["self"] (defScope s_Frac_floor) := ⟨rfl, rfl, rfl, by decide +kernel, rfl, by decide +kernel, by decide +kernel⟩
theorem c_Frac_ceiling : FnScope ["self"] ["self"] (defScope s_Frac_ceiling) := ⟨rfl, rfl, rfl, by decide +kernel, rfl, by decide +kernel, by decide +kernel⟩
theorem c_Frac_is_whole : FnScope ["self"] ["self"] (defScope s_Frac_is_whole) := ⟨rfl, rfl, rfl, by decide +kernel, rfl, by decide +kernel, by decide +kernel⟩
theorem c_Frac_str : FnScope ["self"] ["self"] (defScope s_Frac_str) := ⟨rfl, rfl, rfl, by decide +kernel, rfl, by decide +kernel, by decide +kernel⟩
theorem c_Frac_repr : FnScope ["self"] ["self"] (defScope s_Frac_repr) := ⟨rfl, rfl, rfl, by decide +kernel, rfl, by decide +kernel, by decide +kernel⟩
theorem c_Frac_bool : FnScope ["self"] ["self"] (defScope s_Frac_bool) := ⟨rfl, rfl, rfl, by decide +kernel, rfl, by decide +kernel, by decide +kernel⟩
theorem c_Frac_neg : FnScope ["self"] ["self"] (defScope s_Frac_neg) := ⟨rfl, rfl, rfl, by decide +kernel, rfl, by decide +kernel, by decide +kernel⟩
theorem c_Frac_abs : FnScope ["self"] ["self"] (defScope s_Frac_abs) := ⟨rfl, rfl, rfl, by decide +kernel, rfl, by decide +kernel, by decide +kernel⟩
theorem c_Frac_add : FnScope ["self", "other", "right"] ["self", "other"] (defScope s_Frac_add) := ⟨rfl, rfl, rfl, by decide +kernel, rfl, by decide +kernel, by decide +kernel⟩
theorem c_Frac_radd : FnScope ["self", "other"] ["self", "other"] (defScope s_Frac_radd) := ⟨rfl, rfl, rfl, by decide +kernel, rfl, by decide +kernel, by decide +kernel⟩
theorem c_Frac_sub : FnScope ["self", "other", "right"] ["self", "other"] (defScope s_Frac_sub) := ⟨rfl, rfl, rfl, by decide +kernel, rfl, by decide +kernel, by decide +kernel⟩
theorem c_Frac_rsub : FnScope ["self", "other"] ["self", "other"] (defScope s_Frac_rsub) := ⟨rfl, rfl, rfl, by decide +kernel, rfl, by decide +kernel, by decide +kernel⟩
theorem c_Frac_mul : FnScope ["self", "other", "right"] ["self", "other"] (defScope s_Frac_mul) := ⟨rfl, rfl, rfl, by decide +kernel, rfl, by decide +kernel, by decide +kernel⟩
theorem c_Frac_rmul : FnScope ["self", "other"] ["self", "other"] (defScope s_Frac_rmul) := ⟨rfl, rfl, rfl, by decide +kernel, rfl, by decide +kernel, by decide +kernel⟩
theorem c_Frac_floordiv : FnScope ["self", "other"] ["self", "other"] (defScope s_Frac_floordiv) := ⟨rfl, rfl, rfl, by decide +kernel, rfl, by decide +kernel, by decide +kernel⟩
theorem c_Frac_rfloordiv : FnScope ["self", "other"] ["self", "other"] (defScope s_Frac_rfloordiv) := ⟨rfl, rfl, rfl, by decide +kernel, rfl, by decide +kernel, by decide +kernel⟩
theorem c_Frac_mod : FnScope ["self", "other"] ["self", "other"] (defScope s_Frac_mod) := ⟨rfl, rfl, rfl, by decide +kernel, rfl, by decide +kernel, by decide +kernel⟩
theorem c_Frac_rmod : FnScope ["self", "other"] ["self", "other"] (defScope s_Frac_rmod) := ⟨rfl, rfl, rfl, by decide +kernel, rfl, by decide +kernel, by decide +kernel⟩
theorem c_Frac_pow : FnScope ["self", "other", "num", "den", "_"] ["self", "other"] (defScope s_Frac_pow) := ⟨rfl, rfl, rfl, by decide +kernel, rfl, by decide +kernel, by decide +kernel⟩
theorem c_Frac_eq : FnScope ["self", "other", "right"] ["self", "other"] (defScope s_Frac_eq) := ⟨rfl, rfl, rfl, by decide +kernel, rfl, by decide +kernel, by decide +kernel⟩
theorem c_Frac_ne : FnScope ["self", "other"] ["self", "other"] (defScope s_Frac_ne) := ⟨rfl, rfl, rfl, by decide +kernel, rfl, by decide +kernel, by decide +kernel⟩
theorem c_Frac_lt : FnScope ["self", "other"] ["self", "other"] (defScope s_Frac_lt) := ⟨rfl, rfl, rfl, by decide +kernel, rfl, by decide +kernel, by decide +kernel⟩
theorem c_Frac_le : FnScope ["self", "other"] ["self", "other"] (defScope s_Frac_le) := ⟨rfl, rfl, rfl, by decide +kernel, rfl, by decide +kernel, by decide +kernel⟩
theorem c_Frac_gt : FnScope ["self", "other"] ["self", "other"] (defScope s_Frac_gt) := ⟨rfl, rfl, rfl, by decide +kernel, rfl, by decide +kernel, by decide +kernel⟩
theorem c_Frac_ge : FnScope ["self", "other"] ["self", "other"] (defScope s_Frac_ge) := ⟨rfl, rfl, rfl, by decide +kernel, rfl, by decide +kernel, by decide +kernel⟩
theorem c_law_cell : FnScope ["script", "k"] ["script", "k"] (defScope s_law_cell) := ⟨rfl, rfl, rfl, by decide +kernel, rfl, by decide +kernel, by decide +kernel⟩
theorem c_law_gcd : FnScope ["first", "second", "rest"] ["first", "second"] (defScope s_law_gcd) := ⟨rfl, rfl, rfl, by decide +kernel, rfl, by decide +kernel, by decide +kernel⟩
theorem c_law_low : FnScope ["num", "den", "shared"] ["num", "den"] (defScope s_law_low) := ⟨rfl, rfl, rfl, by decide +kernel, rfl, by decide +kernel, by decide +kernel⟩
theorem c_law_add : FnScope ["first", "second", "num"] ["first", "second"] (defScope s_law_add) := ⟨rfl, rfl, rfl, by decide +kernel, rfl, by decide +kernel, by decide +kernel⟩
theorem c_law_mul : FnScope ["first", "second"] ["first", "second"] (defScope s_law_mul) := ⟨rfl, rfl, rfl, by decide +kernel, rfl, by decide +kernel, by decide +kernel⟩
theorem c_law_floor : FnScope ["first", "second", "num", "den"] ["first", "second"] (defScope s_law_floor) := ⟨rfl, rfl, rfl, by decide +kernel, rfl, by decide +kernel, by decide +kernel⟩
theorem c_law_great : FnScope ["script", "k", "great", "j"] ["script", "k"] (defScope s_law_great) := ⟨rfl, rfl, rfl, by decide +kernel, rfl, by decide +kernel, by decide +kernel⟩
theorem c_law_numerator : FnScope ["script", "k", "cell"] ["script", "k"] (defScope s_law_numerator) := ⟨rfl, rfl, rfl, by decide +kernel, rfl, by decide +kernel, by decide +kernel⟩
theorem c_law_denominator : FnScope ["script", "k", "cell"] ["script", "k"] (defScope s_law_denominator) := ⟨rfl, rfl, rfl, by decide +kernel, rfl, by decide +kernel, by decide +kernel⟩
theorem c_law_made : FnScope ["value", "cell", "factor"] ["value", "cell"] (defScope s_law_made) := ⟨rfl, rfl, rfl, by decide +kernel, rfl, by decide +kernel, by decide +kernel⟩
theorem c_law_integer : FnScope ["told", "due"] ["told", "due"] (defScope s_law_integer) := ⟨rfl, rfl, rfl, by decide +kernel, rfl, by decide +kernel, by decide +kernel⟩
theorem c_law_truth : FnScope ["told", "due"] ["told", "due"] (defScope s_law_truth) := ⟨rfl, rfl, rfl, by decide +kernel, rfl, by decide +kernel, by decide +kernel⟩
theorem c_law_is : FnScope ["told", "due"] ["told", "due"] (defScope s_law_is) := ⟨rfl, rfl, rfl, by decide +kernel, rfl, by decide +kernel, by decide +kernel⟩
theorem c_law_refused : FnScope ["left", "right", "way", "told", "e"] ["left", "right", "way"] (defScope s_law_refused) := ⟨rfl, rfl, rfl, by decide +kernel, rfl, by decide +kernel, by decide +kernel⟩
theorem c_law_operators : FnScope ["left", "right", "first", "second", "times"] ["left", "right", "first", "second"] (defScope s_law_operators) := ⟨rfl, rfl, rfl, by decide +kernel, rfl, by decide +kernel, by decide +kernel⟩
theorem c_law_over : FnScope ["left", "right", "first", "second", "due"] ["left", "right", "first", "second"] (defScope s_law_over) := ⟨rfl, rfl, rfl, by decide +kernel, rfl, by decide +kernel, by decide +kernel⟩
theorem c_law_orders : FnScope ["left", "right", "first", "second", "less", "same", "due", "told", "k"] ["left", "right", "first", "second"] (defScope s_law_orders) := ⟨rfl, rfl, rfl, by decide +kernel, rfl, by decide +kernel, by decide +kernel⟩
theorem c_law_powers : FnScope ["value", "due", "told", "num", "den", "power"] ["value", "due"] (defScope s_law_powers) := ⟨rfl, rfl, rfl, by decide +kernel, rfl, by decide +kernel, by decide +kernel⟩
theorem c_law_single : FnScope ["value", "due", "word"] ["value", "due"] (defScope s_law_single) := ⟨rfl, rfl, rfl, by decide +kernel, rfl, by decide +kernel, by decide +kernel⟩
theorem c_law_in_place : FnScope ["kept", "right", "first", "second", "total", "left", "product", "times"] ["kept", "right", "first", "second"] (defScope s_law_in_place) := ⟨rfl, rfl, rfl, by decide +kernel, rfl, by decide +kernel, by decide +kernel⟩
theorem c_law_made_plain : FnScope ["first"] ["first"] (defScope s_law_made_plain) := ⟨rfl, rfl, rfl, by decide +kernel, rfl, by decide +kernel, by decide +kernel⟩
theorem c_law : FnScope ["script", "one", "two", "relation", "left", "right", "asked", "item"] ["script"] (defScope s_law) := ⟨rfl, rfl, rfl, by decide +kernel, rfl, by decide +kernel, by decide +kernel⟩
end Bp

namespace Bp
open PySem.Spec PySem PyProof.Rows
open L2 hiding St

/-! ### the numbers on the heap -/
def fl (r : Rat) : List (Str × V) := [("num", .int r.num), ("den", .int (r.den : Int))]
theorem kne : ¬ (("num" : Str) = "den") := by decide +kernel
theorem kne' : ¬ (("den" : Str) = "num") := by decide +kernel
theorem fl_put (r : Rat) : putF "den" (.int (r.den : Int)) (putF "num" (.int r.num) []) = fl r := by
  show (if ("num" : Str) = "den" then _ else (("num" : Str), V.int r.num) :: putF "den" (V.int (r.den : Int)) []) = _
  rw [if_neg kne]
  rfl
theorem fl_num (r : Rat) : (fl r).lookup ("num" : Str) = some (.int r.num) := by
  rw [← fl_put, lookup_putF, if_neg kne, lookup_putF, if_pos rfl]
theorem fl_den (r : Rat) : (fl r).lookup ("den" : Str) = some (.int (r.den : Int)) := by
  rw [← fl_put, lookup_putF, if_pos rfl]
theorem fl_no (r : Rat) {m : Str} (h1 : ¬ m = "num") (h2 : ¬ m = "den") : (fl r).lookup m = none := by
  rw [← fl_put, lookup_putF, if_neg h2, lookup_putF, if_neg h1]
  rfl
/-- the Frac r stands at p -/
def FrAt (C : Addr) (H : Hp) (p : Addr) (r : Rat) : Prop := ∃ dx, H p = some (.ins C dx (fl r))
theorem FrAt.mono {C : Addr} {H H' : Hp} {p : Addr} {r : Rat} (h : FrAt C H p r) (s : Same H H') : FrAt C H' p r := let ⟨dx, e⟩ := h; ⟨dx, s _ _ e⟩
theorem FrAt.isI {C : Addr} {H : Hp} {p : Addr} {r : Rat} (h : FrAt C H p r) : IsI C H (.ref p) := let ⟨dx, e⟩ := h; ⟨p, dx, _, rfl, e⟩
/-- v is the number r: an int or a Frac -/
def NumV (C : Addr) (H : Hp) (v : V) (r : Rat) : Prop := (∃ n : Int, v = .int n ∧ r = (n : Rat)) ∨ ∃ p, v = .ref p ∧ FrAt C H p r
theorem NumV.mono {C : Addr} {H H' : Hp} {v : V} {r : Rat} (h : NumV C H v r) (s : Same H H') : NumV C H' v r := h.imp id fun ⟨p, e, f⟩ => ⟨p, e, f.mono s⟩
theorem FrAt.num {C : Addr} {H : Hp} {p : Addr} {r : Rat} (h : FrAt C H p r) : NumV C H (.ref p) r := .inr ⟨p, rfl, h⟩
theorem NumV.int (C : Addr) (H : Hp) (n : Int) : NumV C H (.int n) (n : Rat) := .inl ⟨n, rfl, rfl⟩
/-- a new Frac r is handed back, all else stands -/
def Ret (C : Addr) (H : Hp) (Q : VK) (r : Rat) : Prop := ∀ p H', Same H H' → FrAt C H' p r → Q (.ref p) H'
theorem Ret.mono {C : Addr} {H H' : Hp} {Q : VK} {r : Rat} (h : Ret C H Q r) (s : Same H H') : Ret C H' Q r := fun p H2 s2 f => h p H2 (s.trans s2) f

/-! ### what the text says of the class Frac (at C) and of DivisionByZero (at Z) -/
structure FrTxt (K : PySem.W.Frag) (mg : Str → Option Value) (C Z : Addr) : Prop where
  cl : Cls K C
  nN : NoAttr K C "num"
  nD : NoAttr K C "den"
  gC : mg "Frac" = some (.ref C)
  self : PySem.W.selfFirst K C = true
  subI : PySem.W.subIn K (.type "int") (.ref C) = some false
  subN : PySem.W.subIn K (.type "NoneType") (.ref C) = some false
  subS : PySem.W.subIn K (.type "str") (.ref C) = some false
  subC : PySem.W.subIn K (.ref C) (.type "int") = some false
  isC : PySem.W.isClsIn K C = true
  tyC : PySem.W.typeIn K (.ref C) = some (.type "type")
  ca : PySem.W.findIn K (.ref C) "__class__" = some (some (.builtin "object.__class__"))
  cn : PySem.W.specialIn K (.builtin "object.__class__") "__get__" = some (some (.builtin "getset_descriptor.__get__"))
  ct : PySem.W.takesIn K (.builtin "object.__class__") = some true
  cm : PySem.W.mroIn K C (.type "object") = some true
  isi : mg "isinstance" = none
  int : mg "int" = none
  gcd : mg "gcd" = some (.builtin "math.gcd")
  ni : mg "NotImplemented" = none
  gZ : mg "DivisionByZero" = some (.ref Z)
  xZ : PySem.W.excIn K Z [.type "ValueError", .type "Exception", .type "BaseException", .type "object"] "ValueError.__new__" = true
  kZ : PySem.W.keepIn K (.ref Z) = true
  bZ : PySem.W.subIn K (.ref Z) (.type "BaseException") = some true
  tZ : PySem.W.typeIn K (.ref Z) = some (.type "type")
section
variable {P : Program} {w : World} {K : PySem.W.Frag} {mg : Str → Option Value} {base : Heap} {C Z : Addr} {H : Hp} {Q : VK} {E : XK}
theorem FrTxt.ty (T : FrTxt K mg C Z) {a : Addr} {dx : Addr} {fs : List (Str × V)} (h : H a = some (.ins C dx fs)) : TyX K H (.ref a) (.ref C) := .base (.ins h T.cl T.ca T.cn T.ct T.cm)
/-! ### readings of the numbers' parts -/
theorem rd_num (T : FrTxt K mg C Z) {te : TE} {σ : L2.St} {p : Addr} {r : Rat} (h : te σ H fun x H1 => x = .ref p ∧ FrAt C H1 p r ∧ Q (.int r.num) H1) : te σ H fun x H1 => x = .ref p ∧ FrAt C H1 p r ∧ Q (.int r.num) H1 := h
theorem fld_num (T : FrTxt K mg C Z) {i : Nat} {σ : L2.St} {p : Addr} {r : Rat} (hs : σ[i]? = some (some (.ref p))) (f : FrAt C H p r) (q : Q (.int r.num) H) : tFld K (tVar i) "num" σ H Q := by
  obtain ⟨dx, e⟩ := f
  exact ⟨_, hs, p, C, dx, _, _, rfl, e, T.cl, T.nN, fl_num r, q⟩
theorem fld_den (T : FrTxt K mg C Z) {i : Nat} {σ : L2.St} {p : Addr} {r : Rat} (hs : σ[i]? = some (some (.ref p))) (f : FrAt C H p r) (q : Q (.int (r.den : Int)) H) : tFld K (tVar i) "den" σ H Q := by
  obtain ⟨dx, e⟩ := f
  exact ⟨_, hs, p, C, dx, _, _, rfl, e, T.cl, T.nD, fl_den r, q⟩
/-! ### // of ints by a divisor of either sign -/
theorem op_fdivZ {X : Cx} : OpR X (binaryOp .FloorDiv) (rI (fun _ j => j ≠ 0 ∧ j.natAbs.log2 < 9000) fun i j => .int (i.fdiv j)) := opI fun _ _ _ _ _ _ _ hc q => floordiv_int hc.1 q (.inl (PyProof.noPylong_of_log2 hc.2))
theorem log_of {x b : Nat} (h : x < 2 ^ b) (hb : 0 < b) : x.log2 < b := PySem.Flt.log2_lt_of hb h
theorem ite_dec {c A B : Prop} [Decidable c] (h1 : c → A) (h2 : ¬ c → B) : if decide c = true then A else B := by
  by_cases h : c
  · rw [decide_eq_true h, if_pos rfl]
    exact h1 h
  · rw [decide_eq_false h, if_neg Bool.false_ne_true]
    exact h2 h
theorem vint {i j : Int} : (V.int i = V.int j) ↔ i = j := ⟨fun h => by injection h, fun h => by rw [h]⟩

/-! ### Frac.__init__ -/
def spInit (C Z : Addr) : Sp := fun vs H Q E => ∃ (x dx : Addr) (n d : Int), vs = [.ref x, .int n, .int d] ∧ H x = some (.ins C dx []) ∧ d.natAbs < 2 ^ 8000 ∧ (d = 0 → E (.ref Z) none H) ∧
  (d ≠ 0 → ∀ H', H' x = some (.ins C dx (fl (Rat.divInt n d))) → (∀ b o, b ≠ x → H b = some o → H' b = some o) → Q .non H')
structure IFun (K : PySem.W.Frag) (C : Addr) : Prop where
  ex : ∃ f fd, FunD K "__init__" "Frac.__init__" (defArgs s_Frac_init) (defBody s_Frac_init) (defScope s_Frac_init) [.int 0, .int 1] [] f fd ∧ Mk K C f
theorem init_ok (T : FrTxt K mg C Z) {f : Addr} {fd : FuncData} (F : FunD K "__init__" "Frac.__init__" (defArgs s_Frac_init) (defBody s_Frac_init) (defScope s_Frac_init) [.int 0, .int 1] [] f fd) :
    FnOk P w K mg base (L2.CX P w) 1 f fd ["self", "num", "den"] (spInit C Z) := by
  refine F.ok c_Frac_init (fun vs H Q E h => ?_) (fun cdv A outer s H vs Q E hr h => ?_)
  · obtain ⟨x, dx, n, d, rfl, _⟩ := h
    rfl
  · obtain ⟨x, dx, n, d, rfl, hx, hsz, kE, kQ⟩ := h
    refine ⟨_, pss_cons (ps_if (pt_cmpR op_eq (pv 2) pe_int (nomark _)) (pss_one (ps_raise rfl (takes_of rfl rfl rfl rfl) (pmk_own0 PySem.F.excBase_ValueError T.xZ T.gZ T.kZ (raises_own T.bZ T.tZ) rfl))) pss_nil)
      (pss_cons (ps_set (i := 3) c_Frac_init.nd rfl (.inl rfl) (pe_callBfun cr_gcd rfl T.gcd (pa_cons (pv 1) (pa_cons (pv 2) pa_nil))))
      (pss_cons (ps_if (pt_cmpR op_lt (pv 2) pe_int (nomark _)) (pss_one (ps_set (i := 3) c_Frac_init.nd rfl (.inl rfl) (pe_un un_neg (pv 3)))) pss_nil)
      (pss_cons (ps_fld (pv 0) (pe_op op_fdivZ (pv 1) (pv 3)) rfl)
      (pss_one (ps_fld (pv 0) (pe_op op_fdivZ (pv 2) (pv 3)) rfl))))), ?_⟩
    refine ⟨_, rfl, rfl, _, rfl, ite_dec (fun e => ?_) (fun e => ?_)⟩
    · exact kE (vint.mp e)
    · have d0 : d ≠ 0 := fun z => e (by rw [z])
      have q := kQ d0
      have lc : (com n d).natAbs.log2 < 9000 := log_of (Nat.lt_of_le_of_lt (com_le d0) (Nat.lt_of_lt_of_le hsz (pow_le (by decide)))) (by decide)
      -- behind the two ifs common is com n d
      have rest : ∀ z : V, z = .int (com n d) → (fun (D : Ends) (σ : L2.St) (H : Hp) => tSeq (sFld K (tVar 0) (tOp (rI (fun _ j => j ≠ 0 ∧ j.natAbs.log2 < 9000) fun i j => .int (i.fdiv j)) (tVar 1) (tVar 3)) "num")
          (sFld K (tVar 0) (tOp (rI (fun _ j => j ≠ 0 ∧ j.natAbs.log2 < 9000) fun i j => .int (i.fdiv j)) (tVar 2) (tVar 3)) "den") D σ H) { nx := fun _ H' => Q .non H', rt := Q } [some (.ref x), some (.int n), some (.int d), some z] H := by
        rintro z rfl
        refine ⟨_, rfl, _, rfl, _, _, rfl, rfl, ⟨com_ne d0, lc⟩, _, rfl, x, C, dx, [], rfl, hx, T.cl, T.nN, by decide, ?_⟩
        refine ⟨_, rfl, _, rfl, _, _, rfl, rfl, ⟨com_ne d0, lc⟩, _, rfl, x, C, dx, _, rfl, upd_same, T.cl, T.nD, (by show 1 < 1000; decide), ?_⟩
        dsimp only
        rw [num_com d0, den_com d0, fl_put, upd_upd]
        exact q _ upd_same fun b o hb e => by rw [upd_ne hb]; exact e
      refine ⟨_, rfl, _, rfl, n, d, rfl, ?_⟩
      refine ⟨_, rfl, _, _, rfl, rfl, _, rfl, ite_dec (fun hd => ?_) (fun hd => ?_)⟩
      · exact ⟨_, rfl, _, rfl, rest _ (by unfold com; rw [if_pos hd])⟩
      · exact rest _ (by unfold com; rw [if_neg hd])
end
end Bp

namespace Bp
open PySem.Spec PySem PyProof.Rows
open L2 hiding St
section
variable {P : Program} {w : World} {K : PySem.W.Frag} {mg : Str → Option Value} {base : Heap} {C Z : Addr} {H : Hp} {Q : VK} {E : XK}
/-- the value is a Frac r; a number r -/
abbrev Fr (C : Addr) (r : Rat) : VP := fun v H => ∃ p, v = .ref p ∧ FrAt C H p r
abbrev Nm (C : Addr) (r : Rat) : VP := fun v H => NumV C H v r
theorem up_fr (C : Addr) (r : Rat) : Up (Fr C r) := fun v H H' ⟨p, e, f⟩ s => ⟨p, e, f.mono s⟩
theorem up_nm (C : Addr) (r : Rat) : Up (Nm C r) := fun v H H' h s => h.mono s
theorem ret_of {r : Rat} (q : ∀ v H2, Same H H2 → Fr C r v H2 → Q v H2) : Ret C H Q r := fun p H' s f => q _ H' s ⟨p, rfl, f⟩
/-- what Frac(n, d) asks -/
theorem mk_read {n d : Int} (hs : d.natAbs < 2 ^ 8000) (hE : d = 0 → ∀ H', Same H H' → E (.ref Z) none H') (hQ : d ≠ 0 → Ret C H Q (Rat.divInt n d)) (x dx : Addr) (nx : H x = none) (nd : H dx = none) (ne : dx ≠ x) :
    spInit C Z [.ref x, .int n, .int d] (upd (upd H dx (.own x)) x (.ins C dx [])) (fun v H2 => v = .non ∧ Q (.ref x) H2) E := by
  have n2 : (upd H dx (.own x)) x = none := by rw [upd_ne (Ne.symm ne)]; exact nx
  have s1 : Same H (upd (upd H dx (.own x)) x (.ins C dx [])) := (Same.new nd).trans (Same.new n2)
  refine ⟨x, dx, n, d, rfl, upd_same, hs, fun e => hE e _ s1, fun e H' hx k => ⟨rfl, hQ e x H' (fun b o h => ?_) ⟨dx, hx⟩⟩⟩
  exact k b o (ne_of_none h nx) (s1 b o h)
theorem one_lt8 : (1 : Int).natAbs < 2 ^ 8000 := Nat.lt_of_lt_of_le (by decide : (1 : Nat) < 2 ^ 1) (pow_le (by decide))
theorem ge_mk2 {E : L2.St → XK} {σ : L2.St} {ta tb : TE} {n d : Int} (ha : Ge ta σ H (Is (.int n))) (hb : Ge tb σ H (Is (.int d))) (hs : d.natAbs < 2 ^ 8000) (d0 : d ≠ 0) :
    Ge (tMakeS C (spInit C Z) [] E (tCons ta (tCons tb tNil))) σ H (Fr C (Rat.divInt n d)) := fun H1 s Q q => ha H1 s _ fun v H2 s2 e2 => hb H2 (s.trans s2) _ fun w' H3 s3 e3 => by
  subst e2
  subst e3
  exact mk_read hs (fun z => absurd z d0) fun _ => (ret_of fun v H4 s4 f => q v H4 ((s2.trans s3).trans s4) f)
theorem ge_mk1 {E : L2.St → XK} {σ : L2.St} {ta : TE} {n : Int} (ha : Ge ta σ H (Is (.int n))) : Ge (tMakeS C (spInit C Z) [.int 1] E (tCons ta tNil)) σ H (Fr C (n : Rat)) := fun H1 s Q q => ha H1 s _ fun v H2 s2 e2 => by
  subst e2
  exact mk_read one_lt8 (fun z => absurd z (by decide)) fun _ => by
    rw [divInt_one]
    exact ret_of fun v H4 s4 f => q v H4 (s2.trans s4) f
theorem ge_mk0 {E : L2.St → XK} {σ : L2.St} : Ge (tMakeS C (spInit C Z) [.int 0, .int 1] E tNil) σ H (Fr C 0) := fun H1 s Q q =>
  mk_read one_lt8 (fun z => absurd z (by decide)) fun _ => by
    rw [divInt_one]
    exact ret_of fun v H4 s4 f => q v H4 s4 f
/-- isinstance(v, int) -/
def isInt (v : V) : Bool := match v with | .int _ => true | _ => false
theorem isi_int (T : FrTxt K mg C Z) {v : V} {r : Rat} (h : NumV C H v r) (q : Q (.bl (isInt v)) H) : rIsi K [v, .ty "int"] H Q := by
  rcases h with ⟨n, rfl, e⟩ | ⟨p, rfl, f⟩
  · exact ⟨_, _, _, _, true, rfl, .ty "int", .base (.int n), kit_same, q⟩
  · obtain ⟨dx, hp⟩ := id f
    exact ⟨_, _, _, _, false, rfl, .ty "int", T.ty hp, kit_base (by rfl) (by decide +kernel) T.subC, q⟩
theorem ge_isiI (T : FrTxt K mg C Z) {i : Nat} {σ : L2.St} {v : V} {r : Rat} (hs : σ[i]? = some (some v)) (h : NumV C H v r) : Ge (tCB (rIsi K) (tCons (tVar i) (tCons (tC (.ty "int")) tNil))) σ H (Is (.bl (isInt v))) := fun H1 s Q q =>
  ⟨v, hs, isi_int T (h.mono s) (q _ H1 (Same.refl _) rfl)⟩
/-- isinstance(v, (int, Frac)) -/
theorem isi_num (T : FrTxt K mg C Z) {v : V} {r : Rat} {tp : Addr} (h : NumV C H v r) (ht : H tp = some (.tup [.ty "int", .ref C])) (q : Q (.bl true) H) : rIsiT K [v, .ref tp] H Q := by
  have cs : Paired ClsV [V.ty "int", V.ref C] [Value.type "int", Value.ref C] := .cons (.ty "int") (.cons (.own C) .nil)
  rcases h with ⟨n, rfl, e⟩ | ⟨p, rfl, dx, hp⟩
  · exact ⟨_, tp, _, _, _, true, rfl, ht, cs, .base (.int n), kitAny_cons (b := true) kit_same (fun z => nomatch z) (fun _ => rfl), q⟩
  · exact ⟨_, tp, _, _, _, true, rfl, ht, cs, T.ty hp, kitAny_cons (b := false) (kit_base (by rfl) (by decide +kernel) T.subC) (fun _ => kitAny_cons (b := true) kit_same (fun z => nomatch z) (fun _ => rfl)) (fun z => nomatch z), q⟩
theorem isi_no (T : FrTxt K mg C Z) {v : V} {tp : Addr} (h : NoNum v) (ht : H tp = some (.tup [.ty "int", .ref C])) (q : Q (.bl false) H) : rIsiT K [v, .ref tp] H Q := by
  have cs : Paired ClsV [V.ty "int", V.ref C] [Value.type "int", Value.ref C] := .cons (.ty "int") (.cons (.own C) .nil)
  rcases h with rfl | ⟨x, rfl⟩
  · exact ⟨_, tp, _, _, _, false, rfl, ht, cs, .base .non, kitAny_cons (b := false) (kit_ty (by decide +kernel)) (fun _ => kitAny_cons (b := false) (kit_cls (by rfl) T.isC T.tyC T.subN) (fun _ => kitAny_nil) (fun z => nomatch z)) (fun z => nomatch z), q⟩
  · exact ⟨_, tp, _, _, _, false, rfl, ht, cs, .base (.str x), kitAny_cons (b := false) (kit_ty (by decide +kernel)) (fun _ => kitAny_cons (b := false) (kit_cls (by rfl) T.isC T.tyC T.subS) (fun _ => kitAny_nil) (fun z => nomatch z)) (fun z => nomatch z), q⟩
/-- if not isinstance(other, (int, Frac)): return NotImplemented -/
abbrev tIsiN (K : PySem.W.Frag) (C : Addr) (i : Nat) : TE := tCB (rIsiT K) (tCons (tVar i) (tCons (tTup (tCons (tC (.ty "int")) (tCons (tC (.ref C)) tNil))) tNil))
theorem pe_isiN {X : Cx} (T : FrTxt X.K X.mg C Z) (i : Nat) {x : Str} {k : Nat} {p0 p1 p2 p3 p4 p5 : Pos} (hN : X.N[i]? = some x) (hv : Vis X.env.scope x) (h1 : Gl X "isinstance") (h2 : Gl X "int") (h3 : Gl X "Frac")
    (hd : (x == ("__debug__" : Str)) = false := by decide) (hcd : (x == ("__classdict__" : Str)) = false := by decide)
    (he : starEach ([.Name x p1, .Tuple [.Name "int" p2, .Name "Frac" p3] k p4] : List Expr) X.env = (false, eval (.Name x p1) X.env) :: starEach [.Tuple [.Name "int" p2, .Name "Frac" p3] k p4] X.env := by rfl)
    (hpl : (backTo p5 (starEach ([.Tuple [.Name "int" p2, .Name "Frac" p3] k p4] : List Expr) X.env)).any (·.1) = false := by rfl) :
    PE X (.Call (.Name "isinstance" p0) [.Name x p1, .Tuple [.Name "int" p2, .Name "Frac" p3] k p4] [] p5) (tIsiN X.K C i) :=
  pe_callB call_isiT h1 T.isi (by decide +kernel) (pa_cons (pe_var hN hv hd hcd) (pa_cons (pe_tup (pa_cons (pe_bltn (v := .ty "int") h2 T.int (by decide +kernel) rfl) (pa_cons (pe_glob h3 T.gC rfl) pa_nil))) pa_nil)) (he := he) (hpl := hpl)
theorem ge_isiN (T : FrTxt K mg C Z) {i : Nat} {σ : L2.St} {v : V} {r : Rat} (hs : σ[i]? = some (some v)) (h : NumV C H v r) : Ge (tIsiN K C i) σ H (Is (.bl true)) := fun H1 s Q q =>
  ⟨v, hs, (by show 2 ≤ sizeLine; decide), fun p hp => isi_num T (h.mono (s.trans (Same.new hp))) upd_same (q _ _ (Same.new hp) rfl)⟩
theorem ge_isiNo (T : FrTxt K mg C Z) {i : Nat} {σ : L2.St} {v : V} (hs : σ[i]? = some (some v)) (h : NoNum v) : Ge (tIsiN K C i) σ H (Is (.bl false)) := fun H1 s Q q =>
  ⟨v, hs, (by show 2 ≤ sizeLine; decide), fun p hp => isi_no T h upd_same (q _ _ (Same.new hp) rfl)⟩
abbrev tGuard (K : PySem.W.Frag) (C : Addr) : TS := tIfS (tNot (tB (tIsiN K C 1))) tNever tNext
theorem s_guard (T : FrTxt K mg C Z) {D : Ends} {σ : L2.St} {v : V} {r : Rat} (hs : σ[1]? = some (some v)) (h : NumV C H v r) (q : ∀ H', Same H H' → D.nx σ H') : tGuard K C D σ H := s_no (gt_not (gt_b (ge_isiN T hs h))) q
theorem ps_guard {X : Cx} (T : FrTxt X.K X.mg C Z) {k : Nat} {p0 p1 p2 p3 p4 p5 p6 p7 : Pos} {st : Stmt} (hN : X.N[1]? = some ("other" : Str)) (hv : Vis X.env.scope "other") (h1 : Gl X "isinstance") (h2 : Gl X "int") (h3 : Gl X "Frac")
    (he : starEach ([.Name "other" p1, .Tuple [.Name "int" p2, .Name "Frac" p3] k p4] : List Expr) X.env = (false, eval (.Name "other" p1) X.env) :: starEach [.Tuple [.Name "int" p2, .Name "Frac" p3] k p4] X.env := by rfl)
    (hpl : (backTo p5 (starEach ([.Tuple [.Name "int" p2, .Name "Frac" p3] k p4] : List Expr) X.env)).any (·.1) = false := by rfl)
    (hw : ∀ whole, isTrue (.Call (.Name "isinstance" p0) [.Name "other" p1, .Tuple [.Name "int" p2, .Name "Frac" p3] k p4] [] p5) X.env whole = (do let v ← whole; standAt (Expr.pos (.Call (.Name "isinstance" p0) [.Name "other" p1, .Tuple [.Name "int" p2, .Name "Frac" p3] k p4] [] p5)); holding [v] (truthy v)) := by intro _; rfl) :
    PS X (.If (.UnaryOp .Not (.Call (.Name "isinstance" p0) [.Name "other" p1, .Tuple [.Name "int" p2, .Name "Frac" p3] k p4] [] p5) p6) [st] [] p7) (tGuard X.K C) :=
  ps_if (pt_not (pt_val (pe_isiN T 1 hN hv h1 h2 h3 (by decide) (by decide) he hpl) hw)) pss_never pss_nil
/-! ### fields -/
theorem ge_num (T : FrTxt K mg C Z) {te : TE} {σ : L2.St} {r : Rat} (h : Ge te σ H (Fr C r)) : Ge (tFld K te "num") σ H (Is (.int r.num)) := fun H1 s Q q => h H1 s _ fun v H2 s2 ⟨p, e, dx, f⟩ =>
  ⟨p, C, dx, _, _, e, f, T.cl, T.nN, fl_num r, q _ H2 s2 rfl⟩
theorem ge_den (T : FrTxt K mg C Z) {te : TE} {σ : L2.St} {r : Rat} (h : Ge te σ H (Fr C r)) : Ge (tFld K te "den") σ H (Is (.int (r.den : Int))) := fun H1 s Q q => h H1 s _ fun v H2 s2 ⟨p, e, dx, f⟩ =>
  ⟨p, C, dx, _, _, e, f, T.cl, T.nD, fl_den r, q _ H2 s2 rfl⟩
theorem ge_self {σ : L2.St} {i : Nat} {x : Addr} {p : Rat} (hs : σ[i]? = some (some (.ref x))) (h : FrAt C H x p) : Ge (tVar i) σ H (Fr C p) := ge_varP hs ⟨x, rfl, h⟩ (up_fr C p)
theorem ge_numv {σ : L2.St} {i : Nat} {v : V} {p : Rat} (hs : σ[i]? = some (some v)) (h : NumV C H v p) : Ge (tVar i) σ H (Nm C p) := ge_varP hs h (up_nm C p)
/-! ### as_frac -/
def spAs (C : Addr) : Sp := fun vs H Q _ => ∃ v r, vs = [v] ∧ NumV C H v r ∧ Ret C H Q r
theorem ge_as {σ : L2.St} {te : TE} {r : Rat} {E : L2.St → XK} (h : Ge te σ H (Nm C r)) : Ge (tCallS (spAs C) E (tCons te tNil)) σ H (Fr C r) :=
  ge_call (ga1 h (up_nm C r)) fun vs H1 s ⟨v, e, n⟩ Q q => ⟨v, r, e, n, ret_of q⟩
theorem d_as (T : FrTxt K mg C Z) (F : GFun K mg "as_frac" s_as_frac ["number"]) (D : CDef P w K mg base 1 "Frac" C (spInit C Z) [.int 1]) : Def P w K mg base 3 "as_frac" ["number"] (spAs C) := by
  refine F.ok c_as_frac (fun vs H Q E h => ?_) (fun f cdv A outer s H vs Q E hr h => ?_)
  · obtain ⟨v, r, rfl, _⟩ := h
    rfl
  · obtain ⟨v, r, rfl, hv, k⟩ := h
    refine ⟨_, pss_cons (ps_if (pt_val (pe_callB call_isi (by rfl) T.isi (by decide +kernel) (pa_cons (pv 0) (pa_cons (pe_bltn (v := .ty "int") rfl T.int (by decide +kernel) rfl) pa_nil))))
        (pss_one (ps_ret (pe_makeD D hr (takes_of rfl rfl rfl rfl) (pa_cons (pv 0) pa_nil)))) pss_nil)
      (pss_one (ps_ret (pv 0))), ?_⟩
    refine sq (s_if (gt_b (ge_isiI T rfl hv)) (fun b H1 s1 => ?_) (fun b H1 s1 => ?_))
    · rcases hv with ⟨n, rfl, rfl⟩ | ⟨p, rfl, f⟩
      · exact s_ret (ge_mk1 (ge_var rfl)) fun v H2 s2 ⟨p, e, f⟩ => by subst e; exact k p H2 (s1.trans s2) f
      · cases b
    · rcases hv with ⟨n, rfl, rfl⟩ | ⟨p, rfl, f⟩
      · cases b
      · exact s_next (s_ret (ge_self rfl (f.mono s1)) fun v H2 s2 ⟨p, e, f⟩ => by subst e; exact k p H2 (s1.trans s2) f)
/-! ### what raises -/
/-- from every later heap the expression raises as is wished -/
def Rz (te : TE) (σ : L2.St) (H : Hp) : Prop := ∀ H1, Same H H1 → ∀ Q : VK, te σ H1 Q
section
variable {σ : L2.St} {ta tb te : TE} {PA : VP} {D : Ends} {i : Nat}
theorem rz_two {r : R2} (ha : Ge ta σ H PA) (hb : Rz tb σ H) : Rz (tOp r ta tb) σ H := fun H1 s Q => ha H1 s _ fun x H2 s2 _ => hb H2 (s.trans s2) _
theorem rz_twoS {r : R2S} (ha : Ge ta σ H PA) (hb : Rz tb σ H) : Rz (tOpS r ta tb) σ H := fun H1 s Q => ha H1 s _ fun x H2 s2 _ => hb H2 (s.trans s2) _
theorem rz_fst {r : R2S} (ha : Rz ta σ H) : Rz (tOpS r ta tb) σ H := fun H1 s Q => ha H1 s _
theorem s_retZ (h : Rz te σ H) : tRet te D σ H := h H (Same.refl _) _
theorem s_setZ (h : Rz te σ H) : tAsg te (gName i) D σ H := h H (Same.refl _) _
end
/-- what DivisionByZero's coming out asks -/
abbrev ZE (Z : Addr) (H : Hp) (E : XK) : Prop := ∀ H', Same H H' → E (.ref Z) none H'
theorem ZE.mono {H' : Hp} (h : ZE Z H E) (s : Same H H') : ZE Z H' E := fun H2 s2 => h H2 (s.trans s2)
/-! ### own operators in readings -/
structure OpT (K : PySem.W.Frag) (C : Addr) (nm : String) : Prop where
  hr : ∃ rc, PySem.W.findIn K (.ref C) (dunderR nm) = some rc ∧ (rc = none ∨ ∃ g : Addr, rc = some (.ref g))
  h1 : ∃ fo, PySem.W.findIn K (.type "int") (PySem.dunder nm) = some fo
  h2 : ∃ ro, PySem.W.findIn K (.type "int") (dunderR nm) = some ro
theorem opD {X : Cx} {op : Operator} {k : Nat} {ps : List Str} {sp : Sp} {W : WX} {nm : Str} (T : FrTxt X.K X.mg C Z) (O : OpT X.K C op.info.2) (D : MDef X.prog X.w X.K X.mg X.base k C nm ps sp) (hr : Room k X.A) (tk : Takes X W)
    (hnm : nm = PySem.dunder op.info.2 := by rfl) : OpS X (binaryOp op) (rOwn C sp (WE W)) := op_ownD hnm T.self O.hr O.h1 O.h2 T.subI T.subC D hr tk
theorem NumV.arg {v : V} {r : Rat} (h : NumV C H v r) : IsI C H v ∨ ∃ j, v = .int j := by
  rcases h with ⟨n, rfl, _⟩ | ⟨p, rfl, f⟩
  · exact .inr ⟨n, rfl⟩
  · exact .inl f.isI
theorem ge_own {sp : Sp} {E : L2.St → XK} {σ : L2.St} {ta tb : TE} {p q : Rat} {P : VP} (ha : Ge ta σ H (Fr C p)) (hb : Ge tb σ H (Nm C q))
    (h : ∀ x y H1, Same H H1 → FrAt C H1 x p → NumV C H1 y q → ∀ Q : VK, (∀ v H2, Same H1 H2 → P v H2 → Q v H2) → sp [.ref x, y] H1 Q (E σ)) : Ge (tOpS (rOwn C sp E) ta tb) σ H P :=
  ge_twoS ha hb (up_fr C p) fun x y H1 s ⟨a, e, f⟩ n Q k => by subst e; exact ⟨f.isI, n.arg, h a y H1 s f n Q k⟩
/-- x op y, x a Frac p, y a number q of moderate size -/
def spBin (C : Addr) (f : Rat → Rat → Rat) (b : Nat) : Sp := fun vs H Q _ => ∃ x y p q, vs = [.ref x, y] ∧ FrAt C H x p ∧ NumV C H y q ∧ Sm b p ∧ Sm b q ∧ Ret C H Q (f p q)
theorem ge_bin {f : Rat → Rat → Rat} {b : Nat} {E : L2.St → XK} {σ : L2.St} {ta tb : TE} {p q : Rat} (ha : Ge ta σ H (Fr C p)) (hb : Ge tb σ H (Nm C q)) (sp : Sm b p) (sq : Sm b q) : Ge (tOpS (rOwn C (spBin C f b) E) ta tb) σ H (Fr C (f p q)) :=
  ge_own ha hb fun x y H1 _ fx ny Q k => ⟨x, y, p, q, rfl, fx, ny, sp, sq, ret_of k⟩
theorem fr_nm {te : TE} {σ : L2.St} {r : Rat} (h : Ge te σ H (Fr C r)) : Ge te σ H (Nm C r) := h.imp fun v H1 _ ⟨p, e, f⟩ => by subst e; exact f.num
theorem is_nm {te : TE} {σ : L2.St} {n : Int} (h : Ge te σ H (Is (.int n))) : Ge te σ H (Nm C (n : Rat)) := h.imp fun v H1 _ e => by cases (show v = V.int n from e); exact NumV.int C H1 n
theorem wide {i j : Int} {a b : Nat} (hi : i.natAbs < 2 ^ a) (hj : j.natAbs < 2 ^ b) (h : a + b ≤ 1000000) (ha : 0 < a) (hb : 0 < b) : CMulW i j := wide_mul hi hj ha hb h
theorem lt8 {i : Int} {b : Nat} (h : i.natAbs < 2 ^ b) (k : b ≤ 8000) : i.natAbs < 2 ^ 8000 := Nat.lt_of_lt_of_le h (pow_le k)
theorem Sm.d {b : Nat} {r : Rat} (h : Sm b r) : ((r.den : Int)).natAbs < 2 ^ b := h.2
theorem ge_mul {σ : L2.St} {ta tb : TE} {m n : Int} {a b : Nat} (ha : Ge ta σ H (Is (.int m))) (hb : Ge tb σ H (Is (.int n))) (hm : m.natAbs < 2 ^ a) (hn : n.natAbs < 2 ^ b) (h : a + b ≤ 1000000) (h0 : 0 < a) (h1 : 0 < b) :
    Ge (tOp (rI CMulW fun i j => .int (i * j)) ta tb) σ H (Is (.int (m * n))) := ge_I ha hb (wide hm hn h h0 h1)
/-- return Frac(n, d) -/
theorem s_mk {E : L2.St → XK} {σ : L2.St} {ta tb : TE} {D : Ends} {n d : Int} (ha : Ge ta σ H (Is (.int n))) (hb : Ge tb σ H (Is (.int d))) (hs : d.natAbs < 2 ^ 8000) (hE : d = 0 → ZE Z H (E σ)) (hQ : d ≠ 0 → Ret C H D.rt (Rat.divInt n d)) :
    tRet (tMakeS C (spInit C Z) [] E (tCons ta (tCons tb tNil))) D σ H := ha H (Same.refl _) _ fun v H2 s2 e2 => hb H2 s2 _ fun w' H3 s3 e3 => by
  subst e2
  subst e3
  exact mk_read hs (fun z => (hE z).mono (s2.trans s3)) fun z => (hQ z).mono (s2.trans s3)
/-- a statement's end by a Frac -/
theorem ret_fr {r : Rat} {Q : VK} {H0 H1 : Hp} (k : Ret C H0 Q r) (s : Same H0 H1) : ∀ v H2, Same H1 H2 → Fr C r v H2 → Q v H2 := fun v H2 s2 ⟨p, e, f⟩ => by subst e; exact k p H2 (s.trans s2) f
end
end Bp

namespace Bp
open PySem.Spec PySem PyProof.Rows
open L2 hiding St
section
variable {P : Program} {w : World} {K : PySem.W.Frag} {mg : Str → Option Value} {base : Heap} {C Z : Addr} {H : Hp} {Q : VK} {E : XK}
abbrev cI (P : Program) (w : World) (K : PySem.W.Frag) (mg : Str → Option Value) (base : Heap) (C Z : Addr) (dvs : List V) : Prop := CDef P w K mg base 1 "Frac" C (spInit C Z) dvs
abbrev dA (P : Program) (w : World) (K : PySem.W.Frag) (mg : Str → Option Value) (base : Heap) (C : Addr) : Prop := Def P w K mg base 3 "as_frac" ["number"] (spAs C)

/-! ### over, and the operators of two numbers -/
def spDiv (C Z : Addr) (b : Nat) : Sp := fun vs H Q E => ∃ x y p q, vs = [.ref x, y] ∧ FrAt C H x p ∧ NumV C H y q ∧ Sm b p ∧ Sm b q ∧ (q = 0 → ZE Z H E) ∧ (q ≠ 0 → Ret C H Q (p / q))
theorem d_over (T : FrTxt K mg C Z) (F : MFun K C "over" "Frac.over" s_Frac_over ["self", "other"]) (D : cI P w K mg base C Z []) (DA : dA P w K mg base C) : MDef P w K mg base 4 C "over" ["self", "other"] (spDiv C Z 3000) := by
  refine F.ok c_Frac_over (fun vs H Q E h => ?_) (fun f cdv A outer s H vs Q E hr h => ?_)
  · obtain ⟨x, y, p, q, rfl, _⟩ := h
    rfl
  · obtain ⟨x, y, p, q, rfl, hx, hy, sp, sq', kE, kQ⟩ := h
    refine ⟨_, pss_cons (ps_set (i := 2) c_Frac_over.nd rfl (.inl rfl) (pe_callD DA hr (takes_of rfl rfl rfl rfl) (pa_cons (pv 1) pa_nil)))
      (pss_one (ps_ret (pe_makeD D (hr.mono (by decide)) (takes_of rfl rfl rfl rfl) (pa_cons (pe_op op_mulW (pe_fld (pv 0) rfl) (pe_fld (pv 2) rfl)) (pa_cons (pe_op op_mulW (pe_fld (pv 0) rfl) (pe_fld (pv 2) rfl)) pa_nil))))), ?_⟩
    refine sq (s_set (ge_as (ge_numv rfl hy)) fun z H1 s1 ⟨pz, e, fz⟩ => ?_)
    subst e
    have g0 : Ge (tVar 0) [some (.ref x), some y, some (.ref pz)] H1 (Fr C p) := ge_self rfl (hx.mono s1)
    have g2 : Ge (tVar 2) [some (.ref x), some y, some (.ref pz)] H1 (Fr C q) := ge_self rfl fz
    refine s_mk (ge_mul (ge_num T g0) (ge_den T g2) sp.1 sq'.d (by decide) (by decide) (by decide)) (ge_mul (ge_den T g0) (ge_num T g2) sp.d sq'.1 (by decide) (by decide) (by decide)) (lt8 (imul_lt sp.d sq'.1) (by decide)) (fun z => ?_) (fun z => ?_)
    · refine (kE (num_zero.mp ?_)).mono s1
      exact (Int.mul_eq_zero.mp z).resolve_left (den_ne p)
    · rw [over_is]
      exact (kQ fun e => z (by rw [num_zero.mpr e, Int.mul_zero])).mono s1

theorem d_add (T : FrTxt K mg C Z) (F : MFun K C "__add__" "Frac.__add__" s_Frac_add ["self", "other"]) (D : cI P w K mg base C Z []) (DA : dA P w K mg base C) : MDef P w K mg base 4 C "__add__" ["self", "other"] (spBin C (fun p q => p + q) 3000) := by
  refine F.ok c_Frac_add (fun vs H Q E h => ?_) (fun f cdv A outer s H vs Q E hr h => ?_)
  · obtain ⟨x, y, p, q, rfl, _⟩ := h
    rfl
  · obtain ⟨x, y, p, q, rfl, hx, hy, sp, sq', kQ⟩ := h
    refine ⟨_, pss_cons (ps_guard T rfl (.inl rfl) rfl rfl rfl) (pss_cons (ps_set (i := 2) c_Frac_add.nd rfl (.inl rfl) (pe_callD DA hr (takes_of rfl rfl rfl rfl) (pa_cons (pv 1) pa_nil)))
      (pss_one (ps_ret (pe_makeD D (hr.mono (by decide)) (takes_of rfl rfl rfl rfl) (pa_cons (pe_op op_add (pe_op op_mulW (pe_fld (pv 0) rfl) (pe_fld (pv 2) rfl)) (pe_op op_mulW (pe_fld (pv 2) rfl) (pe_fld (pv 0) rfl))) (pa_cons (pe_op op_mulW (pe_fld (pv 0) rfl) (pe_fld (pv 2) rfl)) pa_nil)))))), ?_⟩
    refine sq (s_guard T rfl hy fun H0 s0 => sq (s_set (ge_as (ge_numv rfl (hy.mono s0))) fun z H1 s1 ⟨pz, e, fz⟩ => ?_))
    subst e
    have s2 := s0.trans s1
    have g0 : Ge (tVar 0) [some (.ref x), some y, some (.ref pz)] H1 (Fr C p) := ge_self rfl (hx.mono s2)
    have g2 : Ge (tVar 2) [some (.ref x), some y, some (.ref pz)] H1 (Fr C q) := ge_self rfl fz
    refine s_mk (ge_add (ge_mul (ge_num T g0) (ge_den T g2) sp.1 sq'.d (by decide) (by decide) (by decide)) (ge_mul (ge_num T g2) (ge_den T g0) sq'.1 sp.d (by decide) (by decide) (by decide))) (ge_mul (ge_den T g0) (ge_den T g2) sp.d sq'.d (by decide) (by decide) (by decide)) (lt8 (imul_lt sp.d sq'.d) (by decide)) (fun z => absurd z (Int.mul_ne_zero (den_ne p) (den_ne q))) (fun z => ?_)
    show Ret C H1 Q _
    rw [add_is]
    exact kQ.mono s2

theorem d_sub (T : FrTxt K mg C Z) (F : MFun K C "__sub__" "Frac.__sub__" s_Frac_sub ["self", "other"]) (D : cI P w K mg base C Z []) (DA : dA P w K mg base C) : MDef P w K mg base 4 C "__sub__" ["self", "other"] (spBin C (fun p q => p - q) 3000) := by
  refine F.ok c_Frac_sub (fun vs H Q E h => ?_) (fun f cdv A outer s H vs Q E hr h => ?_)
  · obtain ⟨x, y, p, q, rfl, _⟩ := h
    rfl
  · obtain ⟨x, y, p, q, rfl, hx, hy, sp, sq', kQ⟩ := h
    refine ⟨_, pss_cons (ps_guard T rfl (.inl rfl) rfl rfl rfl) (pss_cons (ps_set (i := 2) c_Frac_sub.nd rfl (.inl rfl) (pe_callD DA hr (takes_of rfl rfl rfl rfl) (pa_cons (pv 1) pa_nil)))
      (pss_one (ps_ret (pe_makeD D (hr.mono (by decide)) (takes_of rfl rfl rfl rfl) (pa_cons (pe_op op_sub (pe_op op_mulW (pe_fld (pv 0) rfl) (pe_fld (pv 2) rfl)) (pe_op op_mulW (pe_fld (pv 2) rfl) (pe_fld (pv 0) rfl))) (pa_cons (pe_op op_mulW (pe_fld (pv 0) rfl) (pe_fld (pv 2) rfl)) pa_nil)))))), ?_⟩
    refine sq (s_guard T rfl hy fun H0 s0 => sq (s_set (ge_as (ge_numv rfl (hy.mono s0))) fun z H1 s1 ⟨pz, e, fz⟩ => ?_))
    subst e
    have s2 := s0.trans s1
    have g0 : Ge (tVar 0) [some (.ref x), some y, some (.ref pz)] H1 (Fr C p) := ge_self rfl (hx.mono s2)
    have g2 : Ge (tVar 2) [some (.ref x), some y, some (.ref pz)] H1 (Fr C q) := ge_self rfl fz
    refine s_mk (ge_sub (ge_mul (ge_num T g0) (ge_den T g2) sp.1 sq'.d (by decide) (by decide) (by decide)) (ge_mul (ge_num T g2) (ge_den T g0) sq'.1 sp.d (by decide) (by decide) (by decide))) (ge_mul (ge_den T g0) (ge_den T g2) sp.d sq'.d (by decide) (by decide) (by decide)) (lt8 (imul_lt sp.d sq'.d) (by decide)) (fun z => absurd z (Int.mul_ne_zero (den_ne p) (den_ne q))) (fun z => ?_)
    show Ret C H1 Q _
    rw [sub_is]
    exact kQ.mono s2

theorem d_mul (T : FrTxt K mg C Z) (F : MFun K C "__mul__" "Frac.__mul__" s_Frac_mul ["self", "other"]) (D : cI P w K mg base C Z []) (DA : dA P w K mg base C) : MDef P w K mg base 4 C "__mul__" ["self", "other"] (spBin C (fun p q => p * q) 3000) := by
  refine F.ok c_Frac_mul (fun vs H Q E h => ?_) (fun f cdv A outer s H vs Q E hr h => ?_)
  · obtain ⟨x, y, p, q, rfl, _⟩ := h
    rfl
  · obtain ⟨x, y, p, q, rfl, hx, hy, sp, sq', kQ⟩ := h
    refine ⟨_, pss_cons (ps_guard T rfl (.inl rfl) rfl rfl rfl) (pss_cons (ps_set (i := 2) c_Frac_mul.nd rfl (.inl rfl) (pe_callD DA hr (takes_of rfl rfl rfl rfl) (pa_cons (pv 1) pa_nil)))
      (pss_one (ps_ret (pe_makeD D (hr.mono (by decide)) (takes_of rfl rfl rfl rfl) (pa_cons (pe_op op_mulW (pe_fld (pv 0) rfl) (pe_fld (pv 2) rfl)) (pa_cons (pe_op op_mulW (pe_fld (pv 0) rfl) (pe_fld (pv 2) rfl)) pa_nil)))))), ?_⟩
    refine sq (s_guard T rfl hy fun H0 s0 => sq (s_set (ge_as (ge_numv rfl (hy.mono s0))) fun z H1 s1 ⟨pz, e, fz⟩ => ?_))
    subst e
    have s2 := s0.trans s1
    have g0 : Ge (tVar 0) [some (.ref x), some y, some (.ref pz)] H1 (Fr C p) := ge_self rfl (hx.mono s2)
    have g2 : Ge (tVar 2) [some (.ref x), some y, some (.ref pz)] H1 (Fr C q) := ge_self rfl fz
    refine s_mk (ge_mul (ge_num T g0) (ge_num T g2) sp.1 sq'.1 (by decide) (by decide) (by decide)) (ge_mul (ge_den T g0) (ge_den T g2) sp.d sq'.d (by decide) (by decide) (by decide)) (lt8 (imul_lt sp.d sq'.d) (by decide)) (fun z => absurd z (Int.mul_ne_zero (den_ne p) (den_ne q))) (fun z => ?_)
    show Ret C H1 Q _
    rw [mul_is]
    exact kQ.mono s2

def spUn (C : Addr) (f : Rat → Rat) (b : Nat) : Sp := fun vs H Q _ => ∃ x p, vs = [.ref x] ∧ FrAt C H x p ∧ Sm b p ∧ Ret C H Q (f p)

theorem d_neg (T : FrTxt K mg C Z) (F : MFun K C "__neg__" "Frac.__neg__" s_Frac_neg ["self"]) (D : cI P w K mg base C Z []) : MDef P w K mg base 3 C "__neg__" ["self"] (spUn C (fun p => -p) 3000) := by
  refine F.ok c_Frac_neg (fun vs H Q E h => ?_) (fun f cdv A outer s H vs Q E hr h => ?_)
  · obtain ⟨x, p, rfl, _⟩ := h
    rfl
  · obtain ⟨x, p, rfl, hx, sp, kQ⟩ := h
    refine ⟨_, pss_one (ps_ret (pe_makeD D (hr.mono (by decide)) (takes_of rfl rfl rfl rfl) (pa_cons (pe_un un_neg (pe_fld (pv 0) rfl)) (pa_cons (pe_fld (pv 0) rfl) pa_nil)))), ?_⟩
    have g0 : Ge (tVar 0) [some (.ref x)] H (Fr C p) := ge_self rfl hx
    refine s_mk (ge_un (ge_num T g0)) (ge_den T g0) (lt8 sp.d (by decide)) (fun z => absurd z (den_ne p)) (fun z => ?_)
    show Ret C H Q _
    rw [neg_is]
    exact kQ

theorem d_abs (T : FrTxt K mg C Z) (F : MFun K C "__abs__" "Frac.__abs__" s_Frac_abs ["self"]) (D : cI P w K mg base C Z []) (hab : mg "abs" = none) : MDef P w K mg base 3 C "__abs__" ["self"] (spUn C (fun p => Rat.divInt (if p.num < 0 then -p.num else p.num) p.den) 3000) := by
  refine F.ok c_Frac_abs (fun vs H Q E h => ?_) (fun f cdv A outer s H vs Q E hr h => ?_)
  · obtain ⟨x, p, rfl, _⟩ := h
    rfl
  · obtain ⟨x, p, rfl, hx, sp, kQ⟩ := h
    refine ⟨_, pss_one (ps_ret (pe_makeD D (hr.mono (by decide)) (takes_of rfl rfl rfl rfl) (pa_cons (pe_callB call_abs (by rfl) hab (by decide +kernel) (pa_cons (pe_fld (pv 0) rfl) pa_nil)) (pa_cons (pe_fld (pv 0) rfl) pa_nil)))), ?_⟩
    have g0 : Ge (tVar 0) [some (.ref x)] H (Fr C p) := ge_self rfl hx
    refine s_mk (ge_callB (ga1 (ge_num T g0) (Up.is _)) fun vs H1 _ ⟨v, e, e2⟩ Q q => ⟨p.num, by rw [e, e2], q _ H1 (Same.refl _) rfl⟩) (ge_den T g0) (lt8 sp.d (by decide)) (fun z => absurd z (den_ne p)) (fun z => ?_)
    show Ret C H Q _
    skip
    exact kQ

theorem d_radd (T : FrTxt K mg C Z) (F : MFun K C "__radd__" "Frac.__radd__" s_Frac_radd ["self", "other"]) (Oadd : OpT K C "add") (Dadd : MDef P w K mg base 4 C "__add__" ["self", "other"] (spBin C (fun p q => p + q) 3000)) : MDef P w K mg base 5 C "__radd__" ["self", "other"] (spBin C (fun p q => p + q) 3000) := by
  refine F.ok c_Frac_radd (fun vs H Q E h => ?_) (fun f cdv A outer s H vs Q E hr h => ?_)
  · obtain ⟨x, y, p, q, rfl, _⟩ := h
    rfl
  · obtain ⟨x, y, p, q, rfl, hx, hy, sp, sq', kQ⟩ := h
    refine ⟨_, pss_one (ps_ret (pe_opS (opD T Oadd Dadd hr (takes_of rfl rfl rfl rfl)) (pv 0) (pv 1))), ?_⟩
    have g0 : Ge (tVar 0) [some (.ref x), some y] H (Fr C p) := ge_self rfl hx
    have g1 : Ge (tVar 1) [some (.ref x), some y] H (Nm C q) := ge_numv rfl hy
    exact s_ret (ge_bin g0 g1 sp sq') (ret_fr kQ (Same.refl _))

theorem d_rmul (T : FrTxt K mg C Z) (F : MFun K C "__rmul__" "Frac.__rmul__" s_Frac_rmul ["self", "other"]) (Omul : OpT K C "mul") (Dmul : MDef P w K mg base 4 C "__mul__" ["self", "other"] (spBin C (fun p q => p * q) 3000)) : MDef P w K mg base 5 C "__rmul__" ["self", "other"] (spBin C (fun p q => p * q) 3000) := by
  refine F.ok c_Frac_rmul (fun vs H Q E h => ?_) (fun f cdv A outer s H vs Q E hr h => ?_)
  · obtain ⟨x, y, p, q, rfl, _⟩ := h
    rfl
  · obtain ⟨x, y, p, q, rfl, hx, hy, sp, sq', kQ⟩ := h
    refine ⟨_, pss_one (ps_ret (pe_opS (opD T Omul Dmul hr (takes_of rfl rfl rfl rfl)) (pv 0) (pv 1))), ?_⟩
    have g0 : Ge (tVar 0) [some (.ref x), some y] H (Fr C p) := ge_self rfl hx
    have g1 : Ge (tVar 1) [some (.ref x), some y] H (Nm C q) := ge_numv rfl hy
    exact s_ret (ge_bin g0 g1 sp sq') (ret_fr kQ (Same.refl _))

/-- -x of a Frac, in a reading -/
theorem ge_neg {σ : L2.St} {te : TE} {p : Rat} {E : XK} {b : Nat} (h : Ge te σ H (Fr C p)) (sp : Sm b p) : Ge (tUn (rUnO C (spUn C (fun p => -p) b) E) te) σ H (Fr C (-p)) :=
  ge_unP h fun x H1 _ ⟨a, e, f⟩ Q q => by subst e; exact ⟨f.isI, a, p, rfl, f, sp, ret_of q⟩
theorem un_negD {X : Cx} {k : Nat} {ps : List Str} {sp : Sp} (D : MDef X.prog X.w X.K X.mg X.base k C "__neg__" ps sp) (hr : Room k X.A) {E : XK} (tk : Takes X (fun cls d _ H => E cls d H)) : UnR X (unaryOp .USub) (rUnO C sp E) := by
  obtain ⟨f, fd, hm, b, F⟩ := D.ex
  exact un_own hm.at_ hm.fn F hr b fun σ => passAt tk σ

theorem d_rsub (T : FrTxt K mg C Z) (F : MFun K C "__rsub__" "Frac.__rsub__" s_Frac_rsub ["self", "other"]) (Oadd : OpT K C "add") (Dadd : MDef P w K mg base 4 C "__add__" ["self", "other"] (spBin C (fun p q => p + q) 3000)) (Dneg : MDef P w K mg base 3 C "__neg__" ["self"] (spUn C (fun p => -p) 3000)) : MDef P w K mg base 5 C "__rsub__" ["self", "other"] (spBin C (fun p q => -p + q) 3000) := by
  refine F.ok c_Frac_rsub (fun vs H Q E h => ?_) (fun f cdv A outer s H vs Q E hr h => ?_)
  · obtain ⟨x, y, p, q, rfl, _⟩ := h
    rfl
  · obtain ⟨x, y, p, q, rfl, hx, hy, sp, sq', kQ⟩ := h
    refine ⟨_, pss_one (ps_ret (pe_opS (opD T Oadd Dadd hr (takes_of rfl rfl rfl rfl)) (pe_un (un_negD Dneg (hr.mono (by decide)) (takes_of rfl rfl rfl rfl)) (pv 0)) (pv 1))), ?_⟩
    have g0 : Ge (tVar 0) [some (.ref x), some y] H (Fr C p) := ge_self rfl hx
    have g1 : Ge (tVar 1) [some (.ref x), some y] H (Nm C q) := ge_numv rfl hy
    exact s_ret (ge_bin (ge_neg g0 sp) g1 sp.neg sq') (ret_fr kQ (Same.refl _))

def spVal (C : Addr) (f : Rat → V) (b : Nat) : Sp := fun vs H Q _ => ∃ x p, vs = [.ref x] ∧ FrAt C H x p ∧ Sm b p ∧ ∀ H', Same H H' → Q (f p) H'
theorem wdiv {b : Nat} {p : Rat} (h : Sm b p) (hb : b ≤ 9000) (h0 : 0 < b) (i : Int) : CDivW i (p.den : Int) := wide_div (den_pos' p) h.d h0 hb

theorem d_floor (T : FrTxt K mg C Z) (F : MFun K C "floor" "Frac.floor" s_Frac_floor ["self"]) : MDef P w K mg base 1 C "floor" ["self"] (spVal C (fun p => .int (p.num / (p.den : Int))) 8000) := by
  refine F.ok c_Frac_floor (fun vs H Q E h => ?_) (fun f cdv A outer s H vs Q E hr h => ?_)
  · obtain ⟨x, p, rfl, _⟩ := h
    rfl
  · obtain ⟨x, p, rfl, hx, sp, kQ⟩ := h
    refine ⟨_, pss_one (ps_ret (pe_op op_fdivW (pe_fld (pv 0) rfl) (pe_fld (pv 0) rfl))), ?_⟩
    have g0 : Ge (tVar 0) [some (.ref x)] H (Fr C p) := ge_self rfl hx
    exact s_ret (ge_I (ge_num T g0) (ge_den T g0) (wdiv sp (by decide) (by decide) _)) fun v H1 s1 e => by rw [e]; exact kQ H1 s1

theorem d_ceiling (T : FrTxt K mg C Z) (F : MFun K C "ceiling" "Frac.ceiling" s_Frac_ceiling ["self"]) : MDef P w K mg base 1 C "ceiling" ["self"] (spVal C (fun p => .int (-(-p.num / (p.den : Int)))) 8000) := by
  refine F.ok c_Frac_ceiling (fun vs H Q E h => ?_) (fun f cdv A outer s H vs Q E hr h => ?_)
  · obtain ⟨x, p, rfl, _⟩ := h
    rfl
  · obtain ⟨x, p, rfl, hx, sp, kQ⟩ := h
    refine ⟨_, pss_one (ps_ret (pe_un un_neg (pe_op op_fdivW (pe_un un_neg (pe_fld (pv 0) rfl)) (pe_fld (pv 0) rfl)))), ?_⟩
    have g0 : Ge (tVar 0) [some (.ref x)] H (Fr C p) := ge_self rfl hx
    exact s_ret (ge_un (ge_I (ge_un (ge_num T g0)) (ge_den T g0) (wdiv sp (by decide) (by decide) _))) fun v H1 s1 e => by rw [e]; exact kQ H1 s1

theorem d_bool (T : FrTxt K mg C Z) (F : MFun K C "__bool__" "Frac.__bool__" s_Frac_bool ["self"]) (hbo : mg "bool" = none) : MDef P w K mg base 1 C "__bool__" ["self"] (spVal C (fun p => .bl (p.num != 0)) 8000) := by
  refine F.ok c_Frac_bool (fun vs H Q E h => ?_) (fun f cdv A outer s H vs Q E hr h => ?_)
  · obtain ⟨x, p, rfl, _⟩ := h
    rfl
  · obtain ⟨x, p, rfl, hx, sp, kQ⟩ := h
    refine ⟨_, pss_one (ps_ret (pe_callTy call_bool1 (by rfl) hbo (by decide +kernel) (pa_cons (pe_fld (pv 0) rfl) pa_nil))), ?_⟩
    have g0 : Ge (tVar 0) [some (.ref x)] H (Fr C p) := ge_self rfl hx
    exact s_ret (ge_callB (P := Is (.bl (p.num != 0))) (ga1 (ge_num T g0) (Up.is _)) fun vs H1 _ ⟨v, e, e2⟩ Q q => .inl ⟨p.num, by rw [e, e2], q _ H1 (Same.refl _) rfl⟩) fun v H1 s1 e => by rw [e]; exact kQ H1 s1

end
end Bp

namespace Bp
open PySem.Spec PySem PyProof.Rows
open L2 hiding St
section
variable {P : Program} {w : World} {K : PySem.W.Frag} {mg : Str → Option Value} {base : Heap} {C Z : Addr} {H : Hp} {Q : VK} {E : XK}
/-! ### sizes -/
theorem sm_mul {a b : Nat} {p q : Rat} (hp : Sm a p) (hq : Sm b q) : Sm (a + b) (p * q) := by
  rw [← mul_is]
  exact sm_divInt (Int.mul_ne_zero (den_ne p) (den_ne q)) (imul_lt hp.1 hq.1) (imul_lt hp.d hq.d)
theorem sm_div {a b : Nat} {p q : Rat} (hp : Sm a p) (hq : Sm b q) (h : q ≠ 0) : Sm (a + b) (p / q) := by
  rw [← over_is]
  exact sm_divInt (Int.mul_ne_zero (den_ne p) fun z => h (num_zero.mp z)) (imul_lt hp.1 hq.d) (imul_lt hp.d hq.1)
theorem sm_add {a b : Nat} {p q : Rat} (hp : Sm a p) (hq : Sm b q) : Sm (a + b + (b + a) + 1) (p + q) := by
  rw [← add_is]
  exact sm_divInt (Int.mul_ne_zero (den_ne p) (den_ne q)) (iadd_lt (imul_lt hp.1 hq.d) (imul_lt hq.1 hp.d)) (Nat.lt_of_lt_of_le (imul_lt hp.d hq.d) (pow_le (by omega)))
theorem sm_sub {a b : Nat} {p q : Rat} (hp : Sm a p) (hq : Sm b q) : Sm (a + b + (b + a) + 1) (p - q) := by
  rw [Rat.sub_eq_add_neg]
  exact sm_add hp hq.neg
/-! ### methods in readings -/
theorem ge_meth {m : Str} {sp : Sp} {E : L2.St → XK} {σ : L2.St} {ta : TE} {t : TA} {p : Rat} {P : VP} {PL : List V → Hp → Prop} (h1 : ¬ m = "num") (h2 : ¬ m = "den") (ha : Ge ta σ H (Fr C p)) (ht : GeA t σ H PL)
    (h : ∀ a vs H1, Same H H1 → FrAt C H1 a p → PL vs H1 → ∀ Q : VK, (∀ v H2, Same H1 H2 → P v H2 → Q v H2) → sp (.ref a :: vs) H1 Q (E σ)) : Ge (tMethS C m sp E ta t) σ H P := fun H1 s Q q =>
  ha H1 s _ fun x H2 s2 ⟨a, e, dx, f⟩ => ⟨a, dx, _, e, f, fl_no p h1 h2, ht H2 (s.trans s2) _ fun vs H3 s3 pl => by
    subst e
    exact h a vs H3 ((s.trans s2).trans s3) ⟨dx, s3 _ _ f⟩ pl Q fun v H4 s4 pv => q v H4 ((s2.trans s3).trans s4) pv⟩
theorem rz_methR {m : Str} {sp : Sp} {E : L2.St → XK} {σ : L2.St} {ta : TE} {t : TA} (ha : Rz ta σ H) : Rz (tMethS C m sp E ta t) σ H := fun H1 s Q => ha H1 s _
theorem rz_meth {m : Str} {sp : Sp} {E : L2.St → XK} {σ : L2.St} {ta : TE} {t : TA} {p : Rat} {PL : List V → Hp → Prop} (h1 : ¬ m = "num") (h2 : ¬ m = "den") (ha : Ge ta σ H (Fr C p)) (ht : GeA t σ H PL)
    (h : ∀ a vs H1, Same H H1 → FrAt C H1 a p → PL vs H1 → ∀ Q : VK, sp (.ref a :: vs) H1 Q (E σ)) : Rz (tMethS C m sp E ta t) σ H := fun H1 s Q =>
  ha H1 s _ fun x H2 s2 ⟨a, e, dx, f⟩ => ⟨a, dx, _, e, f, fl_no p h1 h2, ht H2 (s.trans s2) _ fun vs H3 s3 pl => by
    subst e
    exact h a vs H3 ((s.trans s2).trans s3) ⟨dx, s3 _ _ f⟩ pl Q⟩
theorem ga_nil' {σ : L2.St} : GeA tNil σ H (fun vs _ => vs = []) := ga_nil
theorem nm1 : ¬ (("floor" : Str) = "num") := by decide +kernel
theorem nm2 : ¬ (("floor" : Str) = "den") := by decide +kernel
theorem nm3 : ¬ (("over" : Str) = "num") := by decide +kernel
theorem nm4 : ¬ (("over" : Str) = "den") := by decide +kernel
theorem nm5 : ¬ (("ceiling" : Str) = "num") := by decide +kernel
theorem nm6 : ¬ (("ceiling" : Str) = "den") := by decide +kernel
theorem ge_val {m : Str} {f : Rat → V} {b : Nat} {E : L2.St → XK} {σ : L2.St} {te : TE} {p : Rat} (h1 : ¬ m = "num") (h2 : ¬ m = "den") (h : Ge te σ H (Fr C p)) (sp : Sm b p) : Ge (tMethS C m (spVal C f b) E te tNil) σ H (Is (f p)) :=
  ge_meth h1 h2 h ga_nil fun a vs H1 _ fa e Q q => by subst e; exact ⟨a, p, rfl, fa, sp, fun H' s => q _ H' s rfl⟩
theorem ge_div {b : Nat} {E : L2.St → XK} {σ : L2.St} {te tb : TE} {p q : Rat} (h : Ge te σ H (Fr C p)) (hb : Ge tb σ H (Nm C q)) (sp : Sm b p) (sq : Sm b q) (h0 : q ≠ 0) : Ge (tMethS C "over" (spDiv C Z b) E te (tCons tb tNil)) σ H (Fr C (p / q)) :=
  ge_meth nm3 nm4 h (ga1 hb (up_nm C q)) fun a vs H1 _ fa ⟨v, e, nv⟩ Q k => by subst e; exact ⟨a, v, p, q, rfl, fa, nv, sp, sq, fun z => absurd z h0, fun _ => ret_of k⟩
theorem rz_div {b : Nat} {E : L2.St → XK} {σ : L2.St} {te tb : TE} {p q : Rat} (h : Ge te σ H (Fr C p)) (hb : Ge tb σ H (Nm C q)) (sp : Sm b p) (sq : Sm b q) (h0 : q = 0) (k : ZE Z H (E σ)) : Rz (tMethS C "over" (spDiv C Z b) E te (tCons tb tNil)) σ H :=
  rz_meth nm3 nm4 h (ga1 hb (up_nm C q)) fun a vs H1 s fa ⟨v, e, nv⟩ Q => by subst e; exact ⟨a, v, p, q, rfl, fa, nv, sp, sq, fun _ => k.mono s, fun z => absurd h0 z⟩
/-! ### //, % -/
/-- the int that // gives -/
def fdv (p q : Rat) : Int := (p / q).num / ((p / q).den : Int)
theorem fdv_floor (p q : Rat) : fdv p q = (p / q).floor := floor_is _
theorem fdv_lt {a b : Nat} {p q : Rat} (hp : Sm a p) (hq : Sm b q) (h : q ≠ 0) : (fdv p q).natAbs < 2 ^ (a + b + 1) := by
  rw [fdv_floor]
  exact sm_floor (sm_div hp hq h)
def spFd (C Z : Addr) (b : Nat) : Sp := fun vs H Q E => ∃ x y p q, vs = [.ref x, y] ∧ FrAt C H x p ∧ NumV C H y q ∧ Sm b p ∧ Sm b q ∧ (q = 0 → ZE Z H E) ∧ (q ≠ 0 → ∀ H', Same H H' → Q (.int (fdv p q)) H')
theorem ge_fd {b : Nat} {E : L2.St → XK} {σ : L2.St} {te tb : TE} {p q : Rat} (h : Ge te σ H (Fr C p)) (hb : Ge tb σ H (Nm C q)) (sp : Sm b p) (sq : Sm b q) (h0 : q ≠ 0) : Ge (tOpS (rOwn C (spFd C Z b) E) te tb) σ H (Is (.int (fdv p q))) :=
  ge_own h hb fun x y H1 _ fx ny Q k => ⟨x, y, p, q, rfl, fx, ny, sp, sq, fun z => absurd z h0, fun _ H' s => k _ H' s rfl⟩
theorem rz_own {sp : Sp} {E : L2.St → XK} {σ : L2.St} {ta tb : TE} {p q : Rat} (ha : Ge ta σ H (Fr C p)) (hb : Ge tb σ H (Nm C q))
    (h : ∀ x y H1, Same H H1 → FrAt C H1 x p → NumV C H1 y q → ∀ Q : VK, sp [.ref x, y] H1 Q (E σ)) : Rz (tOpS (rOwn C sp E) ta tb) σ H := fun H1 s Q =>
  ha H1 s _ fun v H2 s2 ⟨x, e, fx⟩ => hb H2 (s.trans s2) _ fun y H3 s3 ny => by
    subst e
    exact ⟨(fx.mono s3).isI, ny.arg, h x y H3 ((s.trans s2).trans s3) (fx.mono s3) ny Q⟩
theorem rz_fd {b : Nat} {E : L2.St → XK} {σ : L2.St} {te tb : TE} {p q : Rat} (h : Ge te σ H (Fr C p)) (hb : Ge tb σ H (Nm C q)) (sp : Sm b p) (sq : Sm b q) (h0 : q = 0) (k : ZE Z H (E σ)) : Rz (tOpS (rOwn C (spFd C Z b) E) te tb) σ H :=
  rz_own h hb fun x y H1 s fx ny Q => ⟨x, y, p, q, rfl, fx, ny, sp, sq, fun _ => k.mono s, fun z => absurd h0 z⟩
theorem d_floordiv (T : FrTxt K mg C Z) (F : MFun K C "__floordiv__" "Frac.__floordiv__" s_Frac_floordiv ["self", "other"]) (DO : MDef P w K mg base 4 C "over" ["self", "other"] (spDiv C Z 3000))
    (DF : MDef P w K mg base 1 C "floor" ["self"] (spVal C (fun p => .int (p.num / (p.den : Int))) 8000)) : MDef P w K mg base 5 C "__floordiv__" ["self", "other"] (spFd C Z 3000) := by
  refine F.ok c_Frac_floordiv (fun vs H Q E h => ?_) (fun f cdv A outer s H vs Q E hr h => ?_)
  · obtain ⟨x, y, p, q, rfl, _⟩ := h
    rfl
  · obtain ⟨x, y, p, q, rfl, hx, hy, sp, sq', kE, kQ⟩ := h
    refine ⟨_, pss_cons (ps_guard T rfl (.inl rfl) rfl rfl rfl) (pss_one (ps_ret (pe_methD0 DF (hr.mono (by decide)) (takes_of rfl rfl rfl rfl) T.cl (pe_methD DO hr (takes_of rfl rfl rfl rfl) T.cl (pv 0) (pa_cons (pv 1) pa_nil))))), ?_⟩
    refine sq (s_guard T rfl hy fun H1 s1 => ?_)
    have g0 : Ge (tVar 0) [some (.ref x), some y] H1 (Fr C p) := ge_self rfl (hx.mono s1)
    have g1 : Ge (tVar 1) [some (.ref x), some y] H1 (Nm C q) := ge_numv rfl (hy.mono s1)
    by_cases h0 : q = 0
    · exact s_retZ (rz_methR (rz_div g0 g1 sp sq' h0 ((kE h0).mono s1)))
    · exact s_ret (ge_val nm1 nm2 (ge_div g0 g1 sp sq' h0) ((sm_div sp sq' h0).mono (by decide))) fun v H2 s2 e => by rw [e]; exact kQ h0 H2 (s1.trans s2)
/-- n // x, n an int -/
def spRfd (C Z : Addr) (b : Nat) : Sp := fun vs H Q E => ∃ x n p, vs = [.ref x, .int n] ∧ FrAt C H x p ∧ Sm b p ∧ Sm b (n : Rat) ∧ (p = 0 → ZE Z H E) ∧ (p ≠ 0 → ∀ H', Same H H' → Q (.int (fdv (n : Rat) p)) H')
abbrev tNotI (K : PySem.W.Frag) : TS := tIfS (tNot (tB (tCB (rIsi K) (tCons (tVar 1) (tCons (tC (.ty "int")) tNil))))) tNever tNext
theorem s_notI (T : FrTxt K mg C Z) {D : Ends} {σ : L2.St} {n : Int} (hs : σ[1]? = some (some (.int n))) (q : ∀ H', Same H H' → D.nx σ H') : tNotI K D σ H := s_no (gt_not (gt_b (ge_isiI T hs (NumV.int C H n)))) q

theorem d_rfloordiv (T : FrTxt K mg C Z) (F : MFun K C "__rfloordiv__" "Frac.__rfloordiv__" s_Frac_rfloordiv ["self", "other"]) (D1 : cI P w K mg base C Z [.int 1]) (O : OpT K C "floordiv") (DD : MDef P w K mg base 5 C "__floordiv__" ["self", "other"] (spFd C Z 3000)) :
    MDef P w K mg base 6 C "__rfloordiv__" ["self", "other"] (spRfd C Z 3000) := by
  refine F.ok c_Frac_rfloordiv (fun vs H Q E h => ?_) (fun f cdv A outer s H vs Q E hr h => ?_)
  · obtain ⟨x, n, p, rfl, _⟩ := h
    rfl
  · obtain ⟨x, n, p, rfl, hx, sp, sn, kE, kQ⟩ := h
    refine ⟨_, pss_cons (ps_if (pt_not (pt_val (pe_callB call_isi (by rfl) T.isi (by decide +kernel) (pa_cons (pv 1) (pa_cons (pe_bltn (v := .ty "int") rfl T.int (by decide +kernel) rfl) pa_nil))))) pss_never pss_nil) (pss_one (ps_ret (pe_opS (opD T O DD hr (takes_of rfl rfl rfl rfl)) (pe_makeD D1 (hr.mono (by decide)) (takes_of rfl rfl rfl rfl) (pa_cons (pv 1) pa_nil)) (pv 0)))), ?_⟩
    refine sq (s_notI T rfl fun H1 s1 => ?_)
    have g0 : Ge (tVar 0) [some (.ref x), some (.int n)] H1 (Fr C p) := ge_self rfl (hx.mono s1)
    by_cases h0 : p = 0
    · exact s_retZ (rz_fd (ge_mk1 (ge_var rfl)) (fr_nm g0) sn sp h0 ((kE h0).mono s1))
    · exact s_ret (ge_fd (ge_mk1 (ge_var rfl)) (fr_nm g0) sn sp h0) fun v H2 s2 e => by rw [e]; exact kQ h0 H2 (s1.trans s2)
/-- the rest of p by q -/
def rst (p q : Rat) : Rat := p - q * ((fdv p q : Int) : Rat)
def spMod (C Z : Addr) (b : Nat) : Sp := fun vs H Q E => ∃ x y p q, vs = [.ref x, y] ∧ FrAt C H x p ∧ NumV C H y q ∧ Sm b p ∧ Sm b q ∧ (q = 0 → ZE Z H E) ∧ (q ≠ 0 → Ret C H Q (rst p q))
abbrev rMix (C : Addr) (sp : Sp) (E : L2.St → XK) : R2S := fun σ x y H Q => rI CMulW (fun i j => .int (i * j)) x y H Q ∨ rOwn C sp E σ x y H Q
theorem ge_mix {b : Nat} {E : L2.St → XK} {σ : L2.St} {ta tb : TE} {q : Rat} {t : Int} (ha : Ge ta σ H (Nm C q)) (hb : Ge tb σ H (Is (.int t))) (sq : Sm b q) (st : t.natAbs < 2 ^ b) (b0 : 0 < b) (b1 : b ≤ 3000) :
    Ge (tOpS (rMix C (spBin C (fun p q => p * q) 3000) E) ta tb) σ H (Nm C (q * (t : Rat))) :=
  ge_twoS ha hb (up_nm C q) fun x y H1 s nx ey Q k => by
    subst ey
    rcases nx with ⟨n, rfl, rfl⟩ | ⟨a, rfl, f⟩
    · exact .inl ⟨n, t, rfl, rfl, wide sq.1 st (by omega) b0 b0, k _ H1 (Same.refl _) (by rw [← Rat.intCast_mul]; exact NumV.int C H1 _)⟩
    · exact .inr ⟨f.isI, .inr ⟨t, rfl⟩, a, _, q, (t : Rat), rfl, f, NumV.int C H1 t, sq.mono b1, (sm_int st b0).mono b1, ret_of fun v H2 s2 ⟨p, e, g⟩ => k v H2 s2 (by subst e; exact g.num)⟩
theorem d_mod (T : FrTxt K mg C Z) (F : MFun K C "__mod__" "Frac.__mod__" s_Frac_mod ["self", "other"]) (OS : OpT K C "sub") (DS : MDef P w K mg base 4 C "__sub__" ["self", "other"] (spBin C (fun p q => p - q) 3000)) (OM : OpT K C "mul")
    (DM : MDef P w K mg base 4 C "__mul__" ["self", "other"] (spBin C (fun p q => p * q) 3000)) (OF : OpT K C "floordiv") (DF : MDef P w K mg base 5 C "__floordiv__" ["self", "other"] (spFd C Z 3000)) : MDef P w K mg base 6 C "__mod__" ["self", "other"] (spMod C Z 900) := by
  refine F.ok c_Frac_mod (fun vs H Q E h => ?_) (fun f cdv A outer s H vs Q E hr h => ?_)
  · obtain ⟨x, y, p, q, rfl, _⟩ := h
    rfl
  · obtain ⟨x, y, p, q, rfl, hx, hy, sp, sq', kE, kQ⟩ := h
    refine ⟨_, pss_cons (ps_guard T rfl (.inl rfl) rfl rfl rfl) (pss_one (ps_ret (pe_opS (opD T OS DS (hr.mono (by decide)) (takes_of rfl rfl rfl rfl)) (pv 0)
      (pe_opS (OpS.or (OpS.of op_mulW) (opD T OM DM (hr.mono (by decide)) (takes_of rfl rfl rfl rfl))) (pv 1) (pe_opS (opD T OF DF hr (takes_of rfl rfl rfl rfl)) (pv 0) (pv 1)))))), ?_⟩
    refine sq (s_guard T rfl hy fun H1 s1 => ?_)
    have g0 : Ge (tVar 0) [some (.ref x), some y] H1 (Fr C p) := ge_self rfl (hx.mono s1)
    have g1 : Ge (tVar 1) [some (.ref x), some y] H1 (Nm C q) := ge_numv rfl (hy.mono s1)
    have p3 : Sm 3000 p := sp.mono (by decide)
    have q3 : Sm 3000 q := sq'.mono (by decide)
    by_cases h0 : q = 0
    · exact s_retZ (rz_twoS g0 (rz_twoS g1 (rz_fd g0 g1 p3 q3 h0 ((kE h0).mono s1))))
    · have st := fdv_lt sp sq' h0
      have gm := ge_mix (E := WE fun cls d _ H => E cls d H) (b := 1801) g1 (ge_fd (Z := Z) (E := WE fun cls d _ H => E cls d H) g0 g1 p3 q3 h0) (sq'.mono (by decide)) st (by decide) (by decide)
      exact s_ret (ge_bin g0 gm p3 ((sm_mul sq' (sm_int st (by decide))).mono (by decide))) (ret_fr (kQ h0) s1)
def spRmod (C Z : Addr) (b : Nat) : Sp := fun vs H Q E => ∃ x n p, vs = [.ref x, .int n] ∧ FrAt C H x p ∧ Sm b p ∧ Sm b (n : Rat) ∧ (p = 0 → ZE Z H E) ∧ (p ≠ 0 → Ret C H Q (rst (n : Rat) p))
theorem ge_mod {b : Nat} {E : L2.St → XK} {σ : L2.St} {te tb : TE} {p q : Rat} (h : Ge te σ H (Fr C p)) (hb : Ge tb σ H (Nm C q)) (sp : Sm b p) (sq : Sm b q) (h0 : q ≠ 0) : Ge (tOpS (rOwn C (spMod C Z b) E) te tb) σ H (Fr C (rst p q)) :=
  ge_own h hb fun x y H1 _ fx ny Q k => ⟨x, y, p, q, rfl, fx, ny, sp, sq, fun z => absurd z h0, fun _ => ret_of k⟩
theorem rz_mod {b : Nat} {E : L2.St → XK} {σ : L2.St} {te tb : TE} {p q : Rat} (h : Ge te σ H (Fr C p)) (hb : Ge tb σ H (Nm C q)) (sp : Sm b p) (sq : Sm b q) (h0 : q = 0) (k : ZE Z H (E σ)) : Rz (tOpS (rOwn C (spMod C Z b) E) te tb) σ H :=
  rz_own h hb fun x y H1 s fx ny Q => ⟨x, y, p, q, rfl, fx, ny, sp, sq, fun _ => k.mono s, fun z => absurd h0 z⟩
theorem d_rmod (T : FrTxt K mg C Z) (F : MFun K C "__rmod__" "Frac.__rmod__" s_Frac_rmod ["self", "other"]) (D1 : cI P w K mg base C Z [.int 1]) (O : OpT K C "mod") (DD : MDef P w K mg base 6 C "__mod__" ["self", "other"] (spMod C Z 900)) :
    MDef P w K mg base 7 C "__rmod__" ["self", "other"] (spRmod C Z 900) := by
  refine F.ok c_Frac_rmod (fun vs H Q E h => ?_) (fun f cdv A outer s H vs Q E hr h => ?_)
  · obtain ⟨x, n, p, rfl, _⟩ := h
    rfl
  · obtain ⟨x, n, p, rfl, hx, sp, sn, kE, kQ⟩ := h
    refine ⟨_, pss_cons (ps_if (pt_not (pt_val (pe_callB call_isi (by rfl) T.isi (by decide +kernel) (pa_cons (pv 1) (pa_cons (pe_bltn (v := .ty "int") rfl T.int (by decide +kernel) rfl) pa_nil))))) pss_never pss_nil) (pss_one (ps_ret (pe_opS (opD T O DD hr (takes_of rfl rfl rfl rfl)) (pe_makeD D1 (hr.mono (by decide)) (takes_of rfl rfl rfl rfl) (pa_cons (pv 1) pa_nil)) (pv 0)))), ?_⟩
    refine sq (s_notI T rfl fun H1 s1 => ?_)
    have g0 : Ge (tVar 0) [some (.ref x), some (.int n)] H1 (Fr C p) := ge_self rfl (hx.mono s1)
    by_cases h0 : p = 0
    · exact s_retZ (rz_mod (ge_mk1 (ge_var rfl)) (fr_nm g0) sn sp h0 ((kE h0).mono s1))
    · exact s_ret (ge_mod (ge_mk1 (ge_var rfl)) (fr_nm g0) sn sp h0) (ret_fr (kQ h0) s1)
/-! ### ** -/
def spPow (C : Addr) : Sp := fun vs H Q _ => ∃ (x : Addr) (k : Nat) (p : Rat), vs = [.ref x, .int (k : Int)] ∧ FrAt C H x p ∧ k ≤ 16 ∧ Sm 150 p ∧ Ret C H Q (p ^ k)
theorem pow_lt {b k : Nat} {n : Int} (h : n.natAbs < 2 ^ b) (hb : 0 < b) : (n ^ k).natAbs < 2 ^ (b * k + 1) := by
  induction k with
  | zero =>
    rw [Int.pow_zero, Nat.mul_zero]
    decide
  | succ k ih =>
    rw [Int.pow_succ]
    refine Nat.lt_of_lt_of_le (imul_lt ih h) (pow_le ?_)
    rw [Nat.mul_succ]
    omega
theorem d_pow (T : FrTxt K mg C Z) (hrg : mg "range" = none) (F : MFun K C "__pow__" "Frac.__pow__" s_Frac_pow ["self", "other"]) (D : cI P w K mg base C Z []) : MDef P w K mg base 3 C "__pow__" ["self", "other"] (spPow C) := by
  refine F.ok c_Frac_pow (fun vs H Q E h => ?_) (fun f cdv A outer s H vs Q E hr h => ?_)
  · obtain ⟨x, k, p, rfl, _⟩ := h
    rfl
  · obtain ⟨x, k, p, rfl, hx, hk, sp, kQ⟩ := h
    refine ⟨_, pss_cons (ps_if (pt_not (pt_val (pe_callB call_isi (by rfl) T.isi (by decide +kernel) (pa_cons (pv 1) (pa_cons (pe_bltn (v := .ty "int") rfl T.int (by decide +kernel) rfl) pa_nil))))) pss_never pss_nil) (pss_cons (ps_set (i := 2) c_Frac_pow.nd rfl (.inl rfl) pe_int) (pss_cons (ps_set (i := 3) c_Frac_pow.nd rfl (.inl rfl) pe_int)
      (pss_cons (ps_for (passes_of rfl) rfl (pi_range1 rfl hrg (pa_cons (pv 1) pa_nil)) (pg_name (i := 4) c_Frac_pow.nd rfl (.inl rfl))
        (pss_cons (ps_set (i := 2) c_Frac_pow.nd rfl (.inl rfl) (pe_op op_mulW (pv 2) (pe_fld (pv 0) rfl))) (pss_one (ps_set (i := 3) c_Frac_pow.nd rfl (.inl rfl) (pe_op op_mulW (pv 3) (pe_fld (pv 0) rfl))))))
      (pss_one (ps_ret (pe_makeD D (hr.mono (by decide)) (takes_of rfl rfl rfl rfl) (pa_cons (pv 2) (pa_cons (pv 3) pa_nil)))))))), ?_⟩
    refine sq (s_notI T rfl fun H1 s1 => sq (s_set ge_c fun v2 H2 s2 e2 => sq (s_set ge_c fun v3 H3 s3 e3 => sq ?_)))
    subst e2
    subst e3
    have s13 := (s1.trans s2).trans s3
    refine ⟨_, rfl, _, rfl, by omega, by omega, for_range (lo := 0) (n := (k : Int).toNat) (fun i σ H4 => ∃ v : Option V, σ = [some (.ref x), some (.int (k : Int)), some (.int (p.num ^ i)), some (.int ((p.den : Int) ^ i)), v] ∧ Same H H4)
      ⟨none, by rw [Int.pow_zero, Int.pow_zero]; rfl, s13⟩ ?_ ?_⟩
    · rintro i σ H4 hi ⟨v, rfl, s4⟩
      have hi' : i < 16 := by omega
      have g0 : ∀ H5 a b, Same H H5 → Ge (tVar 0) [some (.ref x), some (.int (k : Int)), some a, some b, some (V.int (0 + (i : Int)))] H5 (Fr C p) := fun H5 a b s5 => ge_self rfl (hx.mono s5)
      have l1 := pow_lt (k := i) sp.1 (by decide)
      have l2 := pow_lt (k := i) sp.d (by decide)
      refine sq (s_set (ge_mul (ge_var rfl) (ge_num T (g0 H4 _ _ s4)) l1 sp.1 (by omega) (by omega) (by decide)) fun v5 H5 s5 e5 => ?_)
      subst e5
      refine s_set (ge_mul (ge_var rfl) (ge_den T (g0 H5 _ _ (s4.trans s5))) l2 sp.d (by omega) (by omega) (by decide)) fun v6 H6 s6 e6 => ?_
      subst e6
      refine ⟨some (.int (0 + (i : Int))), ?_, (s4.trans s5).trans s6⟩
      rw [Int.pow_succ, Int.pow_succ]
      rfl
    · rintro σ H4 ⟨v, rfl, s4⟩
      have ek : (k : Int).toNat = k := rfl
      have l2 := pow_lt (k := k) sp.d (by decide)
      have d0 : ((p.den : Int) ^ k) ≠ 0 := Int.pow_ne_zero (den_ne p)
      refine s_mk (ge_var rfl) (ge_var rfl) (Nat.lt_of_lt_of_le l2 (pow_le (by omega))) (fun z => absurd z d0) fun z => ?_
      show Ret C H4 Q _
      rw [ek, pow_is]
      exact kQ.mono s4
end
end Bp

namespace Bp
open PySem.Spec PySem PyProof.Rows
open L2 hiding St
section
variable {P : Program} {w : World} {K : PySem.W.Frag} {mg : Str → Option Value} {base : Heap} {C Z : Addr} {H : Hp} {Q : VK} {E : XK}
/-! ### comparisons -/
def spCmp (C : Addr) (f : Rat → Rat → Bool) (b : Nat) : Sp := fun vs H Q _ => ∃ x y p q, vs = [.ref x, y] ∧ FrAt C H x p ∧ NumV C H y q ∧ Sm b p ∧ Sm b q ∧ ∀ H', Same H H' → Q (.bl (f p q)) H'
theorem rat_eq {p q : Rat} : (decide (V.int p.num = V.int q.num) && decide (V.int (p.den : Int) = V.int (q.den : Int))) = decide (p = q) := by
  rw [Bool.eq_iff_iff, Bool.and_eq_true, decide_eq_true_iff, decide_eq_true_iff, decide_eq_true_iff, vint, vint]
  constructor
  · rintro ⟨h1, h2⟩
    exact Rat.ext h1 (by omega)
  · rintro rfl
    exact ⟨rfl, rfl⟩

theorem d_eq (T : FrTxt K mg C Z) (F : MFun K C "__eq__" "Frac.__eq__" s_Frac_eq ["self", "other"]) (DA : dA P w K mg base C) : MDef P w K mg base 4 C "__eq__" ["self", "other"] (spCmp C (fun p q => decide (p = q)) 3000) := by
  refine F.ok c_Frac_eq (fun vs H Q E h => ?_) (fun f cdv A outer s H vs Q E hr h => ?_)
  · obtain ⟨x, y, p, q, rfl, _⟩ := h
    rfl
  · obtain ⟨x, y, p, q, rfl, hx, hy, sp, sq', kQ⟩ := h
    refine ⟨_, pss_cons (ps_guard T rfl (.inl rfl) rfl rfl rfl) (pss_cons (ps_set (i := 2) c_Frac_eq.nd rfl (.inl rfl) (pe_callD DA hr (takes_of rfl rfl rfl rfl) (pa_cons (pv 1) pa_nil)))
      (pss_one (ps_ret (pe_and (pe_cmpR op_eq (pe_fld (pv 0) rfl) (pe_fld (pv 2) rfl) (nomark _)) (pe_one (pe_cmpR op_eq (pe_fld (pv 0) rfl) (pe_fld (pv 2) rfl) (nomark _))))))), ?_⟩
    refine sq (s_guard T rfl hy fun H0 s0 => sq (s_set (ge_as (ge_numv rfl (hy.mono s0))) fun z H1 s1 ⟨pz, e, fz⟩ => ?_))
    subst e
    have s2 := s0.trans s1
    have g0 : Ge (tVar 0) [some (.ref x), some y, some (.ref pz)] H1 (Fr C p) := ge_self rfl (hx.mono s2)
    have g2 : Ge (tVar 2) [some (.ref x), some y, some (.ref pz)] H1 (Fr C q) := ge_self rfl fz
    refine s_ret (ge_andV (ge_eq (ge_num T g0) (ge_num T g2) rfl) fun _ => ge_eq (ge_den T g0) (ge_den T g2) rfl) fun v H3 s3 e => ?_
    rw [e, rat_eq]
    exact kQ H3 (s2.trans s3)
/-- == of a Frac and None or a text: NotImplemented comes back -/
def preNo (C : Addr) : List V → Hp → Prop := fun vs H => ∃ x y p, vs = [.ref x, y] ∧ FrAt C H x p ∧ NoNum y
structure NDef (P : Program) (w : World) (K : PySem.W.Frag) (mg : Str → Option Value) (base : Heap) (k : Nat) (C : Addr) (m : Str) (ps : List Str) (pre : List V → Hp → Prop) : Prop where
  ex : ∃ f fd, Meth K C m f ∧ L2.Binds K fd ps [] ∧ FnNI P w K mg base k f fd ps pre
theorem n_eq (T : FrTxt K mg C Z) (F : MFun K C "__eq__" "Frac.__eq__" s_Frac_eq ["self", "other"]) : NDef P w K mg base 1 C "__eq__" ["self", "other"] (preNo C) := by
  obtain ⟨f, fd, Fn, hm, b⟩ := F.ex
  refine ⟨f, fd, hm, b, ni_of Fn c_Frac_eq (fun vs H h => ?_) rfl T.ni (fun X e => ?_) fun cdv A outer s H vs hr h => ?_⟩
  · obtain ⟨x, y, p, rfl, _⟩ := h
    rfl
  · show X.env.scope.names.lookup _ = _
    rw [e]
    rfl
  · obtain ⟨x, y, p, rfl, hx, hy⟩ := h
    refine ⟨_, pt_not (pt_val (pe_isiN T 1 rfl (.inl rfl) rfl rfl rfl)), ?_⟩
    exact gt_not (gt_b (ge_isiNo T rfl hy)) H (Same.refl _) _ fun H2 s2 => ⟨rfl, s2⟩
/-- x == y in a reading -/
theorem cmpD {X : Cx} {op : CmpOp} {k : Nat} {ps : List Str} {sp : Sp} {W : WX} {nm : Str} (T : FrTxt X.K X.mg C Z) (D : MDef X.prog X.w X.K X.mg X.base k C nm ps sp) (hr : Room k X.A) (tk : Takes X W) (hop : ∀ a b, compareOp op a b = richCompare op a b := by intro _ _; rfl)
    (hnm : nm = (cmpInfo op).2.1 := by rfl) : OpS X (compareOp op) (rOwn C sp (WE W)) := by
  obtain ⟨f, fd, hm, b, F⟩ := D.ex
  subst hnm
  exact cmp_own hop hm.at_ hm.fn T.subI F hr b fun σ => passAt tk σ
theorem cmpDR {X : Cx} {op : CmpOp} {idl : String} {k : Nat} {ps : List Str} {sp : Sp} {W : WX} {nm : Str} (T : FrTxt X.K X.mg C Z) (L : IntC op idl) (D : MDef X.prog X.w X.K X.mg X.base k C nm ps sp) (hr : Room k X.A) (tk : Takes X W) (hop : ∀ a b, compareOp op a b = richCompare op a b := by intro _ _; rfl)
    (hnm : nm = (cmpInfo op).2.2 := by rfl) : OpS X (compareOp op) (rRef C sp (WE W)) := by
  obtain ⟨f, fd, hm, b, F⟩ := D.ex
  subst hnm
  exact cmp_ref hop L hm.at_ hm.fn T.subC F hr b fun σ => passAt tk σ
theorem eqN {X : Cx} {k : Nat} {ps : List Str} {pre : List V → Hp → Prop} (T : FrTxt X.K X.mg C Z) (D : NDef X.prog X.w X.K X.mg X.base k C "__eq__" ps pre) (hr : Room k X.A) : OpS X (compareOp .Eq) (rDecl C pre) := by
  obtain ⟨f, fd, hm, b, F⟩ := D.ex
  exact eq_decl hm.at_ hm.fn T.subN T.subS F hr b
abbrev rEqA (C : Addr) (sp : Sp) (E : L2.St → XK) : R2S := fun σ x y H Q => rOwn C sp E σ x y H Q ∨ rDecl C (preNo C) σ x y H Q
theorem ge_cmp {f : Rat → Rat → Bool} {b : Nat} {E : L2.St → XK} {σ : L2.St} {ta tb : TE} {p q : Rat} (ha : Ge ta σ H (Fr C p)) (hb : Ge tb σ H (Nm C q)) (sp : Sm b p) (sq : Sm b q) : Ge (tOpS (rOwn C (spCmp C f b) E) ta tb) σ H (Is (.bl (f p q))) :=
  ge_own ha hb fun x y H1 _ fx ny Q k => ⟨x, y, p, q, rfl, fx, ny, sp, sq, fun H' s => k _ H' s rfl⟩
theorem ge_eqA {b : Nat} {E : L2.St → XK} {σ : L2.St} {ta tb : TE} {p q : Rat} (ha : Ge ta σ H (Fr C p)) (hb : Ge tb σ H (Nm C q)) (sp : Sm b p) (sq : Sm b q) : Ge (tOpS (rEqA C (spCmp C (fun p q => decide (p = q)) b) E) ta tb) σ H (Is (.bl (decide (p = q)))) := fun H1 s Q k =>
  ha H1 s _ fun v H2 s2 ⟨x, e, fx⟩ => hb H2 (s.trans s2) _ fun y H3 s3 ny => by
    subst e
    exact .inl ⟨(fx.mono s3).isI, ny.arg, x, y, p, q, rfl, fx.mono s3, ny, sp, sq, fun H' s' => k _ H' ((s2.trans s3).trans s') rfl⟩
theorem ge_eqN {sp : Sp} {E : L2.St → XK} {σ : L2.St} {ta tb : TE} {p : Rat} (ha : Ge ta σ H (Fr C p)) (hb : Ge tb σ H (fun v _ => NoNum v)) : Ge (tOpS (rEqA C sp E) ta tb) σ H (Is (.bl false)) := fun H1 s Q k =>
  ha H1 s _ fun v H2 s2 ⟨x, e, fx⟩ => hb H2 (s.trans s2) _ fun y H3 s3 ny => by
    subst e
    exact .inr ⟨(fx.mono s3).isI, ny, ⟨x, y, p, rfl, fx.mono s3, ny⟩, fun H' s' => k _ H' ((s2.trans s3).trans s') rfl⟩
def spNe (C : Addr) (b : Nat) : Sp := fun vs H Q _ => ∃ x y p, vs = [.ref x, y] ∧ FrAt C H x p ∧ ((∃ q, NumV C H y q ∧ Sm b p ∧ Sm b q ∧ ∀ H', Same H H' → Q (.bl (!decide (p = q))) H') ∨ (NoNum y ∧ ∀ H', Same H H' → Q (.bl true) H'))
theorem d_ne (T : FrTxt K mg C Z) (F : MFun K C "__ne__" "Frac.__ne__" s_Frac_ne ["self", "other"]) (DE : MDef P w K mg base 4 C "__eq__" ["self", "other"] (spCmp C (fun p q => decide (p = q)) 3000)) (DN : NDef P w K mg base 1 C "__eq__" ["self", "other"] (preNo C)) :
    MDef P w K mg base 5 C "__ne__" ["self", "other"] (spNe C 3000) := by
  refine F.ok c_Frac_ne (fun vs H Q E h => ?_) (fun f cdv A outer s H vs Q E hr h => ?_)
  · obtain ⟨x, y, p, rfl, _⟩ := h
    rfl
  · obtain ⟨x, y, p, rfl, hx, hh⟩ := h
    refine ⟨_, pss_one (ps_ret (pe_not (pe_cmpS (OpS.or (cmpD T DE hr (takes_of rfl rfl rfl rfl)) (eqN T DN (hr.mono (by decide)))) (pv 0) (pv 1) (nomark _)))), ?_⟩
    have g0 : Ge (tVar 0) [some (.ref x), some y] H (Fr C p) := ge_self rfl hx
    rcases hh with ⟨q, hy, sp, sq', kQ⟩ | ⟨hy, kQ⟩
    · exact s_ret (ge_notV (ge_eqA g0 (ge_numv rfl hy) sp sq')) fun v H1 s1 e => by rw [e]; exact kQ H1 s1
    · exact s_ret (ge_notV (ge_eqN g0 (ge_varP rfl hy fun _ _ _ h _ => h))) fun v H1 s1 e => by rw [e]; exact kQ H1 s1
/-! ### gap, <, <=, >, >= -/
def spGap (C : Addr) (b : Nat) : Sp := fun vs H Q _ => ∃ x y p q, vs = [.ref x, y] ∧ FrAt C H x p ∧ NumV C H y q ∧ Sm b p ∧ Sm b q ∧ ∀ H', Same H H' → Q (.int (p.num * q.den - q.num * p.den)) H'
theorem d_gap (T : FrTxt K mg C Z) (F : GFun K mg "gap" s_gap ["left", "right"]) (DA : dA P w K mg base C) : Def P w K mg base 4 "gap" ["left", "right"] (spGap C 3000) := by
  refine F.ok c_gap (fun vs H Q E h => ?_) (fun f cdv A outer s H vs Q E hr h => ?_)
  · obtain ⟨x, y, p, q, rfl, _⟩ := h
    rfl
  · obtain ⟨x, y, p, q, rfl, hx, hy, sp, sq', kQ⟩ := h
    refine ⟨_, pss_cons (ps_set (i := 2) c_gap.nd rfl (.inl rfl) (pe_callD DA hr (takes_of rfl rfl rfl rfl) (pa_cons (pv 1) pa_nil)))
      (pss_one (ps_ret (pe_op op_sub (pe_op op_mulW (pe_fld (pv 0) rfl) (pe_fld (pv 2) rfl)) (pe_op op_mulW (pe_fld (pv 2) rfl) (pe_fld (pv 0) rfl))))), ?_⟩
    refine sq (s_set (ge_as (ge_numv rfl hy)) fun z H1 s1 ⟨pz, e, fz⟩ => ?_)
    subst e
    have g0 : Ge (tVar 0) [some (.ref x), some y, some (.ref pz)] H1 (Fr C p) := ge_self rfl (hx.mono s1)
    have g2 : Ge (tVar 2) [some (.ref x), some y, some (.ref pz)] H1 (Fr C q) := ge_self rfl fz
    refine s_ret (ge_sub (ge_mul (ge_num T g0) (ge_den T g2) sp.1 sq'.d (by decide) (by decide) (by decide)) (ge_mul (ge_num T g2) (ge_den T g0) sq'.1 sp.d (by decide) (by decide) (by decide))) fun v H3 s3 e => ?_
    rw [e]
    exact kQ H3 (s1.trans s3)
theorem lt_gap (p q : Rat) : decide (p.num * q.den - q.num * p.den < 0) = decide (p < q) := by
  rw [decide_eq_decide, Rat.lt_iff]
  omega
theorem le_gap (p q : Rat) : decide (p.num * q.den - q.num * p.den ≤ 0) = decide (p ≤ q) := by
  rw [decide_eq_decide, Rat.le_iff]
  omega
theorem gt_gap (p q : Rat) : decide (0 < p.num * q.den - q.num * p.den) = decide (q < p) := by
  rw [decide_eq_decide, Rat.lt_iff]
  omega
theorem ge_gap (p q : Rat) : decide (0 ≤ p.num * q.den - q.num * p.den) = decide (q ≤ p) := by
  rw [decide_eq_decide, Rat.le_iff]
  omega

theorem d_lt (T : FrTxt K mg C Z) (F : MFun K C "__lt__" "Frac.__lt__" s_Frac_lt ["self", "other"]) (DG : Def P w K mg base 4 "gap" ["left", "right"] (spGap C 3000)) : MDef P w K mg base 5 C "__lt__" ["self", "other"] (spCmp C (fun p q => decide (p < q)) 3000) := by
  refine F.ok c_Frac_lt (fun vs H Q E h => ?_) (fun f cdv A outer s H vs Q E hr h => ?_)
  · obtain ⟨x, y, p, q, rfl, _⟩ := h
    rfl
  · obtain ⟨x, y, p, q, rfl, hx, hy, sp, sq', kQ⟩ := h
    refine ⟨_, pss_cons (ps_guard T rfl (.inl rfl) rfl rfl rfl) (pss_one (ps_ret (pe_cmpR op_lt (pe_callD DG hr (takes_of rfl rfl rfl rfl) (pa_cons (pv 0) (pa_cons (pv 1) pa_nil))) pe_int (nomark _)))), ?_⟩
    refine sq (s_guard T rfl hy fun H1 s1 => ?_)
    have g0 : Ge (tVar 0) [some (.ref x), some y] H1 (Fr C p) := ge_self rfl (hx.mono s1)
    have g1 : Ge (tVar 1) [some (.ref x), some y] H1 (Nm C q) := ge_numv rfl (hy.mono s1)
    have gg : Ge (tCallS (spGap C 3000) (WE fun cls d _ H => E cls d H) (tCons (tVar 0) (tCons (tVar 1) tNil))) [some (.ref x), some y] H1 (Is (.int (p.num * q.den - q.num * p.den))) :=
      ge_call (ga2 g0 g1 (up_fr C p)) fun vs H2 _ ⟨v, u, e, ⟨a, ea, fa⟩, nu⟩ Q k => by subst ea; exact ⟨a, u, p, q, e, fa, nu, sp, sq', fun H' s => k _ H' s rfl⟩
    refine s_ret (ge_I0 (g := fun i j => .bl (decide (i < j))) gg ge_c) fun v H3 s3 e => ?_
    rw [e, lt_gap]
    exact kQ H3 (s1.trans s3)

theorem d_le (T : FrTxt K mg C Z) (F : MFun K C "__le__" "Frac.__le__" s_Frac_le ["self", "other"]) (DG : Def P w K mg base 4 "gap" ["left", "right"] (spGap C 3000)) : MDef P w K mg base 5 C "__le__" ["self", "other"] (spCmp C (fun p q => decide (p ≤ q)) 3000) := by
  refine F.ok c_Frac_le (fun vs H Q E h => ?_) (fun f cdv A outer s H vs Q E hr h => ?_)
  · obtain ⟨x, y, p, q, rfl, _⟩ := h
    rfl
  · obtain ⟨x, y, p, q, rfl, hx, hy, sp, sq', kQ⟩ := h
    refine ⟨_, pss_cons (ps_guard T rfl (.inl rfl) rfl rfl rfl) (pss_one (ps_ret (pe_cmpR op_le (pe_callD DG hr (takes_of rfl rfl rfl rfl) (pa_cons (pv 0) (pa_cons (pv 1) pa_nil))) pe_int (nomark _)))), ?_⟩
    refine sq (s_guard T rfl hy fun H1 s1 => ?_)
    have g0 : Ge (tVar 0) [some (.ref x), some y] H1 (Fr C p) := ge_self rfl (hx.mono s1)
    have g1 : Ge (tVar 1) [some (.ref x), some y] H1 (Nm C q) := ge_numv rfl (hy.mono s1)
    have gg : Ge (tCallS (spGap C 3000) (WE fun cls d _ H => E cls d H) (tCons (tVar 0) (tCons (tVar 1) tNil))) [some (.ref x), some y] H1 (Is (.int (p.num * q.den - q.num * p.den))) :=
      ge_call (ga2 g0 g1 (up_fr C p)) fun vs H2 _ ⟨v, u, e, ⟨a, ea, fa⟩, nu⟩ Q k => by subst ea; exact ⟨a, u, p, q, e, fa, nu, sp, sq', fun H' s => k _ H' s rfl⟩
    refine s_ret (ge_I0 (g := fun i j => .bl (decide (i ≤ j))) gg ge_c) fun v H3 s3 e => ?_
    rw [e, le_gap]
    exact kQ H3 (s1.trans s3)

theorem d_gt (T : FrTxt K mg C Z) (F : MFun K C "__gt__" "Frac.__gt__" s_Frac_gt ["self", "other"]) (DG : Def P w K mg base 4 "gap" ["left", "right"] (spGap C 3000)) : MDef P w K mg base 5 C "__gt__" ["self", "other"] (spCmp C (fun p q => decide (q < p)) 3000) := by
  refine F.ok c_Frac_gt (fun vs H Q E h => ?_) (fun f cdv A outer s H vs Q E hr h => ?_)
  · obtain ⟨x, y, p, q, rfl, _⟩ := h
    rfl
  · obtain ⟨x, y, p, q, rfl, hx, hy, sp, sq', kQ⟩ := h
    refine ⟨_, pss_cons (ps_guard T rfl (.inl rfl) rfl rfl rfl) (pss_one (ps_ret (pe_cmpR op_gt (pe_callD DG hr (takes_of rfl rfl rfl rfl) (pa_cons (pv 0) (pa_cons (pv 1) pa_nil))) pe_int (nomark _)))), ?_⟩
    refine sq (s_guard T rfl hy fun H1 s1 => ?_)
    have g0 : Ge (tVar 0) [some (.ref x), some y] H1 (Fr C p) := ge_self rfl (hx.mono s1)
    have g1 : Ge (tVar 1) [some (.ref x), some y] H1 (Nm C q) := ge_numv rfl (hy.mono s1)
    have gg : Ge (tCallS (spGap C 3000) (WE fun cls d _ H => E cls d H) (tCons (tVar 0) (tCons (tVar 1) tNil))) [some (.ref x), some y] H1 (Is (.int (p.num * q.den - q.num * p.den))) :=
      ge_call (ga2 g0 g1 (up_fr C p)) fun vs H2 _ ⟨v, u, e, ⟨a, ea, fa⟩, nu⟩ Q k => by subst ea; exact ⟨a, u, p, q, e, fa, nu, sp, sq', fun H' s => k _ H' s rfl⟩
    refine s_ret (ge_I0 (g := fun i j => .bl (decide (j < i))) gg ge_c) fun v H3 s3 e => ?_
    rw [e, gt_gap]
    exact kQ H3 (s1.trans s3)

theorem d_ge (T : FrTxt K mg C Z) (F : MFun K C "__ge__" "Frac.__ge__" s_Frac_ge ["self", "other"]) (DG : Def P w K mg base 4 "gap" ["left", "right"] (spGap C 3000)) : MDef P w K mg base 5 C "__ge__" ["self", "other"] (spCmp C (fun p q => decide (q ≤ p)) 3000) := by
  refine F.ok c_Frac_ge (fun vs H Q E h => ?_) (fun f cdv A outer s H vs Q E hr h => ?_)
  · obtain ⟨x, y, p, q, rfl, _⟩ := h
    rfl
  · obtain ⟨x, y, p, q, rfl, hx, hy, sp, sq', kQ⟩ := h
    refine ⟨_, pss_cons (ps_guard T rfl (.inl rfl) rfl rfl rfl) (pss_one (ps_ret (pe_cmpR op_ge (pe_callD DG hr (takes_of rfl rfl rfl rfl) (pa_cons (pv 0) (pa_cons (pv 1) pa_nil))) pe_int (nomark _)))), ?_⟩
    refine sq (s_guard T rfl hy fun H1 s1 => ?_)
    have g0 : Ge (tVar 0) [some (.ref x), some y] H1 (Fr C p) := ge_self rfl (hx.mono s1)
    have g1 : Ge (tVar 1) [some (.ref x), some y] H1 (Nm C q) := ge_numv rfl (hy.mono s1)
    have gg : Ge (tCallS (spGap C 3000) (WE fun cls d _ H => E cls d H) (tCons (tVar 0) (tCons (tVar 1) tNil))) [some (.ref x), some y] H1 (Is (.int (p.num * q.den - q.num * p.den))) :=
      ge_call (ga2 g0 g1 (up_fr C p)) fun vs H2 _ ⟨v, u, e, ⟨a, ea, fa⟩, nu⟩ Q k => by subst ea; exact ⟨a, u, p, q, e, fa, nu, sp, sq', fun H' s => k _ H' s rfl⟩
    refine s_ret (ge_I0 (g := fun i j => .bl (decide (j ≤ i))) gg ge_c) fun v H3 s3 e => ?_
    rw [e, ge_gap]
    exact kQ H3 (s1.trans s3)

/-! ### is_whole, a property -/
structure PDef (P : Program) (w : World) (K : PySem.W.Frag) (mg : Str → Option Value) (base : Heap) (k : Nat) (C : Addr) (m : Str) (sp : Sp) : Prop where
  ex : ∃ pr g fd ps, PropOf K C m pr g ∧ L2.Binds K fd ps [] ∧ FnOk P w K mg base (L2.CX P w) k g fd ps sp
structure PFun (K : PySem.W.Frag) (C : Addr) (m qual : Str) (st : Stmt) (ps : List Str) : Prop where
  ex : ∃ pr g fd, L2.Fun K m qual st g fd ∧ PropOf K C m pr g ∧ L2.Binds K fd ps []
theorem pe_propD {X : Cx} {k : Nat} {m : Str} {sp : Sp} {e : Expr} {ta : TE} {pos : Pos} (D : PDef X.prog X.w X.K X.mg X.base k C m sp) (hr : Room (k + 1) X.A) (c : Cls X.K C) (he : PE X e ta) (hab : attributeBase e m X.env (eval e X.env) = eval e X.env := by rfl) :
    PE X (.Attribute e m pos) (tProp C sp [] E0 ta) := by
  obtain ⟨pr, g, fd, ps, hp, b, F⟩ := D.ex
  exact pe_prop he c hp F hr b .nil passL hab
theorem d_whole (T : FrTxt K mg C Z) (F : PFun K C "is_whole" "Frac.is_whole" s_Frac_is_whole ["self"]) : PDef P w K mg base 1 C "is_whole" (spVal C (fun p => .bl (decide (V.int (p.den : Int) = .int 1))) 8000) := by
  obtain ⟨pr, g, fd, Fn, hp, b⟩ := F.ex
  refine ⟨pr, g, fd, _, hp, b, Fn.okX c_Frac_is_whole (fun vs H Q E h => ?_) (fun cdv A outer s H vs Q E hr h => ?_)⟩
  · obtain ⟨x, p, rfl, _⟩ := h
    rfl
  · obtain ⟨x, p, rfl, hx, sp, kQ⟩ := h
    refine ⟨_, pss_one (ps_ret (pe_cmpR op_eq (pe_fld (pv 0) rfl) pe_int (nomark _))), ?_⟩
    have g0 : Ge (tVar 0) [some (.ref x)] H (Fr C p) := ge_self rfl hx
    exact s_ret (ge_eq (ge_den T g0) ge_c rfl) fun v H1 s1 e => by rw [e]; exact kQ H1 s1
theorem ge_prop {m : Str} {f : Rat → V} {b : Nat} {σ : L2.St} {te : TE} {p : Rat} (h : Ge te σ H (Fr C p)) (sp : Sm b p) : Ge (tProp C (spVal C f b) [] E0 te) σ H (Is (f p)) := fun H1 s Q q =>
  h H1 s _ fun v H2 s2 ⟨a, e, dx, fa⟩ => ⟨a, dx, _, e, fa, a, p, rfl, ⟨dx, fa⟩, sp, fun H' s' => q _ H' (s2.trans s') rfl⟩
end
end Bp

namespace Bp
open PySem.Spec PySem PyProof.Rows
open L2 hiding St
/-! ## the law's own defs -/
section
variable {P : Program} {w : World} {K : PySem.W.Frag} {mg : Str → Option Value} {base : Heap} {C Z : Addr} {H : Hp} {Q : VK} {E : XK}
/-- the built-ins' names are the built-ins -/
structure BT (mg : Str → Option Value) : Prop where
  len : mg "len" = none
  int : mg "int" = none
  abs : mg "abs" = none
  range : mg "range" = none
  isi : mg "isinstance" = none
  bool : mg "bool" = none
  str : mg "str" = none
  valueError : mg "ValueError" = none
/-! ### cells -/
/-- the script's list -/
abbrev Scr (K : PySem.W.Frag) (H : Hp) (a : Addr) (ns : List Int) : Prop := SqL K H a (ns.map V.int) ∧ ns.length ≤ 63
def spCell (K : PySem.W.Frag) : Sp := fun vs H Q _ => ∃ a ns k, vs = [.ref a, .int k] ∧ Scr K H a ns ∧ 0 ≤ k ∧ k ≤ 1000 ∧ ∀ c H', 0 ≤ c → c < 10 ^ 18 → Same H H' → Q (.int c) H'
theorem ge_len {σ : L2.St} {te : TE} {a : Addr} {xs : List V} (h : Ge te σ H (Is (.ref a))) (hs : SqL K H a xs) : Ge (tCB (fun xs H Q => ∃ x n, xs = [x] ∧ LenV K x H n ∧ Q (.int n) H) (tCons te tNil)) σ H (Is (.int (xs.length : Int))) :=
  ge_callB (ga1 h (Up.is _)) fun vs H1 s ⟨v, e, e2⟩ Q q => ⟨_, xs.length, e, by rw [e2]; exact .inl ⟨xs, s.seq hs, rfl⟩, q _ H1 (Same.refl _) rfl⟩
theorem ge_at {σ : L2.St} {ta tb : TE} {a : Addr} {xs : List V} {i : Int} {v : V} (ha : Ge ta σ H (Is (.ref a))) (hb : Ge tb σ H (Is (.int i))) (hs : SqL K H a xs) (hi : atI xs i = some v) : Ge (tOp (rIxL K) ta tb) σ H (Is v) :=
  ge_two ha hb (Up.is _) fun x y H1 s ex ey Q q => ⟨a, xs, i, v, ex, ey, s.seq hs, hi, q _ H1 (Same.refl _) rfl⟩
theorem ge_intI {σ : L2.St} {te : TE} {i : Int} (h : Ge te σ H (Is (.int i))) : Ge (tCB (fun xs H Q => (∃ i, xs = [.int i] ∧ Q (.int i) H) ∨ ∃ k, xs = [.bl k] ∧ Q (.int (if k then 1 else 0)) H) (tCons te tNil)) σ H (Is (.int i)) :=
  ge_callB (ga1 h (Up.is _)) fun vs H1 _ ⟨v, e, e2⟩ Q q => .inl ⟨i, by rw [e, e2], q _ H1 (Same.refl _) rfl⟩
theorem ge_abs {σ : L2.St} {te : TE} {i : Int} (h : Ge te σ H (Is (.int i))) : Ge (tCB (fun xs H Q => ∃ i, xs = [.int i] ∧ Q (.int (if i < 0 then -i else i)) H) (tCons te tNil)) σ H (Is (.int (i.natAbs : Int))) :=
  ge_callB (ga1 h (Up.is _)) fun vs H1 _ ⟨v, e, e2⟩ Q q => ⟨i, by rw [e, e2], q _ H1 (Same.refl _) (by congr 1; split <;> omega)⟩
theorem ge_mod' {σ : L2.St} {ta tb : TE} {m n : Int} (ha : Ge ta σ H (Is (.int m))) (hb : Ge tb σ H (Is (.int n))) (h : 0 < n) : Ge (tOp (rI (fun _ j => 0 < j) fun i j => .int (i % j)) ta tb) σ H (Is (.int (m % n))) := ge_I ha hb h
theorem ge_fdiv {σ : L2.St} {ta tb : TE} {m n : Int} {b : Nat} (ha : Ge ta σ H (Is (.int m))) (hb : Ge tb σ H (Is (.int n))) (h : 0 < n) (hn : n.natAbs < 2 ^ b) (b0 : 0 < b) (b1 : b ≤ 9000) : Ge (tOp (rI CDivW fun i j => .int (i / j)) ta tb) σ H (Is (.int (m / n))) := ge_I ha hb (wide_div h hn b0 b1)
theorem ge_pow {σ : L2.St} {m : Int} {n : Nat} (h : n ≤ 1000000) (hm : m.natAbs < 2 ^ 64) : Ge (tOp (rI CPow fun i j => .int (i ^ j.toNat)) (tC (.int m)) (tC (.int (n : Int)))) σ H (Is (.int (m ^ n))) := ge_I (n := (n : Int)) ge_c ge_c ⟨by omega, by omega, hm⟩
theorem ge_lt {σ : L2.St} {ta tb : TE} {m n : Int} (ha : Ge ta σ H (Is (.int m))) (hb : Ge tb σ H (Is (.int n))) : Ge (tOp (rI0 fun i j => .bl (decide (i < j))) ta tb) σ H (Is (.bl (decide (m < n)))) := ge_I0 ha hb
theorem ge_gt {σ : L2.St} {ta tb : TE} {m n : Int} (ha : Ge ta σ H (Is (.int m))) (hb : Ge tb σ H (Is (.int n))) : Ge (tOp (rI0 fun i j => .bl (decide (j < i))) ta tb) σ H (Is (.bl (decide (n < m)))) := ge_I0 ha hb
theorem ge_le {σ : L2.St} {ta tb : TE} {m n : Int} (ha : Ge ta σ H (Is (.int m))) (hb : Ge tb σ H (Is (.int n))) : Ge (tOp (rI0 fun i j => .bl (decide (i ≤ j))) ta tb) σ H (Is (.bl (decide (m ≤ n)))) := ge_I0 ha hb
theorem ge_unN {σ : L2.St} {te : TE} {m : Int} (h : Ge te σ H (Is (.int m))) : Ge (tUn (rU fun i => .int (-i)) te) σ H (Is (.int (-m))) := ge_un h
theorem atI_map {ns : List Int} {k : Int} (h0 : 0 ≤ k) (h : k < (ns.length : Int)) : ∃ z, atI (ns.map V.int) k = some (.int z) := by
  have hk : k.toNat < ns.length := by omega
  refine ⟨ns[k.toNat], ?_⟩
  refine at_of (j := k.toNat) (by omega) ?_
  rw [List.getElem?_map, List.getElem?_eq_getElem (by simpa using hk)]
  simp

theorem d_cell (B : BT mg) (F : GFun K mg "_law_cell" s_law_cell ["script", "k"]) : Def P w K mg base 1 "_law_cell" ["script", "k"] (spCell K) := by
  refine F.ok c_law_cell (fun vs H Q E h => ?_) (fun f cdv A outer s H vs Q E hr h => ?_)
  · obtain ⟨a, ns, k, rfl, _⟩ := h
    rfl
  · obtain ⟨a, ns, k, rfl, ⟨hs, hl⟩, k0, k1, kQ⟩ := h
    refine ⟨_, pss_cons (ps_if (pt_cmpR op_lt (pv 1) (pe_callB call_len (by rfl) B.len PySem.boot_len (pa_cons (pv 0) pa_nil)) (nomark _))
        (pss_one (ps_ret (pe_op op_mod (pe_callTy call_int1 (by rfl) B.int (by decide +kernel) (pa_cons (pe_ix ix_list (pv 0) (pv 1) (fun _ _ => rfl)) pa_nil)) (pe_op op_pow pe_int pe_int)))) pss_nil)
      (pss_one (ps_ret (pe_op op_add (pe_op op_mulW pe_int (pv 1)) pe_int))), ?_⟩
    refine sq (s_if (gt_test (ge_lt (ge_var rfl) (ge_len (ge_var rfl) hs))) (fun b H1 s1 => ?_) (fun b H1 s1 => s_next ?_))
    · have hk := of_decide_eq_true b
      rw [List.length_map] at hk
      obtain ⟨z, hz⟩ := atI_map (ns := ns) k0 hk
      refine s_ret (ge_mod' (ge_intI (ge_at (ge_var rfl) (ge_var rfl) (s1.seq hs) hz)) (ge_pow (n := 18) (by decide) (by decide)) (by decide)) fun v H2 s2 e => ?_
      rw [e]
      exact kQ _ H2 (Int.emod_nonneg _ (by decide)) (Int.emod_lt_of_pos _ (by decide)) (s1.trans s2)
    · refine s_ret (ge_add (ge_mul (a := 4) (b := 20) ge_c (ge_var rfl) (by decide) (by omega) (by decide) (by decide) (by decide)) ge_c) fun v H2 s2 e => ?_
      rw [e]
      exact kQ _ H2 (by omega) (by omega) (s1.trans s2)
/-! ### the greatest common divisor -/
def spGcd : Sp := fun vs H Q _ => ∃ m n : Int, vs = [.int m, .int n] ∧ ∀ H', Same H H' → Q (.int ((Nat.gcd m.natAbs n.natAbs : Nat) : Int)) H'
theorem d_gcd (B : BT mg) (F : GFun K mg "_law_gcd" s_law_gcd ["first", "second"]) : Def P w K mg base 1 "_law_gcd" ["first", "second"] spGcd := by
  refine F.ok c_law_gcd (fun vs H Q E h => ?_) (fun f cdv A outer s H vs Q E hr h => ?_)
  · obtain ⟨m, n, rfl, _⟩ := h
    rfl
  · obtain ⟨m, n, rfl, kQ⟩ := h
    refine ⟨_, pss_cons (ps_set (i := 0) c_law_gcd.nd rfl (.inl rfl) (pe_callB call_abs (by rfl) B.abs (by decide +kernel) (pa_cons (pv 0) pa_nil)))
      (pss_cons (ps_set (i := 1) c_law_gcd.nd rfl (.inl rfl) (pe_callB call_abs (by rfl) B.abs (by decide +kernel) (pa_cons (pv 1) pa_nil)))
      (pss_cons (ps_while (passes_of rfl) (pt_cmpR op_ne (pv 1) pe_int (nomark _))
        (pss_cons (ps_set (i := 2) c_law_gcd.nd rfl (.inl rfl) (pe_op op_mod (pe_callTy call_int1 (by rfl) B.int (by decide +kernel) (pa_cons (pv 0) pa_nil)) (pv 1)))
        (pss_cons (ps_set (i := 0) c_law_gcd.nd rfl (.inl rfl) (pv 1)) (pss_one (ps_set (i := 1) c_law_gcd.nd rfl (.inl rfl) (pv 2))))))
      (pss_one (ps_ret (pv 0))))), ?_⟩
    refine sq (s_set (ge_abs (ge_var rfl)) fun v1 H1 s1 e1 => sq (s_set (ge_abs (ge_var rfl)) fun v2 H2 s2 e2 => sq ?_))
    subst e1
    subst e2
    refine while_by (fun σ H' => ∃ (x y : Nat) (v : Option V), σ = [some (.int x), some (.int y), v] ∧ Nat.gcd x y = Nat.gcd m.natAbs n.natAbs ∧ Same H H')
      (fun σ _ => match σ with | [_, some (.int y), _] => y.natAbs | _ => 0) ⟨m.natAbs, n.natAbs, none, rfl, rfl, s1.trans s2⟩ ?_ (fun σ H Q Q' f ⟨v, a, b, k, e, q⟩ => ⟨v, a, b, k, e, f _ _ q⟩)
    rintro σ H3 ⟨x, y, v, rfl, hg, s3⟩
    refine gt_test (ge_ne (y := .int 0) (ge_var rfl) ge_c rfl) H3 (Same.refl _) _ fun H4 s4 => ?_
    by_cases hy : y = 0
    · subst hy
      refine iteF ?_
      refine s_ret (ge_var rfl) fun v5 H5 s5 e5 => ?_
      rw [e5]
      rw [Nat.gcd_zero_right] at hg
      rw [hg]
      exact kQ H5 ((s3.trans s4).trans s5)
    · have hb : (!decide (V.int (y : Int) = .int 0)) = true := by
        rw [Bool.not_eq_true', decide_eq_false_iff_not, vint]
        omega
      rw [hb]
      refine iteT (sq (s_set (ge_mod' (ge_intI (ge_var rfl)) (ge_var rfl) (by omega)) fun v5 H5 s5 e5 => sq (s_set (ge_var rfl) fun v6 H6 s6 e6 => s_set (ge_var rfl) fun v7 H7 s7 e7 => ?_)))
      subst e5
      subst e6
      subst e7
      have em : ((x : Int) % (y : Int)) = ((x % y : Nat) : Int) := (Int.natCast_emod x y).symm
      refine ⟨⟨y, x % y, some (.int ((x % y : Nat) : Int)), by rw [em]; rfl, ?_, (((s3.trans s4).trans s5).trans s6).trans s7⟩, ?_⟩
      · rw [← hg, Nat.gcd_comm x y, Nat.gcd_rec y x, Nat.gcd_comm]
      · show ((x : Int) % (y : Int)).natAbs < ((y : Int)).natAbs
        rw [em]
        exact Nat.mod_lt _ (by omega)
/-! ### the law's pairs -/
/-- the pair of a fraction's parts stands at p -/
def PrAt (H : Hp) (p : Addr) (r : Rat) : Prop := H p = some (.tup [.int r.num, .int (r.den : Int)])
abbrev Pr (r : Rat) : VP := Tup [.int r.num, .int (r.den : Int)]
def RetP (H : Hp) (Q : VK) (r : Rat) : Prop := ∀ v H', Same H H' → Pr r v H' → Q v H'
theorem RetP.mono {H H' : Hp} {Q : VK} {r : Rat} (h : RetP H Q r) (s : Same H H') : RetP H' Q r := fun p H2 s2 f => h p H2 (s.trans s2) f
theorem ge_p0 {σ : L2.St} {te : TE} {r : Rat} (h : Ge te σ H (Pr r)) : Ge (tOp (rIxT K) te (tC (.int 0))) σ H (Is (.int r.num)) := ge_ix (j := 0) h ge_c rfl
theorem ge_p1 {σ : L2.St} {te : TE} {r : Rat} (h : Ge te σ H (Pr r)) : Ge (tOp (rIxT K) te (tC (.int 1))) σ H (Is (.int (r.den : Int))) := ge_ix (j := 1) h ge_c rfl
def spLow : Sp := fun vs H Q _ => ∃ n d : Int, vs = [.int n, .int d] ∧ d ≠ 0 ∧ d.natAbs < 2 ^ 8000 ∧ RetP H Q (Rat.divInt n d)
theorem com_pos {n d : Int} (h : 0 < d) : com n d = ((Nat.gcd n.natAbs d.natAbs : Nat) : Int) := by
  unfold com
  rw [if_neg (by omega)]
theorem low_is {n d : Int} (h : 0 < d) : n / ((Nat.gcd n.natAbs d.natAbs : Nat) : Int) = (Rat.divInt n d).num ∧ d / ((Nat.gcd n.natAbs d.natAbs : Nat) : Int) = ((Rat.divInt n d).den : Int) := by
  have h1 := num_com (n := n) (d := d) (by omega)
  have h2 := den_com (n := n) (d := d) (by omega)
  rw [com_pos h, Int.fdiv_eq_ediv_of_nonneg _ (by omega)] at h1 h2
  exact ⟨h1, h2⟩
theorem d_low (F : GFun K mg "_law_low" s_law_low ["num", "den"]) (DG : Def P w K mg base 1 "_law_gcd" ["first", "second"] spGcd) : Def P w K mg base 2 "_law_low" ["num", "den"] spLow := by
  refine F.ok c_law_low (fun vs H Q E h => ?_) (fun f cdv A outer s H vs Q E hr h => ?_)
  · obtain ⟨n, d, rfl, _⟩ := h
    rfl
  · obtain ⟨n, d, rfl, d0, hs, kQ⟩ := h
    refine ⟨_, pss_cons (ps_if (pt_cmpR op_lt (pv 1) pe_int (nomark _)) (pss_cons (ps_set (i := 0) c_law_low.nd rfl (.inl rfl) (pe_un un_neg (pv 0))) (pss_one (ps_set (i := 1) c_law_low.nd rfl (.inl rfl) (pe_un un_neg (pv 1))))) pss_nil)
      (pss_cons (ps_set (i := 2) c_law_low.nd rfl (.inl rfl) (pe_callD DG hr (takes_of rfl rfl rfl rfl) (pa_cons (pv 0) (pa_cons (pv 1) pa_nil))))
      (pss_one (ps_ret (pe_tup (pa_cons (pe_op op_fdivW (pv 0) (pv 2)) (pa_cons (pe_op op_fdivW (pv 1) (pv 2)) pa_nil)))))), ?_⟩
    have rest : ∀ (n' d' : Int) (H1 : Hp), Same H H1 → 0 < d' → d'.natAbs < 2 ^ 8000 → Rat.divInt n' d' = Rat.divInt n d →
        tSeq (tAsg (tCallS spGcd (WE fun cls d x H => E cls d H) (tCons (tVar 0) (tCons (tVar 1) tNil))) (gName 2)) (tRet (tTup (tCons (tOp (rI CDivW fun i j => .int (i / j)) (tVar 0) (tVar 2)) (tCons (tOp (rI CDivW fun i j => .int (i / j)) (tVar 1) (tVar 2)) tNil)))) { nx := fun _ H' => Q .non H', rt := Q } [some (.int n'), some (.int d'), none] H1 := by
      intro n' d' H1 s1 hp hs' he
      have gp := gcd_pos (n := n') (d := d') (by omega)
      have gl : ((Nat.gcd n'.natAbs d'.natAbs : Nat) : Int).natAbs < 2 ^ 8000 := Nat.lt_of_le_of_lt (Nat.gcd_le_right _ (by omega)) hs'
      refine sq (s_set (P := Is (.int ((Nat.gcd n'.natAbs d'.natAbs : Nat) : Int))) (ge_call (ga2 (ge_var rfl) (ge_var rfl) (Up.is _)) fun vs H2 _ ⟨v, u, e, e1, e2⟩ Q q => ⟨n', d', by rw [e, e1, e2], fun H' s => q _ H' s rfl⟩) fun v H2 s2 e => ?_)
      subst e
      obtain ⟨l1, l2⟩ := low_is (n := n') hp
      refine s_ret (ge_pair (ge_fdiv (ge_var rfl) (ge_var rfl) (by omega) gl (by decide) (by decide)) (ge_fdiv (ge_var rfl) (ge_var rfl) (by omega) gl (by decide) (by decide))) fun v H3 s3 h3 => ?_
      rw [l1, l2, he] at h3
      exact kQ v H3 ((s1.trans s2).trans s3) h3
    refine sq (s_if (gt_test (ge_lt (ge_var rfl) ge_c)) (fun b H1 s1 => ?_) (fun b H1 s1 => ?_))
    · have hd := of_decide_eq_true b
      refine sq (s_set (ge_unN (ge_var rfl)) fun v2 H2 s2 e2 => s_set (ge_unN (ge_var rfl)) fun v3 H3 s3 e3 => ?_)
      subst e2
      subst e3
      exact rest (-n) (-d) H3 ((s1.trans s2).trans s3) (by omega) (by rw [Int.natAbs_neg]; exact hs) (Rat.neg_divInt_neg n d)
    · have hd := of_decide_eq_false b
      exact rest n d H1 s1 (by omega) hs rfl
theorem ge_low {E : L2.St → XK} {σ : L2.St} {ta tb : TE} {n d : Int} (ha : Ge ta σ H (Is (.int n))) (hb : Ge tb σ H (Is (.int d))) (d0 : d ≠ 0) (hs : d.natAbs < 2 ^ 8000) : Ge (tCallS spLow E (tCons ta (tCons tb tNil))) σ H (Pr (Rat.divInt n d)) :=
  ge_call (ga2 ha hb (Up.is _)) fun vs H2 _ ⟨v, u, e, e1, e2⟩ Q q => ⟨n, d, by rw [e, e1, e2], d0, hs, fun v H' s h => q v H' s h⟩
def spP2 (f : Rat → Rat → Rat) : Sp := fun vs H Q _ => ∃ x y p q, vs = [.ref x, .ref y] ∧ PrAt H x p ∧ PrAt H y q ∧ Sm 3000 p ∧ Sm 3000 q ∧ RetP H Q (f p q)
theorem ge_pr {σ : L2.St} {i : Nat} {x : Addr} {p : Rat} (hs : σ[i]? = some (some (.ref x))) (h : PrAt H x p) : Ge (tVar i) σ H (Pr p) := ge_varP hs ⟨x, rfl, h⟩ (up_tup _)
theorem PrAt.mono {H' : Hp} {x : Addr} {p : Rat} (h : PrAt H x p) (s : Same H H') : PrAt H' x p := s _ _ h

theorem d_ladd (F : GFun K mg "_law_add" s_law_add ["first", "second"]) (DL : Def P w K mg base 2 "_law_low" ["num", "den"] spLow) : Def P w K mg base 3 "_law_add" ["first", "second"] (spP2 fun p q => p + q) := by
  refine F.ok c_law_add (fun vs H Q E h => ?_) (fun f cdv A outer s H vs Q E hr h => ?_)
  · obtain ⟨x, y, p, q, rfl, _⟩ := h
    rfl
  · obtain ⟨x, y, p, q, rfl, hx, hy, sp, sq', kQ⟩ := h
    refine ⟨_, pss_cons (ps_set (i := 2) c_law_add.nd rfl (.inl rfl) (pe_op op_add (pe_op op_mulW (pe_ix ix_tup (pv 0) pe_int (fun _ _ => rfl)) (pe_ix ix_tup (pv 1) pe_int (fun _ _ => rfl))) (pe_op op_mulW (pe_ix ix_tup (pv 1) pe_int (fun _ _ => rfl)) (pe_ix ix_tup (pv 0) pe_int (fun _ _ => rfl)))))
      (pss_one (ps_ret (pe_callD DL hr (takes_of rfl rfl rfl rfl) (pa_cons (pv 2) (pa_cons (pe_op op_mulW (pe_ix ix_tup (pv 0) pe_int (fun _ _ => rfl)) (pe_ix ix_tup (pv 1) pe_int (fun _ _ => rfl))) pa_nil))))), ?_⟩
    have g0 : ∀ {a : Option V} {H1 : Hp}, Same H H1 → Ge (tVar 0) [some (.ref x), some (.ref y), a] H1 (Pr p) := fun s => ge_pr rfl (hx.mono s)
    have g1 : ∀ {a : Option V} {H1 : Hp}, Same H H1 → Ge (tVar 1) [some (.ref x), some (.ref y), a] H1 (Pr q) := fun s => ge_pr rfl (hy.mono s)
    refine sq (s_set (ge_add (ge_mul (ge_p0 (g0 (Same.refl _))) (ge_p1 (g1 (Same.refl _))) sp.1 sq'.d (by decide) (by decide) (by decide)) (ge_mul (ge_p0 (g1 (Same.refl _))) (ge_p1 (g0 (Same.refl _))) sq'.1 sp.d (by decide) (by decide) (by decide))) fun v H1 s1 e => ?_)
    subst e
    refine s_ret (ge_low (ge_var rfl) (ge_mul (ge_p1 (g0 s1)) (ge_p1 (g1 s1)) sp.d sq'.d (by decide) (by decide) (by decide)) (Int.mul_ne_zero (den_ne p) (den_ne q)) (lt8 (imul_lt sp.d sq'.d) (by decide))) fun v H2 s2 h2 => ?_
    rw [add_is] at h2
    exact kQ v H2 (s1.trans s2) h2
theorem d_lmul (F : GFun K mg "_law_mul" s_law_mul ["first", "second"]) (DL : Def P w K mg base 2 "_law_low" ["num", "den"] spLow) : Def P w K mg base 3 "_law_mul" ["first", "second"] (spP2 fun p q => p * q) := by
  refine F.ok c_law_mul (fun vs H Q E h => ?_) (fun f cdv A outer s H vs Q E hr h => ?_)
  · obtain ⟨x, y, p, q, rfl, _⟩ := h
    rfl
  · obtain ⟨x, y, p, q, rfl, hx, hy, sp, sq', kQ⟩ := h
    refine ⟨_, pss_one (ps_ret (pe_callD DL hr (takes_of rfl rfl rfl rfl) (pa_cons (pe_op op_mulW (pe_ix ix_tup (pv 0) pe_int (fun _ _ => rfl)) (pe_ix ix_tup (pv 1) pe_int (fun _ _ => rfl))) (pa_cons (pe_op op_mulW (pe_ix ix_tup (pv 0) pe_int (fun _ _ => rfl)) (pe_ix ix_tup (pv 1) pe_int (fun _ _ => rfl))) pa_nil)))), ?_⟩
    have g0 : Ge (tVar 0) [some (.ref x), some (.ref y)] H (Pr p) := ge_pr rfl hx
    have g1 : Ge (tVar 1) [some (.ref x), some (.ref y)] H (Pr q) := ge_pr rfl hy
    refine s_ret (ge_low (ge_mul (ge_p0 g0) (ge_p0 g1) sp.1 sq'.1 (by decide) (by decide) (by decide)) (ge_mul (ge_p1 g0) (ge_p1 g1) sp.d sq'.d (by decide) (by decide) (by decide)) (Int.mul_ne_zero (den_ne p) (den_ne q)) (lt8 (imul_lt sp.d sq'.d) (by decide))) fun v H2 s2 h2 => ?_
    rw [mul_is] at h2
    exact kQ v H2 s2 h2
theorem ge_P2 {f : Rat → Rat → Rat} {E : L2.St → XK} {σ : L2.St} {ta tb : TE} {p q : Rat} (ha : Ge ta σ H (Pr p)) (hb : Ge tb σ H (Pr q)) (sp : Sm 3000 p) (sq : Sm 3000 q) : Ge (tCallS (spP2 f) E (tCons ta (tCons tb tNil))) σ H (Pr (f p q)) :=
  ge_call (ga2 ha hb (up_tup _)) fun vs H2 _ ⟨v, u, e, ⟨x, ex, hx⟩, ⟨y, ey, hy⟩⟩ Q k => ⟨x, y, p, q, by rw [e, ex, ey], hx, hy, sp, sq, fun v H' s h => k v H' s h⟩
/-! ### the floor of a quotient -/
theorem floor_divInt {n d : Int} (h : 0 < d) : n / d = (Rat.divInt n d).num / ((Rat.divInt n d).den : Int) := by
  have gp := gcd_pos (n := n) (d := d) (by omega)
  obtain ⟨l1, l2⟩ := low_is (n := n) h
  obtain ⟨a, ha⟩ : ((Nat.gcd n.natAbs d.natAbs : Nat) : Int) ∣ n := Int.ofNat_dvd_left.mpr (Nat.gcd_dvd_left _ _)
  obtain ⟨b, hb⟩ : ((Nat.gcd n.natAbs d.natAbs : Nat) : Int) ∣ d := Int.ofNat_dvd_left.mpr (Nat.gcd_dvd_right _ _)
  rw [← l1, ← l2]
  have g0 : (0 : Int) < ((Nat.gcd n.natAbs d.natAbs : Nat) : Int) := by omega
  clear l1 l2
  generalize ((Nat.gcd n.natAbs d.natAbs : Nat) : Int) = g at *
  have e1 : n / g = a := by rw [ha, Int.mul_ediv_cancel_left _ (by omega)]
  have e2 : d / g = b := by rw [hb, Int.mul_ediv_cancel_left _ (by omega)]
  rw [e1, e2]
  rw [ha, hb]
  exact Int.mul_ediv_mul_of_pos a b g0
def spLfl : Sp := fun vs H Q _ => ∃ x y p q, vs = [.ref x, .ref y] ∧ PrAt H x p ∧ PrAt H y q ∧ Sm 3000 p ∧ Sm 3000 q ∧ q ≠ 0 ∧ ∀ H', Same H H' → Q (.int (fdv p q)) H'
theorem d_lfloor (F : GFun K mg "_law_floor" s_law_floor ["first", "second"]) : Def P w K mg base 1 "_law_floor" ["first", "second"] spLfl := by
  refine F.ok c_law_floor (fun vs H Q E h => ?_) (fun f cdv A outer s H vs Q E hr h => ?_)
  · obtain ⟨x, y, p, q, rfl, _⟩ := h
    rfl
  · obtain ⟨x, y, p, q, rfl, hx, hy, sp, sq', q0, kQ⟩ := h
    refine ⟨_, pss_cons (ps_set (i := 2) c_law_floor.nd rfl (.inl rfl) (pe_op op_mulW (pe_ix ix_tup (pv 0) pe_int (fun _ _ => rfl)) (pe_ix ix_tup (pv 1) pe_int (fun _ _ => rfl)))) (pss_cons (ps_set (i := 3) c_law_floor.nd rfl (.inl rfl) (pe_op op_mulW (pe_ix ix_tup (pv 0) pe_int (fun _ _ => rfl)) (pe_ix ix_tup (pv 1) pe_int (fun _ _ => rfl))))
      (pss_cons (ps_if (pt_cmpR op_lt (pv 3) pe_int (nomark _)) (pss_cons (ps_set (i := 2) c_law_floor.nd rfl (.inl rfl) (pe_un un_neg (pv 2))) (pss_one (ps_set (i := 3) c_law_floor.nd rfl (.inl rfl) (pe_un un_neg (pv 3))))) pss_nil)
      (pss_one (ps_ret (pe_op op_fdivW (pv 2) (pv 3)))))), ?_⟩
    have g0 : ∀ {a b : Option V} {H1 : Hp}, Same H H1 → Ge (tVar 0) [some (.ref x), some (.ref y), a, b] H1 (Pr p) := fun s => ge_pr rfl (hx.mono s)
    have g1 : ∀ {a b : Option V} {H1 : Hp}, Same H H1 → Ge (tVar 1) [some (.ref x), some (.ref y), a, b] H1 (Pr q) := fun s => ge_pr rfl (hy.mono s)
    refine sq (s_set (ge_mul (ge_p0 (g0 (Same.refl _))) (ge_p1 (g1 (Same.refl _))) sp.1 sq'.d (by decide) (by decide) (by decide)) fun v H1 s1 e => sq (s_set (ge_mul (ge_p1 (g0 s1)) (ge_p0 (g1 s1)) sp.d sq'.1 (by decide) (by decide) (by decide)) fun v H2 s2 e2 => ?_))
    subst e
    subst e2
    have nq : q.num ≠ 0 := fun z => q0 (num_zero.mp z)
    have d0 : (p.den : Int) * q.num ≠ 0 := Int.mul_ne_zero (den_ne p) nq
    have ld : ((p.den : Int) * q.num).natAbs < 2 ^ 6000 := imul_lt sp.d sq'.1
    have fin : ∀ (n d : Int) (H3 : Hp), Same H H3 → 0 < d → d.natAbs < 2 ^ 6000 → Rat.divInt n d = p / q → tRet (tOp (rI CDivW fun i j => .int (i / j)) (tVar 2) (tVar 3)) { nx := fun _ H' => Q .non H', rt := Q } [some (.ref x), some (.ref y), some (.int n), some (.int d)] H3 := by
      intro n d H3 s3 hd hl he
      refine s_ret (ge_fdiv (ge_var rfl) (ge_var rfl) hd hl (by decide) (by decide)) fun v H4 s4 e4 => ?_
      rw [e4, floor_divInt hd, he]
      exact kQ H4 (s3.trans s4)
    refine sq (s_if (gt_test (ge_lt (ge_var rfl) ge_c)) (fun b H3 s3 => ?_) (fun b H3 s3 => ?_))
    · have hd := of_decide_eq_true b
      refine sq (s_set (ge_unN (ge_var rfl)) fun v4 H4 s4 e4 => s_set (ge_unN (ge_var rfl)) fun v5 H5 s5 e5 => ?_)
      subst e4
      subst e5
      exact fin _ _ H5 ((((s1.trans s2).trans s3).trans s4).trans s5) (by omega) (by rw [Int.natAbs_neg]; exact ld) (by rw [Rat.neg_divInt_neg, over_is])
    · have hd := of_decide_eq_false b
      exact fin _ _ H3 ((s1.trans s2).trans s3) (by omega) ld (over_is p q)
theorem ge_lfl {E : L2.St → XK} {σ : L2.St} {ta tb : TE} {p q : Rat} (ha : Ge ta σ H (Pr p)) (hb : Ge tb σ H (Pr q)) (sp : Sm 3000 p) (sq : Sm 3000 q) (q0 : q ≠ 0) : Ge (tCallS spLfl E (tCons ta (tCons tb tNil))) σ H (Is (.int (fdv p q))) :=
  ge_call (ga2 ha hb (up_tup _)) fun vs H2 _ ⟨v, u, e, ⟨x, ex, hx⟩, ⟨y, ey, hy⟩⟩ Q k => ⟨x, y, p, q, by rw [e, ex, ey], hx, hy, sp, sq, q0, fun H' s => k _ H' s rfl⟩
end
end Bp

namespace Bp
open PySem.Spec PySem PyProof.Rows
open L2 hiding St
section
variable {P : Program} {w : World} {K : PySem.W.Frag} {mg : Str → Option Value} {base : Heap} {C Z : Addr} {H : Hp} {Q : VK} {E : XK}
/-! ### drawn numbers -/
def spGreat (K : PySem.W.Frag) : Sp := fun vs H Q _ => ∃ a ns k, vs = [.ref a, .int k] ∧ Scr K H a ns ∧ 0 ≤ k ∧ k ≤ 900 ∧ ∀ g H', 0 ≤ g → g < 10 ^ 54 → Same H H' → Q (.int g) H'
def spNum (K : PySem.W.Frag) : Sp := fun vs H Q _ => ∃ a ns k, vs = [.ref a, .int k] ∧ Scr K H a ns ∧ 0 ≤ k ∧ k ≤ 200 ∧ ∀ n H', n.natAbs < 2 ^ 140 → Same H H' → Q (.int n) H'
def spDen (K : PySem.W.Frag) : Sp := fun vs H Q _ => ∃ a ns k, vs = [.ref a, .int k] ∧ Scr K H a ns ∧ 0 ≤ k ∧ k ≤ 200 ∧ ∀ n H', 0 < n → n.natAbs < 2 ^ 140 → Same H H' → Q (.int n) H'
/-- some int within bounds -/
abbrev IntIn (lo hi : Int) : VP := fun v _ => ∃ n, v = .int n ∧ lo ≤ n ∧ n < hi
theorem up_in (lo hi : Int) : Up (IntIn lo hi) := fun _ _ _ h _ => h
theorem Scr.mono {H H' : Hp} {a : Addr} {ns : List Int} (h : Scr K H a ns) (s : Same H H') : Scr K H' a ns := ⟨s.seq h.1, h.2⟩
theorem ge_cell {E : L2.St → XK} {σ : L2.St} {ta tb : TE} {a : Addr} {ns : List Int} {k : Int} (ha : Ge ta σ H (Is (.ref a))) (hb : Ge tb σ H (Is (.int k))) (hs : Scr K H a ns) (k0 : 0 ≤ k) (k1 : k ≤ 1000) : Ge (tCallS (spCell K) E (tCons ta (tCons tb tNil))) σ H (IntIn 0 (10 ^ 18)) :=
  ge_call (ga2 ha hb (Up.is _)) fun vs H2 s ⟨v, u, e, e1, e2⟩ Q q => ⟨a, ns, k, by rw [e, e1, e2], hs.mono s, k0, k1, fun c H' c0 c1 s' => q _ H' s' ⟨c, rfl, c0, c1⟩⟩
theorem ge_great {E : L2.St → XK} {σ : L2.St} {ta tb : TE} {a : Addr} {ns : List Int} {k : Int} (ha : Ge ta σ H (Is (.ref a))) (hb : Ge tb σ H (Is (.int k))) (hs : Scr K H a ns) (k0 : 0 ≤ k) (k1 : k ≤ 900) : Ge (tCallS (spGreat K) E (tCons ta (tCons tb tNil))) σ H (IntIn 0 (10 ^ 54)) :=
  ge_call (ga2 ha hb (Up.is _)) fun vs H2 s ⟨v, u, e, e1, e2⟩ Q q => ⟨a, ns, k, by rw [e, e1, e2], hs.mono s, k0, k1, fun c H' c0 c1 s' => q _ H' s' ⟨c, rfl, c0, c1⟩⟩
/-- an expression whose value is some int: the rest is shown for each -/
theorem ge_some {te : TE} {σ : L2.St} {lo hi : Int} {f : TE → TE} (h : Ge te σ H (IntIn lo hi)) {P' : VP} (k : ∀ n, lo ≤ n → n < hi → ∀ te', (∀ H1, Same H H1 → Ge te' σ H1 (Is (.int n))) → Ge (f te') σ H P') : True := trivial
theorem ge_intIn {σ : L2.St} {te : TE} {lo hi : Int} (h : Ge te σ H (IntIn lo hi)) : Ge (tCB (fun xs H Q => (∃ i, xs = [.int i] ∧ Q (.int i) H) ∨ ∃ k, xs = [.bl k] ∧ Q (.int (if k then 1 else 0)) H) (tCons te tNil)) σ H (IntIn lo hi) :=
  ge_callB (ga1 h (up_in _ _)) fun vs H1 _ ⟨v, e, n, e2, l, u⟩ Q q => .inl ⟨n, by rw [e, e2], q _ H1 (Same.refl _) ⟨n, rfl, l, u⟩⟩
theorem ge_modIn {σ : L2.St} {ta tb : TE} {lo hi n : Int} (ha : Ge ta σ H (IntIn lo hi)) (hb : Ge tb σ H (Is (.int n))) (h : 0 < n) : Ge (tOp (rI (fun _ j => 0 < j) fun i j => .int (i % j)) ta tb) σ H (IntIn 0 n) :=
  ge_two ha hb (up_in _ _) fun x y H1 _ ⟨m, ex, _, _⟩ ey Q q => ⟨m, n, ex, ey, h, q _ H1 (Same.refl _) ⟨_, rfl, Int.emod_nonneg _ (by omega), Int.emod_lt_of_pos _ h⟩⟩
theorem ge_subIn {σ : L2.St} {ta tb : TE} {lo hi n : Int} (ha : Ge ta σ H (IntIn lo hi)) (hb : Ge tb σ H (Is (.int n))) : Ge (tOp (rI0 fun i j => .int (i - j)) ta tb) σ H (IntIn (lo - n) (hi - n)) :=
  ge_two ha hb (up_in _ _) fun x y H1 _ ⟨m, ex, l, u⟩ ey Q q => ⟨m, n, ex, ey, q _ H1 (Same.refl _) ⟨_, rfl, by omega, by omega⟩⟩
theorem ge_addIn {σ : L2.St} {ta tb : TE} {lo hi n : Int} (ha : Ge ta σ H (IntIn lo hi)) (hb : Ge tb σ H (Is (.int n))) : Ge (tOp (rI0 fun i j => .int (i + j)) ta tb) σ H (IntIn (lo + n) (hi + n)) :=
  ge_two ha hb (up_in _ _) fun x y H1 _ ⟨m, ex, l, u⟩ ey Q q => ⟨m, n, ex, ey, q _ H1 (Same.refl _) ⟨_, rfl, by omega, by omega⟩⟩
theorem ge_addIn2 {σ : L2.St} {ta tb : TE} {lo hi n : Int} (ha : Ge ta σ H (Is (.int n))) (hb : Ge tb σ H (IntIn lo hi)) : Ge (tOp (rI0 fun i j => .int (i + j)) ta tb) σ H (IntIn (n + lo) (n + hi)) :=
  ge_two ha hb (Up.is _) fun x y H1 _ ex ⟨m, ey, l, u⟩ Q q => ⟨n, m, ex, ey, q _ H1 (Same.refl _) ⟨_, rfl, by omega, by omega⟩⟩

theorem d_great (B : BT mg) (F : GFun K mg "_law_great" s_law_great ["script", "k"]) (DC : Def P w K mg base 1 "_law_cell" ["script", "k"] (spCell K)) : Def P w K mg base 2 "_law_great" ["script", "k"] (spGreat K) := by
  refine F.ok c_law_great (fun vs H Q E h => ?_) (fun f cdv A outer s H vs Q E hr h => ?_)
  · obtain ⟨a, ns, k, rfl, _⟩ := h
    rfl
  · obtain ⟨a, ns, k, rfl, hs, k0, k1, kQ⟩ := h
    refine ⟨_, pss_cons (ps_set (i := 2) c_law_great.nd rfl (.inl rfl) pe_int)
      (pss_cons (ps_for (passes_of rfl) rfl (pi_range1 rfl B.range (pa_cons pe_int pa_nil)) (pg_name (i := 3) c_law_great.nd rfl (.inl rfl))
        (pss_one (ps_set (i := 2) c_law_great.nd rfl (.inl rfl) (pe_op op_add (pe_op op_mulW (pv 2) (pe_op op_pow pe_int pe_int)) (pe_callD DC hr (takes_of rfl rfl rfl rfl) (pa_cons (pv 0) (pa_cons (pe_op op_add (pv 1) (pv 3)) pa_nil)))))))
      (pss_one (ps_ret (pv 2)))), ?_⟩
    refine sq (s_set ge_c fun v H1 s1 e => sq ?_)
    subst e
    refine ⟨3, rfl, by decide, by decide, for_range (lo := 0) (n := 3) (fun i σ H' => ∃ (g : Int) (v : Option V), σ = [some (.ref a), some (.int k), some (.int g), v] ∧ 0 ≤ g ∧ g < 10 ^ (18 * i) ∧ Same H H')
      ⟨0, none, rfl, by decide, by decide, s1⟩ ?_ ?_⟩
    · rintro i σ H2 hi ⟨g, v, rfl, g0, g1, s2⟩
      have gl : g < 10 ^ 36 := Int.lt_of_lt_of_le g1 (by rcases (by omega : i = 0 ∨ i = 1 ∨ i = 2) with rfl | rfl | rfl <;> decide)
      refine s_set (ge_two (ge_mul (a := 130) (b := 70) (ge_var rfl) (ge_pow (n := 18) (by decide) (by decide)) (by omega) (by decide) (by decide) (by decide) (by decide)) (ge_cell (ge_var rfl) (ge_add (ge_var rfl) (ge_var rfl)) (hs.mono s2) (by omega) (by omega)) (Up.is _)
        (P := fun v _ => ∃ c : Int, v = .int (g * 10 ^ 18 + c) ∧ 0 ≤ c ∧ c < 10 ^ 18) fun x y H3 _ ex ⟨c, ey, c0, c1⟩ Q q => ⟨_, _, ex, ey, q _ H3 (Same.refl _) ⟨c, rfl, c0, c1⟩⟩) fun v3 H3 s3 ⟨c, e3, c0, c1⟩ => ?_
      subst e3
      refine ⟨g * 10 ^ 18 + c, some (.int (0 + (i : Int))), rfl, by omega, ?_, s2.trans s3⟩
      have e : (10 : Int) ^ (18 * (i + 1)) = 10 ^ (18 * i) * 10 ^ 18 := by rw [Nat.mul_succ, Int.pow_add]
      rw [e]
      have e2 : (g + 1) * 10 ^ 18 ≤ 10 ^ (18 * i) * 10 ^ 18 := Int.mul_le_mul_of_nonneg_right (by omega) (by decide)
      omega
    · rintro σ H2 ⟨g, v, rfl, g0, g1, s2⟩
      exact s_ret (ge_var rfl) fun v H3 s3 e => by rw [e]; exact kQ g H3 g0 g1 (s2.trans s3)
theorem d_numer (B : BT mg) (F : GFun K mg "_law_numerator" s_law_numerator ["script", "k"]) (DC : Def P w K mg base 1 "_law_cell" ["script", "k"] (spCell K)) (DG : Def P w K mg base 2 "_law_great" ["script", "k"] (spGreat K)) : Def P w K mg base 3 "_law_numerator" ["script", "k"] (spNum K) := by
  refine F.ok c_law_numerator (fun vs H Q E h => ?_) (fun f cdv A outer s H vs Q E hr h => ?_)
  · obtain ⟨a, ns, k, rfl, _⟩ := h
    rfl
  · obtain ⟨a, ns, k, rfl, hs, k0, k1, kQ⟩ := h
    refine ⟨_, pss_cons (ps_set (i := 2) c_law_numerator.nd rfl (.inl rfl) (pe_callD DC (hr.mono (by decide)) (takes_of rfl rfl rfl rfl) (pa_cons (pv 0) (pa_cons (pv 1) pa_nil))))
      (pss_cons (ps_if (pt_cmpR op_eq (pe_op op_mod (pe_callTy call_int1 (by rfl) B.int (by decide +kernel) (pa_cons (pe_op op_fdivW (pv 2) pe_int) pa_nil)) pe_int) pe_int (nomark _))
        (pss_one (ps_ret (pe_op op_sub (pe_op op_mod (pe_callTy call_int1 (by rfl) B.int (by decide +kernel) (pa_cons (pe_callD DG hr (takes_of rfl rfl rfl rfl) (pa_cons (pv 0) (pa_cons (pe_op op_add pe_int (pe_op op_mulW pe_int (pv 1))) pa_nil))) pa_nil)) (pe_op op_add (pe_op op_mulW pe_int (pe_op op_pow pe_int pe_int)) pe_int)) (pe_op op_pow pe_int pe_int)))) pss_nil)
      (pss_one (ps_ret (pe_op op_sub (pe_op op_mod (pe_callTy call_int1 (by rfl) B.int (by decide +kernel) (pa_cons (pv 2) pa_nil)) pe_int) pe_int)))), ?_⟩
    refine sq (s_set (ge_cell (ge_var rfl) (ge_var rfl) hs k0 (by omega)) fun v H1 s1 ⟨c, e, c0, c1⟩ => ?_)
    subst e
    refine sq (s_if (gt_test (ge_eq (ge_mod' (ge_intI (ge_fdiv (b := 10) (ge_var rfl) ge_c (by decide) (by decide) (by decide) (by decide))) ge_c (by decide)) ge_c rfl)) (fun b H2 s2 => ?_) (fun b H2 s2 => s_next ?_))
    · have gm : Ge (tOp (rI CMulW fun i j => .int (i * j)) (tC (.int 2)) (tOp (rI CPow fun i j => .int (i ^ j.toNat)) (tC (.int 10)) (tC (.int 40)))) [some (.ref a), some (.int k), some (.int c)] H2 (Is (.int (2 * 10 ^ 40))) := ge_mul (a := 10) (b := 140) ge_c (ge_pow (n := 40) (by decide) (by decide)) (by decide) (by decide) (by decide) (by decide) (by decide)
      refine s_ret (ge_subIn (ge_modIn (ge_intIn (ge_great (ge_var rfl) (ge_add ge_c (ge_mul (a := 10) (b := 20) ge_c (ge_var rfl) (by decide) (by omega) (by decide) (by decide) (by decide))) (hs.mono (s1.trans s2)) (by omega) (by omega))) (ge_add gm ge_c) (by decide)) (ge_pow (n := 40) (by decide) (by decide))) fun v H3 s3 ⟨n, e, l, u⟩ => ?_
      rw [e]
      exact kQ n H3 (by omega) ((s1.trans s2).trans s3)
    · refine s_ret (ge_sub (ge_mod' (ge_intI (ge_var rfl)) ge_c (by decide)) ge_c) fun v H3 s3 e => ?_
      rw [e]
      have h1 := Int.emod_nonneg c (by decide : (121 : Int) ≠ 0)
      have h2 := Int.emod_lt_of_pos c (by decide : (0 : Int) < 121)
      exact kQ _ H3 (Nat.lt_trans (by omega : _ < 2 ^ 8) (by decide)) ((s1.trans s2).trans s3)
theorem d_denom (B : BT mg) (F : GFun K mg "_law_denominator" s_law_denominator ["script", "k"]) (DC : Def P w K mg base 1 "_law_cell" ["script", "k"] (spCell K)) (DG : Def P w K mg base 2 "_law_great" ["script", "k"] (spGreat K)) : Def P w K mg base 3 "_law_denominator" ["script", "k"] (spDen K) := by
  refine F.ok c_law_denominator (fun vs H Q E h => ?_) (fun f cdv A outer s H vs Q E hr h => ?_)
  · obtain ⟨a, ns, k, rfl, _⟩ := h
    rfl
  · obtain ⟨a, ns, k, rfl, hs, k0, k1, kQ⟩ := h
    refine ⟨_, pss_cons (ps_set (i := 2) c_law_denominator.nd rfl (.inl rfl) (pe_callD DC (hr.mono (by decide)) (takes_of rfl rfl rfl rfl) (pa_cons (pv 0) (pa_cons (pv 1) pa_nil))))
      (pss_cons (ps_if (pt_cmpR op_eq (pe_op op_mod (pe_callTy call_int1 (by rfl) B.int (by decide +kernel) (pa_cons (pe_op op_fdivW (pv 2) pe_int) pa_nil)) pe_int) pe_int (nomark _))
        (pss_one (ps_ret (pe_op op_add (pe_op op_mod (pe_callTy call_int1 (by rfl) B.int (by decide +kernel) (pa_cons (pe_callD DG hr (takes_of rfl rfl rfl rfl) (pa_cons (pv 0) (pa_cons (pe_op op_add pe_int (pe_op op_mulW pe_int (pv 1))) pa_nil))) pa_nil)) (pe_op op_pow pe_int pe_int)) pe_int))) pss_nil)
      (pss_one (ps_ret (pe_op op_add (pe_op op_mod (pe_callTy call_int1 (by rfl) B.int (by decide +kernel) (pa_cons (pv 2) pa_nil)) pe_int) pe_int)))), ?_⟩
    refine sq (s_set (ge_cell (ge_var rfl) (ge_var rfl) hs k0 (by omega)) fun v H1 s1 ⟨c, e, c0, c1⟩ => ?_)
    subst e
    refine sq (s_if (gt_test (ge_eq (ge_mod' (ge_intI (ge_fdiv (b := 10) (ge_var rfl) ge_c (by decide) (by decide) (by decide) (by decide))) ge_c (by decide)) ge_c rfl)) (fun b H2 s2 => ?_) (fun b H2 s2 => s_next ?_))
    · refine s_ret (ge_addIn (ge_modIn (ge_intIn (ge_great (ge_var rfl) (ge_add ge_c (ge_mul (a := 10) (b := 20) ge_c (ge_var rfl) (by decide) (by omega) (by decide) (by decide) (by decide))) (hs.mono (s1.trans s2)) (by omega) (by omega))) (ge_pow (n := 40) (by decide) (by decide)) (by decide)) ge_c) fun v H3 s3 ⟨n, e, l, u⟩ => ?_
      rw [e]
      exact kQ n H3 (by omega) (by omega) ((s1.trans s2).trans s3)
    · refine s_ret (ge_add (ge_mod' (ge_intI (ge_var rfl)) ge_c (by decide)) ge_c) fun v H3 s3 e => ?_
      rw [e]
      have h1 := Int.emod_nonneg c (by decide : (12 : Int) ≠ 0)
      have h2 := Int.emod_lt_of_pos c (by decide : (0 : Int) < 12)
      exact kQ _ H3 (by omega) (Nat.lt_trans (by omega : _ < 2 ^ 8) (by decide)) ((s1.trans s2).trans s3)
/-! ### displays of known values -/
theorem ga_0 {σ : L2.St} : GeA tNil σ H (fun vs _ => vs = []) := ga_nil
theorem ga_is {σ : L2.St} {te : TE} {tr : TA} {v : V} {xs : List V} (h : Ge te σ H (Is v)) (hr : GeA tr σ H (fun vs _ => vs = xs)) : GeA (tCons te tr) σ H (fun vs _ => vs = v :: xs) := fun H1 s Q q =>
  h H1 s _ fun u H2 s2 e => hr H2 (s.trans s2) _ fun vs H3 s3 e3 => q _ H3 (s2.trans s3) (by rw [e, e3])
theorem ge_lst {σ : L2.St} {ta : TA} {xs : List V} (h : GeA ta σ H (fun vs _ => vs = xs)) (hl : xs.length ≤ 1000) : Ge (tLst ta) σ H (Lst xs) := fun H1 s Q q =>
  h H1 s _ fun vs H2 s2 e => ⟨by rw [e]; exact Nat.le_of_lt (small1000 hl), fun p hp => q _ _ (s2.trans (Same.new hp)) ⟨p, rfl, by rw [e]; exact upd_same⟩⟩
theorem ge_tupI {σ : L2.St} {ta : TA} {xs : List V} (h : GeA ta σ H (fun vs _ => vs = xs)) (hl : xs.length ≤ 1000) : Ge (tTup ta) σ H (Tup xs) := fun H1 s Q q =>
  h H1 s _ fun vs H2 s2 e => ⟨by rw [e]; exact Nat.le_of_lt (small1000 hl), fun p hp => q _ _ (s2.trans (Same.new hp)) ⟨p, rfl, by rw [e]; exact upd_same⟩⟩
/-! ### a Frac made of a pair -/
theorem six {m : Int} (h0 : 0 ≤ m) (h1 : m < 6) : ∃ f : Int, atI [V.int 1, .int 2, .int 3, .int (-1), .int (-2), .int (-3)] m = some (.int f) ∧ f ≠ 0 ∧ f.natAbs < 2 ^ 2 := by
  rcases (by omega : m = 0 ∨ m = 1 ∨ m = 2 ∨ m = 3 ∨ m = 4 ∨ m = 5) with rfl | rfl | rfl | rfl | rfl | rfl <;> exact ⟨_, rfl, by decide, by decide⟩
theorem twos {m : Int} (h0 : 0 ≤ m) (h1 : m < 2) : ∃ f : Int, atI [V.int 1, .int (-1)] m = some (.int f) ∧ f ≠ 0 ∧ f.natAbs < 2 ^ 2 := by
  rcases (by omega : m = 0 ∨ m = 1) with rfl | rfl <;> exact ⟨_, rfl, by decide, by decide⟩
def spMade (C : Addr) : Sp := fun vs H Q _ => ∃ x c r, vs = [.ref x, .int c] ∧ PrAt H x r ∧ Sm 3000 r ∧ Ret C H Q r
theorem ge_or {σ : L2.St} {t u : TT} {b c : Bool} (h : GeT t σ H b) (k : GeT u σ H c) : GeT (tOr t u) σ H (b || c) := gt_or h fun _ => k
theorem d_made (B : BT mg) (F : GFun K mg "_law_made" s_law_made ["value", "cell"]) (D : cI P w K mg base C Z []) : Def P w K mg base 3 "_law_made" ["value", "cell"] (spMade C) := by
  refine F.ok c_law_made (fun vs H Q E h => ?_) (fun f cdv A outer s H vs Q E hr h => ?_)
  · obtain ⟨x, c, r, rfl, _⟩ := h
    rfl
  · obtain ⟨x, c, r, rfl, hx, sr, kQ⟩ := h
    refine ⟨_, pss_cons (ps_set (i := 2) c_law_made.nd rfl (.inl rfl) (pe_ix ix_list (pe_lst (pa_cons pe_int (pa_cons pe_int (pa_cons pe_int (pa_cons (pe_un un_neg pe_int) (pa_cons (pe_un un_neg pe_int) (pa_cons (pe_un un_neg pe_int) pa_nil)))))))
        (pe_op op_mod (pe_callTy call_int1 (by rfl) B.int (by decide +kernel) (pa_cons (pv 1) pa_nil)) pe_int) (fun _ _ => rfl)))
      (pss_cons (ps_if (PW.pt (pw_or (pt_cmpR op_gt (pe_callB call_abs (by rfl) B.abs (by decide +kernel) (pa_cons (pe_ix ix_tup (pv 0) pe_int (fun _ _ => rfl)) pa_nil)) (pe_op op_pow pe_int pe_int) (nomark _))
          (pw_or1 (pt_cmpR op_gt (pe_ix ix_tup (pv 0) pe_int (fun _ _ => rfl)) (pe_op op_pow pe_int pe_int) (nomark _)))))
        (pss_one (ps_set (i := 2) c_law_made.nd rfl (.inl rfl) (pe_ix ix_list (pe_lst (pa_cons pe_int (pa_cons (pe_un un_neg pe_int) pa_nil))) (pe_op op_mod (pe_callTy call_int1 (by rfl) B.int (by decide +kernel) (pa_cons (pv 1) pa_nil)) pe_int) (fun _ _ => rfl)))) pss_nil)
      (pss_one (ps_ret (pe_makeD D (hr.mono (by decide)) (takes_of rfl rfl rfl rfl) (pa_cons (pe_op op_mulW (pe_ix ix_tup (pv 0) pe_int (fun _ _ => rfl)) (pv 2)) (pa_cons (pe_op op_mulW (pe_ix ix_tup (pv 0) pe_int (fun _ _ => rfl)) (pv 2)) pa_nil)))))), ?_⟩
    have m6 := six (Int.emod_nonneg c (by decide : (6 : Int) ≠ 0)) (Int.emod_lt_of_pos c (by decide))
    have m2 := twos (Int.emod_nonneg c (by decide : (2 : Int) ≠ 0)) (Int.emod_lt_of_pos c (by decide))
    obtain ⟨f1, a1, n1, l1⟩ := m6
    obtain ⟨f2, a2, n2, l2⟩ := m2
    refine sq (s_set (ge_ixL (ge_lst (ga_is ge_c (ga_is ge_c (ga_is ge_c (ga_is (ge_unN ge_c) (ga_is (ge_unN ge_c) (ga_is (ge_unN ge_c) ga_0)))))) (by decide)) (ge_mod' (ge_intI (ge_var rfl)) ge_c (by decide)) a1) fun v H1 s1 e => ?_)
    subst e
    have fin : ∀ (g : Int) (H2 : Hp), Same H H2 → g ≠ 0 → g.natAbs < 2 ^ 2 → tRet (tMakeS C (spInit C Z) [] (WE fun cls d x H => E cls d H) (tCons (tOp (rI CMulW fun i j => .int (i * j)) (tOp (rIxT K) (tVar 0) (tC (.int 0))) (tVar 2))
        (tCons (tOp (rI CMulW fun i j => .int (i * j)) (tOp (rIxT K) (tVar 0) (tC (.int 1))) (tVar 2)) tNil))) { nx := fun _ H' => Q .non H', rt := Q } [some (.ref x), some (.int c), some (.int g)] H2 := by
      intro g H2 s2 g0 gl
      have p0 : Ge (tVar 0) [some (.ref x), some (.int c), some (.int g)] H2 (Pr r) := ge_pr rfl (hx.mono s2)
      refine s_mk (ge_mul (ge_p0 p0) (ge_var rfl) sr.1 gl (by decide) (by decide) (by decide)) (ge_mul (ge_p1 p0) (ge_var rfl) sr.d gl (by decide) (by decide) (by decide)) (lt8 (imul_lt sr.d gl) (by decide)) (fun z => absurd z (Int.mul_ne_zero (den_ne r) g0)) fun _ => ?_
      show Ret C H2 Q _
      rw [scale_is g0, divInt_self]
      exact kQ.mono s2
    have p0 : Ge (tVar 0) [some (.ref x), some (.int c), some (.int f1)] H1 (Pr r) := ge_pr rfl (hx.mono s1)
    refine sq (s_if (ge_or (gt_test (ge_gt (ge_abs (ge_p0 p0)) (ge_pow (n := 11) (by decide) (by decide)))) (gt_test (ge_gt (ge_p1 p0) (ge_pow (n := 11) (by decide) (by decide))))) (fun _ H2 s2 => ?_) (fun _ H2 s2 => ?_))
    · refine s_set (ge_ixL (ge_lst (ga_is ge_c (ga_is (ge_unN ge_c) ga_0)) (by decide)) (ge_mod' (ge_intI (ge_var rfl)) ge_c (by decide)) a2) fun v H3 s3 e => ?_
      subst e
      exact fin f2 H3 ((s1.trans s2).trans s3) n2 l2
    · exact fin f1 H2 (s1.trans s2) n1 l1
/-! ### what is told is what is due -/
def spInt : Sp := fun vs H Q _ => ∃ n : Int, vs = [.int n, .int n] ∧ ∀ H', Same H H' → Q (.bl true) H'
def spTru : Sp := fun vs H Q _ => ∃ b : Bool, vs = [.bl b, .bl b] ∧ ∀ H', Same H H' → Q (.bl true) H'
theorem ge_isiB {T : String} {σ : L2.St} {te : TE} {v : V} {t : Value} {b : Bool} (h : Ge te σ H (Is v)) (ht : ∀ H, TyOf K H v t) (k : PySem.W.kitOne K t (.type T) = some b) : Ge (tCB (rIsi K) (tCons te (tCons (tC (.ty T)) tNil))) σ H (Is (.bl b)) := fun H1 s Q q =>
  h H1 s _ fun u H2 s2 e => ⟨v, .ty T, t, _, b, by rw [e], .ty T, .base (ht H2), k, q _ H2 s2 rfl⟩
theorem d_integer (B : BT mg) (F : GFun K mg "_law_integer" s_law_integer ["told", "due"]) : Def P w K mg base 1 "_law_integer" ["told", "due"] spInt := by
  refine F.ok c_law_integer (fun vs H Q E h => ?_) (fun f cdv A outer s H vs Q E hr h => ?_)
  · obtain ⟨n, rfl, _⟩ := h
    rfl
  · obtain ⟨n, rfl, kQ⟩ := h
    refine ⟨_, pss_one (ps_ret (pe_and (pe_callB call_isi (by rfl) B.isi (by decide +kernel) (pa_cons (pv 0) (pa_cons (pe_bltn (v := .ty "int") rfl B.int (by decide +kernel) rfl) pa_nil)))
      (pe_and (pe_not (pe_callB call_isi (by rfl) B.isi (by decide +kernel) (pa_cons (pv 0) (pa_cons (pe_bltn (v := .ty "bool") rfl B.bool (by decide +kernel) rfl) pa_nil)))) (pe_one (pe_cmpR op_eq (pv 0) (pv 1) (nomark _)))))), ?_⟩
    refine s_ret (ge_andV (ge_isiB (ge_var rfl) (fun _ => .int n) kit_same) fun _ => ge_andV (ge_notV (ge_isiB (ge_var rfl) (fun _ => .int n) (kit_ty (r := false) (by decide +kernel)))) fun _ => ge_eq (ge_var rfl) (ge_var rfl) rfl) fun v H1 s1 e => ?_
    rw [e, decide_eq_true rfl]
    exact kQ H1 s1
theorem d_truth (B : BT mg) (F : GFun K mg "_law_truth" s_law_truth ["told", "due"]) : Def P w K mg base 1 "_law_truth" ["told", "due"] spTru := by
  refine F.ok c_law_truth (fun vs H Q E h => ?_) (fun f cdv A outer s H vs Q E hr h => ?_)
  · obtain ⟨n, rfl, _⟩ := h
    rfl
  · obtain ⟨b, rfl, kQ⟩ := h
    refine ⟨_, pss_one (ps_ret (pe_and (pe_callB call_isi (by rfl) B.isi (by decide +kernel) (pa_cons (pv 0) (pa_cons (pe_bltn (v := .ty "bool") rfl B.bool (by decide +kernel) rfl) pa_nil))) (pe_one (pe_cmpR op_eq (pv 0) (pv 1) (nomark _))))), ?_⟩
    refine s_ret (ge_andV (ge_isiB (ge_var rfl) (fun _ => .bl b) kit_same) fun _ => ge_eq (ge_var rfl) (ge_var rfl) rfl) fun v H1 s1 e => ?_
    rw [e, decide_eq_true rfl]
    exact kQ H1 s1
theorem ge_int {E : L2.St → XK} {σ : L2.St} {ta tb : TE} {n : Int} (ha : Ge ta σ H (Is (.int n))) (hb : Ge tb σ H (Is (.int n))) : Ge (tCallS spInt E (tCons ta (tCons tb tNil))) σ H (Is (.bl true)) :=
  ge_call (ga2 ha hb (Up.is _)) fun vs H2 _ ⟨v, u, e, e1, e2⟩ Q q => ⟨n, by rw [e, e1, e2], fun H' s => q _ H' s rfl⟩
theorem ge_tru {E : L2.St → XK} {σ : L2.St} {ta tb : TE} {b : Bool} (ha : Ge ta σ H (Is (.bl b))) (hb : Ge tb σ H (Is (.bl b))) : Ge (tCallS spTru E (tCons ta (tCons tb tNil))) σ H (Is (.bl true)) :=
  ge_call (ga2 ha hb (Up.is _)) fun vs H2 _ ⟨v, u, e, e1, e2⟩ Q q => ⟨b, by rw [e, e1, e2], fun H' s => q _ H' s rfl⟩
def spIs (C : Addr) : Sp := fun vs H Q _ => ∃ x y r, vs = [.ref x, .ref y] ∧ FrAt C H x r ∧ PrAt H y r ∧ ∀ H', Same H H' → Q (.bl true) H'
theorem d_is (T : FrTxt K mg C Z) (B : BT mg) (F : GFun K mg "_law_is" s_law_is ["told", "due"]) (DI : Def P w K mg base 1 "_law_integer" ["told", "due"] spInt) : Def P w K mg base 2 "_law_is" ["told", "due"] (spIs C) := by
  refine F.ok c_law_is (fun vs H Q E h => ?_) (fun f cdv A outer s H vs Q E hr h => ?_)
  · obtain ⟨x, y, r, rfl, _⟩ := h
    rfl
  · obtain ⟨x, y, r, rfl, hx, hy, kQ⟩ := h
    refine ⟨_, pss_cons (ps_if (pt_not (pt_val (pe_callB call_isi (by rfl) B.isi (by decide +kernel) (pa_cons (pv 0) (pa_cons (pe_glob (v := .ref C) rfl T.gC rfl) pa_nil))))) (pss_one (ps_ret pe_bl)) pss_nil)
      (pss_one (ps_ret (pe_and (pe_callD DI hr (takes_of rfl rfl rfl rfl) (pa_cons (pe_fld (pv 0) rfl) (pa_cons (pe_ix ix_tup (pv 1) pe_int (fun _ _ => rfl)) pa_nil))) (pe_one (pe_callD DI hr (takes_of rfl rfl rfl rfl) (pa_cons (pe_fld (pv 0) rfl) (pa_cons (pe_ix ix_tup (pv 1) pe_int (fun _ _ => rfl)) pa_nil))))))), ?_⟩
    have gi : Ge (tCB (rIsi K) (tCons (tVar 0) (tCons (tC (.ref C)) tNil))) [some (.ref x), some (.ref y)] H (Is (.bl true)) := fun H1 s Q q => by
      obtain ⟨dx, hp⟩ := hx.mono s
      exact ⟨_, rfl, _, .ref C, .ref C, _, true, rfl, .own C, T.ty hp, kit_same, q _ H1 (Same.refl _) rfl⟩
    refine sq (s_no (gt_not (gt_b gi)) fun H1 s1 => ?_)
    have g0 : Ge (tVar 0) [some (.ref x), some (.ref y)] H1 (Fr C r) := ge_self rfl (hx.mono s1)
    have g1 : Ge (tVar 1) [some (.ref x), some (.ref y)] H1 (Pr r) := ge_pr rfl (hy.mono s1)
    exact s_ret (ge_andV (ge_int (ge_num T g0) (ge_p0 g1)) fun _ => ge_int (ge_den T g0) (ge_p1 g1)) fun v H2 s2 e => by rw [e]; exact kQ H2 (s1.trans s2)
theorem ge_is {E : L2.St → XK} {σ : L2.St} {ta tb : TE} {r r' : Rat} (ha : Ge ta σ H (Fr C r)) (hb : Ge tb σ H (Pr r')) (e : r = r') : Ge (tCallS (spIs C) E (tCons ta (tCons tb tNil))) σ H (Is (.bl true)) := by
  subst e
  exact ge_call (ga2 ha hb (up_fr C r)) fun vs H2 _ ⟨v, u, e, ⟨x, ex, fx⟩, ⟨y, ey, py⟩⟩ Q q => ⟨x, y, r, by rw [e, ex, ey], fx, py, fun H' s => q _ H' s rfl⟩
end
end Bp

namespace Bp
open PySem.Spec PySem PyProof.Rows
open L2 hiding St
section
variable {P : Program} {w : World} {K : PySem.W.Frag} {mg : Str → Option Value} {base : Heap} {C Z BE BN : Addr} {H : Hp} {Q : VK} {E : XK}
/-! ### operators with the Frac on either side -/
theorem opDR {X : Cx} {op : Operator} {idl : String} {k k' : Nat} {ps ps' : List Str} {sp sp' : Sp} {W : WX} {nm nr : Str} (T : FrTxt X.K X.mg C Z) (O : OpT X.K C op.info.2) (L : IntT op.info.2 idl) (D : MDef X.prog X.w X.K X.mg X.base k' C nm ps' sp')
    (DR : MDef X.prog X.w X.K X.mg X.base k C nr ps sp) (hr : Room k X.A) (tk : Takes X W) (hnm : nm = PySem.dunder op.info.2 := by rfl) (hnr : nr = dunderR op.info.2 := by rfl) : OpS X (binaryOp op) (rRef C sp (WE W)) := by
  obtain ⟨f, fd, hm, b, F⟩ := D.ex
  obtain ⟨g, gd, hg, bg, G⟩ := DR.ex
  subst hnm
  subst hnr
  exact op_ref L ⟨T.self, hm.at_, hm.fn, O.hr, O.h1, O.h2, T.subI, T.subC⟩ hg.at_ hg.fn G hr bg fun σ => passAt tk σ
abbrev rNum (C : Addr) (s1 s2 : Sp) (E : L2.St → XK) : R2S := fun σ x y H Q => rOwn C s1 E σ x y H Q ∨ rRef C s2 E σ x y H Q
theorem op_num {X : Cx} {op : Operator} {idl : String} {k k' n : Nat} {ps ps' : List Str} {sp sp' : Sp} {W : WX} {nm nr : Str} (T : FrTxt X.K X.mg C Z) (O : OpT X.K C op.info.2) (L : IntT op.info.2 idl) (D : MDef X.prog X.w X.K X.mg X.base k' C nm ps' sp')
    (DR : MDef X.prog X.w X.K X.mg X.base k C nr ps sp) (hr : Room n X.A) (tk : Takes X W) (h1 : k ≤ n) (h2 : k' ≤ n) (hnm : nm = PySem.dunder op.info.2 := by rfl) (hnr : nr = dunderR op.info.2 := by rfl) : OpS X (binaryOp op) (rNum C sp' sp (WE W)) :=
  OpS.or (opD T O D (hr.mono h2) tk hnm) (opDR T O L D DR (hr.mono h1) tk hnm hnr)
/-- two numbers, one of them a Frac -/
structure Two (C : Addr) (H : Hp) (x y : V) (p q : Rat) : Prop where
  l : NumV C H x p
  r : NumV C H y q
  one : (∃ a, x = .ref a) ∨ ∃ b, y = .ref b
theorem Two.mono {H' : Hp} {x y : V} {p q : Rat} (h : Two C H x y p q) (s : Same H H') : Two C H' x y p q := ⟨h.l.mono s, h.r.mono s, h.one⟩
theorem Two.swap {x y : V} {p q : Rat} (h : Two C H x y p q) : Two C H y x q p := ⟨h.r, h.l, h.one.symm⟩
theorem NumV.frac {v : V} {a : Addr} {r : Rat} (h : NumV C H v r) (e : v = .ref a) : FrAt C H a r := by
  rcases h with ⟨n, rfl, _⟩ | ⟨p, rfl, f⟩
  · cases e
  · cases e
    exact f
/-- the ways of such a pair: the left one is a Frac, or it is an int and the right one is a Frac -/
theorem Two.cases {x y : V} {p q : Rat} {M : Prop} (h : Two C H x y p q) (h1 : ∀ a, x = .ref a → FrAt C H a p → M) (h2 : ∀ (n : Int) b, x = .int n → p = (n : Rat) → y = .ref b → FrAt C H b q → M) : M := by
  rcases h.l with ⟨n, rfl, e⟩ | ⟨a, rfl, f⟩
  · rcases h.one with ⟨a, z⟩ | ⟨b, rfl⟩
    · cases z
    · exact h2 n b rfl e rfl (h.r.frac rfl)
  · exact h1 a rfl f
theorem ge_vv {σ : L2.St} {i j : Nat} {x y : V} {r : R2S} {P : VP} (hi : σ[i]? = some (some x)) (hj : σ[j]? = some (some y)) (h : ∀ H1, Same H H1 → ∀ Q : VK, (∀ v H2, Same H1 H2 → P v H2 → Q v H2) → r σ x y H1 Q) : Ge (tOpS r (tVar i) (tVar j)) σ H P :=
  fun H1 s Q q => ⟨x, hi, y, hj, h H1 s Q q⟩
theorem rz_vv {σ : L2.St} {i j : Nat} {x y : V} {r : R2S} (hi : σ[i]? = some (some x)) (hj : σ[j]? = some (some y)) (h : ∀ H1, Same H H1 → ∀ Q : VK, r σ x y H1 Q) : Rz (tOpS r (tVar i) (tVar j)) σ H :=
  fun H1 s Q => ⟨x, hi, y, hj, h H1 s Q⟩
theorem ge_n2 {f g : Rat → Rat → Rat} {E : L2.St → XK} {σ : L2.St} {i j : Nat} {x y : V} {p q : Rat} (hi : σ[i]? = some (some x)) (hj : σ[j]? = some (some y)) (h : Two C H x y p q) (sp : Sm 3000 p) (sq : Sm 3000 q) (hg : g q p = f p q) :
    Ge (tOpS (rNum C (spBin C f 3000) (spBin C g 3000) E) (tVar i) (tVar j)) σ H (Fr C (f p q)) := ge_vv hi hj fun H1 s Q k => by
  have h' := h.mono s
  refine h'.cases (fun a ea fa => .inl ?_) (fun n b en ep eb fb => .inr ?_)
  · subst ea
    exact ⟨fa.isI, h'.r.arg, a, y, p, q, rfl, fa, h'.r, sp, sq, ret_of k⟩
  · subst en
    subst eb
    exact ⟨⟨n, rfl⟩, fb.isI, b, _, q, p, rfl, fb, h'.l, sq, sp, by rw [hg]; exact ret_of k⟩
theorem ge_f2 {E : L2.St → XK} {σ : L2.St} {i j : Nat} {x y : V} {p q : Rat} (hi : σ[i]? = some (some x)) (hj : σ[j]? = some (some y)) (h : Two C H x y p q) (sp : Sm 3000 p) (sq : Sm 3000 q) (q0 : q ≠ 0) :
    Ge (tOpS (rNum C (spFd C Z 3000) (spRfd C Z 3000) E) (tVar i) (tVar j)) σ H (Is (.int (fdv p q))) := ge_vv hi hj fun H1 s Q k => by
  have h' := h.mono s
  refine h'.cases (fun a ea fa => .inl ?_) (fun n b en ep eb fb => .inr ?_)
  · subst ea
    exact ⟨fa.isI, h'.r.arg, a, y, p, q, rfl, fa, h'.r, sp, sq, fun z => absurd z q0, fun _ H' s' => k _ H' s' rfl⟩
  · subst en
    subst eb
    subst ep
    exact ⟨⟨n, rfl⟩, fb.isI, b, n, q, rfl, fb, sq, sp, fun z => absurd z q0, fun _ H' s' => k _ H' s' rfl⟩
theorem ge_m2 {E : L2.St → XK} {σ : L2.St} {i j : Nat} {x y : V} {p q : Rat} (hi : σ[i]? = some (some x)) (hj : σ[j]? = some (some y)) (h : Two C H x y p q) (sp : Sm 900 p) (sq : Sm 900 q) (q0 : q ≠ 0) :
    Ge (tOpS (rNum C (spMod C Z 900) (spRmod C Z 900) E) (tVar i) (tVar j)) σ H (Fr C (rst p q)) := ge_vv hi hj fun H1 s Q k => by
  have h' := h.mono s
  refine h'.cases (fun a ea fa => .inl ?_) (fun n b en ep eb fb => .inr ?_)
  · subst ea
    exact ⟨fa.isI, h'.r.arg, a, y, p, q, rfl, fa, h'.r, sp, sq, fun z => absurd z q0, fun _ => ret_of k⟩
  · subst en
    subst eb
    subst ep
    exact ⟨⟨n, rfl⟩, fb.isI, b, n, q, rfl, fb, sq, sp, fun z => absurd z q0, fun _ => ret_of k⟩
theorem rz_f2 {E : L2.St → XK} {σ : L2.St} {i j : Nat} {x y : V} {p : Rat} (hi : σ[i]? = some (some x)) (hj : σ[j]? = some (some y)) (h : Two C H x y p 0) (sp : Sm 3000 p) (k : ZE Z H (E σ)) :
    Rz (tOpS (rNum C (spFd C Z 3000) (spRfd C Z 3000) E) (tVar i) (tVar j)) σ H := rz_vv hi hj fun H1 s Q => by
  have h' := h.mono s
  have s0 : Sm 3000 (0 : Rat) := ⟨Nat.pow_pos (by decide), Nat.lt_of_lt_of_le (by decide : (1 : Nat) < 2 ^ 1) (pow_le (by decide))⟩
  refine h'.cases (fun a ea fa => .inl ?_) (fun n b en ep eb fb => .inr ?_)
  · subst ea
    exact ⟨fa.isI, h'.r.arg, a, y, p, 0, rfl, fa, h'.r, sp, s0, fun _ => k.mono s, fun z => absurd rfl z⟩
  · subst en
    subst eb
    subst ep
    exact ⟨⟨n, rfl⟩, fb.isI, b, n, 0, rfl, fb, s0, sp, fun _ => k.mono s, fun z => absurd rfl z⟩
theorem rz_m2 {E : L2.St → XK} {σ : L2.St} {i j : Nat} {x y : V} {p : Rat} (hi : σ[i]? = some (some x)) (hj : σ[j]? = some (some y)) (h : Two C H x y p 0) (sp : Sm 900 p) (k : ZE Z H (E σ)) :
    Rz (tOpS (rNum C (spMod C Z 900) (spRmod C Z 900) E) (tVar i) (tVar j)) σ H := rz_vv hi hj fun H1 s Q => by
  have h' := h.mono s
  have s0 : Sm 900 (0 : Rat) := ⟨Nat.pow_pos (by decide), Nat.lt_of_lt_of_le (by decide : (1 : Nat) < 2 ^ 1) (pow_le (by decide))⟩
  refine h'.cases (fun a ea fa => .inl ?_) (fun n b en ep eb fb => .inr ?_)
  · subst ea
    exact ⟨fa.isI, h'.r.arg, a, y, p, 0, rfl, fa, h'.r, sp, s0, fun _ => k.mono s, fun z => absurd rfl z⟩
  · subst en
    subst eb
    subst ep
    exact ⟨⟨n, rfl⟩, fb.isI, b, n, 0, rfl, fb, s0, sp, fun _ => k.mono s, fun z => absurd rfl z⟩
/-! ### what is refused -/
structure ErT (K : PySem.W.Frag) (mg : Str → Option Value) (Z BE BN : Addr) : Prop where
  gE : mg "BestError" = some (.ref BE)
  gN : mg "BadNumber" = some (.ref BN)
  ec : ExcC K Z
  exm : PySem.W.exmOne K (.ref Z) (.ref BE) = some true
  kN : PySem.W.kitOne K (.ref Z) (.ref BN) = some false
  kV : PySem.W.kitOne K (.ref Z) (.type "ValueError") = some true
def rIsX (K : PySem.W.Frag) (D a : Addr) (cls : Value) (d : Option Addr) : List V → Hp → VK → Prop := fun xs H Q => cls = .ref D ∧ d = none ∧ rIsE K D a xs H Q
theorem call_isX {X : Cx} {a D : Addr} {oe : Obj} {cls : Value} {d : Option Addr} {pn : List (Addr × Obj)} (Cx : ExcC X.K D) (hz : Zc cls d oe) (hf : ∃ vs, oe.data = .fields vs) : CallR (X.suite a ((a, oe) :: pn)) (.builtin "isinstance") (rIsX X.K D a cls d) := by
  intro pins s σ H xs us Q I r h
  obtain ⟨rfl, rfl, h⟩ := h
  exact call_isE Cx hz hf pins s σ H xs us Q I r h
theorem ge_isX {D a : Addr} {σ : L2.St} {i : Nat} {tb : TE} {c : V} {cv : Value} {b : Bool} (hi : σ[i]? = some (some (.ref a))) (hb : Ge tb σ H (Is c)) (hc : ∀ u, RelV c u → u = cv) (hk : PySem.W.kitOne K (.ref D) cv = some b) :
    Ge (tCB (rIsX K D a (.ref D) none) (tCons (tVar i) (tCons tb tNil))) σ H (Is (.bl b)) := fun H1 s Q q =>
  ⟨_, hi, hb H1 s _ fun v H2 s2 e => by subst e; exact ⟨rfl, rfl, _, cv, b, rfl, hc, hk, q _ H2 s2 rfl⟩⟩
abbrev tSuite (K : PySem.W.Frag) (Z BN a : Addr) (cls : Value) (d : Option Addr) : TS :=
  tSeq (tIfS (tOr (tNot (tB (tCB (rIsX K Z a cls d) (tCons (tVar 4) (tCons (tC (.ref Z)) tNil))))) (tB (tCB (rIsX K Z a cls d) (tCons (tVar 4) (tCons (tC (.ref BN)) tNil))))) (tRet (tC (.bl false))) tNext)
    (tRet (tAndV (tCB (rIsX K Z a cls d) (tCons (tVar 4) (tCons (tC (.ty "ValueError")) tNil))) (tOp (fun x y H Q => y = .non ∧ Q (.bl (decide (x = .non))) H) (tVar 3) (tC .non))))
/-- the ways in which the division is asked for -/
def spRef (C : Addr) : Sp := fun vs H Q _ => ∃ x y n, vs = [x, y, .int n] ∧
  (((n = 0 ∨ n = 1) ∧ ∃ p, Two C H x y p 0 ∧ Sm 900 p) ∨ (n = 2 ∧ ∃ a p, x = .ref a ∧ FrAt C H a p ∧ NumV C H y 0 ∧ Sm 900 p) ∨ (n = 3 ∧ ∃ m : Int, x = .int m ∧ y = .int 0)) ∧ ∀ H', Same H H' → Q (.bl true) H'

/-- the defs of Frac that the law asks -/
structure FD (P : Program) (w : World) (K : PySem.W.Frag) (mg : Str → Option Value) (base : Heap) (C Z : Addr) : Prop where
  i2 : cI P w K mg base C Z []
  i1 : cI P w K mg base C Z [.int 1]
  i0 : cI P w K mg base C Z [.int 0, .int 1]
  over : MDef P w K mg base 4 C "over" ["self", "other"] (spDiv C Z 3000)
  add : MDef P w K mg base 4 C "__add__" ["self", "other"] (spBin C (fun p q => p + q) 3000)
  radd : MDef P w K mg base 5 C "__radd__" ["self", "other"] (spBin C (fun p q => p + q) 3000)
  sub : MDef P w K mg base 4 C "__sub__" ["self", "other"] (spBin C (fun p q => p - q) 3000)
  rsub : MDef P w K mg base 5 C "__rsub__" ["self", "other"] (spBin C (fun p q => -p + q) 3000)
  mul : MDef P w K mg base 4 C "__mul__" ["self", "other"] (spBin C (fun p q => p * q) 3000)
  rmul : MDef P w K mg base 5 C "__rmul__" ["self", "other"] (spBin C (fun p q => p * q) 3000)
  fdiv : MDef P w K mg base 5 C "__floordiv__" ["self", "other"] (spFd C Z 3000)
  rfdiv : MDef P w K mg base 6 C "__rfloordiv__" ["self", "other"] (spRfd C Z 3000)
  mod : MDef P w K mg base 6 C "__mod__" ["self", "other"] (spMod C Z 900)
  rmod : MDef P w K mg base 7 C "__rmod__" ["self", "other"] (spRmod C Z 900)
  pow : MDef P w K mg base 3 C "__pow__" ["self", "other"] (spPow C)
  eq : MDef P w K mg base 4 C "__eq__" ["self", "other"] (spCmp C (fun p q => decide (p = q)) 3000)
  eqN : NDef P w K mg base 1 C "__eq__" ["self", "other"] (preNo C)
  ne : MDef P w K mg base 5 C "__ne__" ["self", "other"] (spNe C 3000)
  lt : MDef P w K mg base 5 C "__lt__" ["self", "other"] (spCmp C (fun p q => decide (p < q)) 3000)
  le : MDef P w K mg base 5 C "__le__" ["self", "other"] (spCmp C (fun p q => decide (p ≤ q)) 3000)
  gt : MDef P w K mg base 5 C "__gt__" ["self", "other"] (spCmp C (fun p q => decide (q < p)) 3000)
  ge : MDef P w K mg base 5 C "__ge__" ["self", "other"] (spCmp C (fun p q => decide (q ≤ p)) 3000)
  neg : MDef P w K mg base 3 C "__neg__" ["self"] (spUn C (fun p => -p) 3000)
  abs : MDef P w K mg base 3 C "__abs__" ["self"] (spUn C (fun p => Rat.divInt (if p.num < 0 then -p.num else p.num) p.den) 3000)
  floor : MDef P w K mg base 1 C "floor" ["self"] (spVal C (fun p => .int (p.num / (p.den : Int))) 8000)
  ceil : MDef P w K mg base 1 C "ceiling" ["self"] (spVal C (fun p => .int (-(-p.num / (p.den : Int)))) 8000)
  bool : MDef P w K mg base 1 C "__bool__" ["self"] (spVal C (fun p => .bl (p.num != 0)) 8000)
  whole : PDef P w K mg base 1 C "is_whole" (spVal C (fun p => .bl (decide (V.int (p.den : Int) = .int 1))) 8000)
  oadd : OpT K C "add"
  osub : OpT K C "sub"
  omul : OpT K C "mul"
  ofdiv : OpT K C "floordiv"
  omod : OpT K C "mod"
  opow : OpT K C "pow"
theorem d_refused (T : FrTxt K mg C Z) (B : BT mg) (R : ErT K mg Z BE BN) (D : FD P w K mg base C Z) (F : GFun K mg "_law_refused" s_law_refused ["left", "right", "way"]) : Def P w K mg base 8 "_law_refused" ["left", "right", "way"] (spRef C) := by
  refine F.ok c_law_refused (fun vs H Q E h => ?_) (fun f cdv A outer s H vs Q E hr h => ?_)
  · obtain ⟨x, y, n, rfl, _⟩ := h
    rfl
  · obtain ⟨x, y, n, rfl, hh, kQ⟩ := h
    refine ⟨_, pss_cons (ps_set (i := 3) c_law_refused.nd rfl (.inl rfl) pe_non)
      (pss_cons (ps_try_as (i := 4) (c := .ref BE) (ts := fun a cls d => tSuite K Z BN a cls d) (Wout := fun _ _ _ _ => False)
        (tb := fun W => tIfS (tTest (tOp rEq (tVar 2) (tC (.int 0)))) (tAsg (tOpS (rNum C (spFd C Z 3000) (spRfd C Z 3000) (WE W)) (tVar 0) (tVar 1)) (gName 3))
          (tIfS (tTest (tOp rEq (tVar 2) (tC (.int 1)))) (tAsg (tOpS (rNum C (spMod C Z 900) (spRmod C Z 900) (WE W)) (tVar 0) (tVar 1)) (gName 3))
          (tIfS (tTest (tOp rEq (tVar 2) (tC (.int 2)))) (tAsg (tMethS C "over" (spDiv C Z 3000) (WE W) (tVar 0) (tCons (tVar 1) tNil)) (gName 3))
            (tAsg (tMakeS C (spInit C Z) [] (WE W) (tCons (tVar 0) (tCons (tVar 1) tNil))) (gName 3)))))
        rfl rfl c_law_refused.nd rfl rfl ⟨rfl, by decide, .inl R.gE⟩ takes0
        (fun W pn xe tk _ => pss_one (ps_if (pt_cmpR op_eq (pv 2) pe_int (nomark _)) (pss_one (ps_set (i := 3) c_law_refused.nd rfl (.inl rfl) (pe_opS (op_num T D.ofdiv int_floordiv D.fdiv D.rfdiv hr tk (by decide) (by decide)) (pv 0) (pv 1))))
          (pss_one (ps_if (pt_cmpR op_eq (pv 2) pe_int (nomark _)) (pss_one (ps_set (i := 3) c_law_refused.nd rfl (.inl rfl) (pe_opS (op_num T D.omod int_mod D.mod D.rmod hr tk (by decide) (by decide)) (pv 0) (pv 1))))
          (pss_one (ps_if (pt_cmpR op_eq (pv 2) pe_int (nomark _)) (pss_one (ps_set (i := 3) c_law_refused.nd rfl (.inl rfl) (pe_methD D.over (hr.mono (by decide)) tk T.cl (pv 0) (pa_cons (pv 1) pa_nil))))
            (pss_one (ps_set (i := 3) c_law_refused.nd rfl (.inl rfl) (pe_makeD D.i2 (hr.mono (by decide)) tk (pa_cons (pv 0) (pa_cons (pv 1) pa_nil)))))))))))
        (fun a oe cls d pn hz hf => pss_cons (ps_if (PW.pt (pw_or (pt_not (pt_val (pe_callB (call_isX R.ec hz hf) (by rfl) B.isi (by decide +kernel) (pa_cons (pv 4) (pa_cons (pe_glob (v := .ref Z) rfl T.gZ rfl) pa_nil)))))
            (pw_or1 (pt_val (pe_callB (call_isX R.ec hz hf) (by rfl) B.isi (by decide +kernel) (pa_cons (pv 4) (pa_cons (pe_glob (v := .ref BN) rfl R.gN rfl) pa_nil))))))) (pss_one (ps_ret pe_bl)) pss_nil)
          (pss_one (ps_ret (pe_and (pe_callB (call_isX R.ec hz hf) (by rfl) B.isi (by decide +kernel) (pa_cons (pv 4) (pa_cons (pe_bltn (v := .ty "ValueError") rfl B.valueError (by decide +kernel) rfl) pa_nil))) (pe_one (pe_cmpR op_isN (pv 3) pe_non (nomark _))))))))
      (pss_one (ps_ret pe_bl))), ?_⟩
    refine sq (s_set ge_c fun v H1 s1 e => sq ?_)
    subst e
    -- what the clause wants: the suite tells True
    have wish : ∀ D : Ends, D.rt = Q → ZE Z H1 (WE (wAs K (.ref BE) 4 (fun a cls d => tSuite K Z BN a cls d) (fun _ _ _ _ => False) D) [some x, some y, some (.int n), some .non, none]) := by
      rintro D' hD H2 s2
      refine ⟨true, R.exm, fun _ a ha => ?_, fun z => nomatch z⟩
      refine sq (s_no (gt_or (b := false) (gt_not (b := true) (gt_b (ge_isX (c := .ref Z) (cv := .ref Z) rfl ge_c (fun u hu => hu) kit_same))) fun _ => gt_b (ge_isX (c := .ref BN) (cv := .ref BN) rfl ge_c (fun u hu => hu) R.kN)) fun H3 s3 => ?_)
      refine s_ret (ge_andV (b := true) (ge_isX (c := .ty "ValueError") (cv := .type "ValueError") rfl ge_c (fun u hu => hu) R.kV) fun _ => (ge_two (P := Is (.bl true)) (ge_var rfl) ge_c (Up.is _) fun x y H4 _ ex ey Q q => ⟨ey, by rw [ex]; exact q _ H4 (Same.refl _) rfl⟩)) fun v H4 s4 e => ?_
      rw [e]
      show D'.rt _ _
      rw [hD]
      exact kQ H4 (((s1.trans s2).trans s3).trans s4)
    rcases hh with ⟨hn, p, tw, sp⟩ | ⟨rfl, a, p, rfl, fa, ny, sp⟩ | ⟨rfl, m, rfl, rfl⟩
    · rcases hn with rfl | rfl
      · exact s_yes (gt_test (ge_eq (x := .int 0) (y := .int 0) (ge_var rfl) ge_c rfl)) fun H2 s2 => s_setZ (rz_f2 rfl rfl (tw.mono (s1.trans s2)) (sp.mono (by decide)) ((wish _ (by rfl)).mono s2))
      · exact s_no (gt_test (ge_eq (x := .int 1) (y := .int 0) (ge_var rfl) ge_c rfl)) fun H2 s2 => s_yes (gt_test (ge_eq (x := .int 1) (y := .int 1) (ge_var rfl) ge_c rfl)) fun H3 s3 => s_setZ (rz_m2 rfl rfl (tw.mono ((s1.trans s2).trans s3)) sp ((wish _ (by rfl)).mono (s2.trans s3)))
    · refine s_no (gt_test (ge_eq (x := .int 2) (y := .int 0) (ge_var rfl) ge_c rfl)) fun H2 s2 => s_no (gt_test (ge_eq (x := .int 2) (y := .int 1) (ge_var rfl) ge_c rfl)) fun H3 s3 => s_yes (gt_test (ge_eq (x := .int 2) (y := .int 2) (ge_var rfl) ge_c rfl)) fun H4 s4 => ?_
      have s14 := ((s1.trans s2).trans s3).trans s4
      have s0 : Sm 3000 (0 : Rat) := ⟨Nat.pow_pos (by decide), Nat.lt_of_lt_of_le (by decide : (1 : Nat) < 2 ^ 1) (pow_le (by decide))⟩
      exact s_setZ (rz_div (ge_self rfl (fa.mono s14)) (ge_numv rfl (ny.mono s14)) (sp.mono (by decide)) s0 rfl ((wish _ (by rfl)).mono ((s2.trans s3).trans s4)))
    · refine s_no (gt_test (ge_eq (x := .int 3) (y := .int 0) (ge_var rfl) ge_c rfl)) fun H2 s2 => s_no (gt_test (ge_eq (x := .int 3) (y := .int 1) (ge_var rfl) ge_c rfl)) fun H3 s3 => s_no (gt_test (ge_eq (x := .int 3) (y := .int 2) (ge_var rfl) ge_c rfl)) fun H4 s4 => s_setZ fun H5 s5 Q' => ?_
      exact ⟨_, rfl, _, rfl, mk_read (Nat.pow_pos (by decide)) (fun _ => (wish _ (by rfl)).mono (((s2.trans s3).trans s4).trans s5)) fun z => absurd rfl z⟩
end
end Bp

namespace Bp
open PySem.Spec PySem PyProof.Rows
open L2 hiding St
section
variable {P : Program} {w : World} {K : PySem.W.Frag} {mg : Str → Option Value} {base : Heap} {C Z BE BN : Addr} {H : Hp} {Q : VK} {E : XK}
/-! ### the law's defs in readings -/
theorem ge_pairN {σ : L2.St} {ta : TE} {q : Rat} (h : Ge ta σ H (Pr q)) : Ge (tTup (tCons (tUn (rU fun i => .int (-i)) (tOp (rIxT K) ta (tC (.int 0)))) (tCons (tOp (rIxT K) ta (tC (.int 1))) tNil))) σ H (Pr (-q)) := by
  have z := ge_pair (ge_unN (ge_p0 (K := K) h)) (ge_p1 (K := K) h)
  exact z
theorem mod_is (p q : Rat) : rst p q = p + ((-fdv p q : Int) : Rat) * q := by
  unfold rst
  rw [Rat.sub_eq_add_neg, Rat.intCast_neg, Rat.neg_mul, Rat.mul_comm]
def spOps (C : Addr) : Sp := fun vs H Q _ => ∃ x y a b p q, vs = [x, y, .ref a, .ref b] ∧ Two C H x y p q ∧ PrAt H a p ∧ PrAt H b q ∧ Sm 300 p ∧ Sm 300 q ∧ ∀ H', Same H H' → Q (.bl true) H'
abbrev lIs (P : Program) (w : World) (K : PySem.W.Frag) (mg : Str → Option Value) (base : Heap) (C : Addr) : Prop := Def P w K mg base 2 "_law_is" ["told", "due"] (spIs C)
abbrev lAdd (P : Program) (w : World) (K : PySem.W.Frag) (mg : Str → Option Value) (base : Heap) : Prop := Def P w K mg base 3 "_law_add" ["first", "second"] (spP2 fun p q => p + q)
abbrev lMul (P : Program) (w : World) (K : PySem.W.Frag) (mg : Str → Option Value) (base : Heap) : Prop := Def P w K mg base 3 "_law_mul" ["first", "second"] (spP2 fun p q => p * q)
abbrev lFl (P : Program) (w : World) (K : PySem.W.Frag) (mg : Str → Option Value) (base : Heap) : Prop := Def P w K mg base 1 "_law_floor" ["first", "second"] spLfl
abbrev lLow (P : Program) (w : World) (K : PySem.W.Frag) (mg : Str → Option Value) (base : Heap) : Prop := Def P w K mg base 2 "_law_low" ["num", "den"] spLow
abbrev lRef (P : Program) (w : World) (K : PySem.W.Frag) (mg : Str → Option Value) (base : Heap) (C : Addr) : Prop := Def P w K mg base 8 "_law_refused" ["left", "right", "way"] (spRef C)
abbrev lInt (P : Program) (w : World) (K : PySem.W.Frag) (mg : Str → Option Value) (base : Heap) : Prop := Def P w K mg base 1 "_law_integer" ["told", "due"] spInt
abbrev lTru (P : Program) (w : World) (K : PySem.W.Frag) (mg : Str → Option Value) (base : Heap) : Prop := Def P w K mg base 1 "_law_truth" ["told", "due"] spTru
theorem ge_ref {E : L2.St → XK} {σ : L2.St} {i j : Nat} {x y : V} {n : Int} {tn : TE} (hi : σ[i]? = some (some x)) (hj : σ[j]? = some (some y)) (hn : Ge tn σ H (Is (.int n)))
    (h : ∀ H1, Same H H1 → (((n = 0 ∨ n = 1) ∧ ∃ p, Two C H1 x y p 0 ∧ Sm 900 p) ∨ (n = 2 ∧ ∃ a p, x = .ref a ∧ FrAt C H1 a p ∧ NumV C H1 y 0 ∧ Sm 900 p) ∨ (n = 3 ∧ ∃ m : Int, x = .int m ∧ y = .int 0))) :
    Ge (tCallS (spRef C) E (tCons (tVar i) (tCons (tVar j) (tCons tn tNil)))) σ H (Is (.bl true)) :=
  ge_call (ga3 (ge_var hi) (ge_var hj) hn (Up.is _) (Up.is _)) fun vs H2 s ⟨v, u, z, e, e1, e2, e3⟩ Q q => ⟨x, y, n, by rw [e, e1, e2, e3], h H2 s, fun H' s' => q _ H' s' rfl⟩
theorem s_true {σ : L2.St} {te : TE} {D : Ends} {Q : VK} (h : Ge te σ H (Is (.bl true))) (hD : D.rt = Q) (k : ∀ H', Same H H' → Q (.bl true) H') : tRet te D σ H := s_ret h fun v H1 s e => by rw [e, hD]; exact k H1 s
theorem t_true {σ : L2.St} {te : TE} (h : Ge te σ H (Is (.bl true))) : GeT (tNot (tB te)) σ H false := gt_not (gt_b h)

theorem d_operators (T : FrTxt K mg C Z) (D : FD P w K mg base C Z) (DS : lIs P w K mg base C) (DA : lAdd P w K mg base) (DM : lMul P w K mg base) (DF : lFl P w K mg base) (DR : lRef P w K mg base C) (DI : lInt P w K mg base) (F : GFun K mg "_law_operators" s_law_operators ["left", "right", "first", "second"]) :
    Def P w K mg base 9 "_law_operators" ["left", "right", "first", "second"] (spOps C) := by
  refine F.ok c_law_operators (fun vs H Q E h => ?_) (fun f cdv A outer s H vs Q E hr h => ?_)
  · obtain ⟨x, y, a, b, p, q, rfl, _⟩ := h
    rfl
  · obtain ⟨x, y, a, b, p, q, rfl, tw, ha, hb, sp, sq', kQ⟩ := h
    refine ⟨_, pss_cons (ps_if (pt_not (pt_val (pe_callD DS (hr.mono (by decide)) (takes_of rfl rfl rfl rfl) (pa_cons (pe_opS (op_num T D.oadd int_add D.add D.radd (n := 8) (hr.mono (by decide)) (takes_of rfl rfl rfl rfl) (by decide) (by decide)) (pv 0) (pv 1)) (pa_cons (pe_callD DA (hr.mono (by decide)) (takes_of rfl rfl rfl rfl) (pa_cons (pv 2) (pa_cons (pv 3) pa_nil))) pa_nil))))) (pss_one (ps_ret pe_bl)) pss_nil)
      (pss_cons (ps_if (pt_not (pt_val (pe_callD DS (hr.mono (by decide)) (takes_of rfl rfl rfl rfl) (pa_cons (pe_opS (op_num T D.osub int_sub D.sub D.rsub (n := 8) (hr.mono (by decide)) (takes_of rfl rfl rfl rfl) (by decide) (by decide)) (pv 0) (pv 1)) (pa_cons (pe_callD DA (hr.mono (by decide)) (takes_of rfl rfl rfl rfl) (pa_cons (pv 2) (pa_cons (pe_tup (pa_cons (pe_un un_neg (pe_ix ix_tup (pv 3) pe_int (fun _ _ => rfl))) (pa_cons (pe_ix ix_tup (pv 3) pe_int (fun _ _ => rfl)) pa_nil))) pa_nil))) pa_nil))))) (pss_one (ps_ret pe_bl)) pss_nil)
      (pss_cons (ps_if (pt_not (pt_val (pe_callD DS (hr.mono (by decide)) (takes_of rfl rfl rfl rfl) (pa_cons (pe_opS (op_num T D.omul int_mul D.mul D.rmul (n := 8) (hr.mono (by decide)) (takes_of rfl rfl rfl rfl) (by decide) (by decide)) (pv 0) (pv 1)) (pa_cons (pe_callD DM (hr.mono (by decide)) (takes_of rfl rfl rfl rfl) (pa_cons (pv 2) (pa_cons (pv 3) pa_nil))) pa_nil))))) (pss_one (ps_ret pe_bl)) pss_nil)
      (pss_cons (ps_if (pt_cmpR op_eq (pe_ix ix_tup (pv 3) pe_int (fun _ _ => rfl)) pe_int (nomark _)) (pss_one (ps_ret (pe_and (pe_callD DR (hr.mono (by decide)) (takes_of rfl rfl rfl rfl) (pa_cons (pv 0) (pa_cons (pv 1) (pa_cons pe_int pa_nil)))) (pe_one (pe_callD DR (hr.mono (by decide)) (takes_of rfl rfl rfl rfl) (pa_cons (pv 0) (pa_cons (pv 1) (pa_cons pe_int pa_nil)))))))) pss_nil)
      (pss_cons (ps_set (i := 4) c_law_operators.nd rfl (.inl rfl) (pe_callD DF (hr.mono (by decide)) (takes_of rfl rfl rfl rfl) (pa_cons (pv 2) (pa_cons (pv 3) pa_nil))))
      (pss_cons (ps_if (pt_not (pt_val (pe_callD DI (hr.mono (by decide)) (takes_of rfl rfl rfl rfl) (pa_cons (pe_opS (op_num T D.ofdiv int_floordiv D.fdiv D.rfdiv (n := 8) (hr.mono (by decide)) (takes_of rfl rfl rfl rfl) (by decide) (by decide)) (pv 0) (pv 1)) (pa_cons (pv 4) pa_nil))))) (pss_one (ps_ret pe_bl)) pss_nil)
      (pss_one (ps_ret (pe_callD DS (hr.mono (by decide)) (takes_of rfl rfl rfl rfl) (pa_cons (pe_opS (op_num T D.omod int_mod D.mod D.rmod (n := 8) (hr.mono (by decide)) (takes_of rfl rfl rfl rfl) (by decide) (by decide)) (pv 0) (pv 1)) (pa_cons (pe_callD DA (hr.mono (by decide)) (takes_of rfl rfl rfl rfl) (pa_cons (pv 2) (pa_cons (pe_callD DM (hr.mono (by decide)) (takes_of rfl rfl rfl rfl) (pa_cons (pe_tup (pa_cons (pe_un un_neg (pv 4)) (pa_cons pe_int pa_nil))) (pa_cons (pv 3) pa_nil))) pa_nil))) pa_nil)))))))))), ?_⟩
    have p3 : Sm 3000 p := sp.mono (by decide)
    have q3 : Sm 3000 q := sq'.mono (by decide)
    have g2 : ∀ {t : Option V} {H1 : Hp}, Same H H1 → Ge (tVar 2) [some x, some y, some (.ref a), some (.ref b), t] H1 (Pr p) := fun s => ge_pr rfl (ha.mono s)
    have g3 : ∀ {t : Option V} {H1 : Hp}, Same H H1 → Ge (tVar 3) [some x, some y, some (.ref a), some (.ref b), t] H1 (Pr q) := fun s => ge_pr rfl (hb.mono s)
    refine sq (s_no (t_true (ge_is (ge_n2 rfl rfl tw p3 q3 (Rat.add_comm q p)) (ge_P2 (g2 (Same.refl _)) (g3 (Same.refl _)) p3 q3) rfl)) fun H1 s1 => ?_)
    refine sq (s_no (t_true (ge_is (ge_n2 rfl rfl (tw.mono s1) p3 q3 (rsub_is q p)) (ge_P2 (g2 s1) (ge_pairN (g3 s1)) p3 q3.neg) (Rat.sub_eq_add_neg p q))) fun H2 s2' => ?_)
    have s2 := s1.trans s2'
    refine sq (s_no (t_true (ge_is (ge_n2 rfl rfl (tw.mono s2) p3 q3 (Rat.mul_comm q p)) (ge_P2 (g2 s2) (g3 s2) p3 q3) rfl)) fun H3 s3' => ?_)
    have s3 := s2.trans s3'
    refine sq (s_if (gt_test (ge_eq (ge_p0 (g3 s3)) ge_c rfl)) (fun e H4 s4' => ?_) (fun e H4 s4' => s_next ?_))
    · have s4 := s3.trans s4'
      have q0 : q = 0 := num_zero.mp (vint.mp (of_decide_eq_true e))
      subst q0
      exact s_true (ge_andV (ge_ref rfl rfl ge_c fun H5 s5 => .inl ⟨.inl rfl, p, tw.mono (s4.trans s5), sp.mono (by decide)⟩) fun _ => ge_ref rfl rfl ge_c fun H5 s5 => .inl ⟨.inr rfl, p, tw.mono (s4.trans s5), sp.mono (by decide)⟩) rfl fun H5 s5 => kQ H5 (s4.trans s5)
    · have s4 := s3.trans s4'
      have q0 : q ≠ 0 := fun z => of_decide_eq_false e (by rw [num_zero.mpr z])
      refine sq (s_set (ge_lfl (g2 s4) (g3 s4) p3 q3 q0) fun v5 H5 s5' e5 => ?_)
      subst e5
      have s5 := s4.trans s5'
      refine sq (s_no (t_true (ge_int (ge_f2 (Z := Z) rfl rfl (tw.mono s5) p3 q3 q0) (ge_var rfl))) fun H6 s6' => ?_)
      have s6 := s5.trans s6'
      have st := fdv_lt sp sq' q0
      have sm1 : Sm 3000 ((-fdv p q : Int) : Rat) := sm_int (Nat.lt_of_lt_of_le (by rw [Int.natAbs_neg]; exact st) (pow_le (by decide))) (by decide)
      have sm2 : Sm 3000 (((-fdv p q : Int) : Rat) * q) := (sm_mul (a := 601) (sm_int (by rw [Int.natAbs_neg]; exact st) (by decide)) sq').mono (by decide)
      exact s_true (ge_is (ge_m2 (Z := Z) rfl rfl (tw.mono s6) (sp.mono (by decide)) (sq'.mono (by decide)) q0) (ge_P2 (g2 s6) (ge_P2 (p := ((-fdv p q : Int) : Rat)) (ge_pair (ge_unN (ge_var rfl)) ge_c) (g3 s6) sm1 q3) p3 sm2) (mod_is p q)) rfl fun H7 s7 => kQ H7 (s6.trans s7)
def spOvr (C : Addr) : Sp := fun vs H Q _ => ∃ x y a b p q, vs = [.ref x, y, .ref a, .ref b] ∧ FrAt C H x p ∧ NumV C H y q ∧ PrAt H a p ∧ PrAt H b q ∧ Sm 300 p ∧ Sm 300 q ∧ ∀ H', Same H H' → Q (.bl true) H'
theorem d_lover (T : FrTxt K mg C Z) (D : FD P w K mg base C Z) (DS : lIs P w K mg base C) (DL : lLow P w K mg base) (DR : lRef P w K mg base C) (F : GFun K mg "_law_over" s_law_over ["left", "right", "first", "second"]) : Def P w K mg base 9 "_law_over" ["left", "right", "first", "second"] (spOvr C) := by
  refine F.ok c_law_over (fun vs H Q E h => ?_) (fun f cdv A outer s H vs Q E hr h => ?_)
  · obtain ⟨x, y, a, b, p, q, rfl, _⟩ := h
    rfl
  · obtain ⟨x, y, a, b, p, q, rfl, fx, ny, ha, hb, sp, sq', kQ⟩ := h
    refine ⟨_, pss_cons (ps_if (pt_cmpR op_eq (pe_ix ix_tup (pv 3) pe_int (fun _ _ => rfl)) pe_int (nomark _)) (pss_one (ps_ret (pe_callD DR (hr.mono (by decide)) (takes_of rfl rfl rfl rfl) (pa_cons (pv 0) (pa_cons (pv 1) (pa_cons pe_int pa_nil)))))) pss_nil)
      (pss_cons (ps_set (i := 4) c_law_over.nd rfl (.inl rfl) (pe_callD DL (hr.mono (by decide)) (takes_of rfl rfl rfl rfl) (pa_cons (pe_op op_mulW (pe_ix ix_tup (pv 2) pe_int (fun _ _ => rfl)) (pe_ix ix_tup (pv 3) pe_int (fun _ _ => rfl))) (pa_cons (pe_op op_mulW (pe_ix ix_tup (pv 2) pe_int (fun _ _ => rfl)) (pe_ix ix_tup (pv 3) pe_int (fun _ _ => rfl))) pa_nil))))
      (pss_one (ps_ret (pe_callD DS (hr.mono (by decide)) (takes_of rfl rfl rfl rfl) (pa_cons (pe_methD D.over (hr.mono (by decide)) (takes_of rfl rfl rfl rfl) T.cl (pv 0) (pa_cons (pv 1) pa_nil)) (pa_cons (pv 4) pa_nil)))))), ?_⟩
    have g2 : ∀ {t : Option V} {H1 : Hp}, Same H H1 → Ge (tVar 2) [some (.ref x), some y, some (.ref a), some (.ref b), t] H1 (Pr p) := fun s => ge_pr rfl (ha.mono s)
    have g3 : ∀ {t : Option V} {H1 : Hp}, Same H H1 → Ge (tVar 3) [some (.ref x), some y, some (.ref a), some (.ref b), t] H1 (Pr q) := fun s => ge_pr rfl (hb.mono s)
    refine sq (s_if (gt_test (ge_eq (ge_p0 (g3 (Same.refl _))) ge_c rfl)) (fun e H4 s4 => ?_) (fun e H4 s4 => s_next ?_))
    · have q0 : q = 0 := num_zero.mp (vint.mp (of_decide_eq_true e))
      subst q0
      exact s_true (ge_ref rfl rfl ge_c fun H5 s5 => .inr (.inl ⟨rfl, x, p, rfl, fx.mono (s4.trans s5), ny.mono (s4.trans s5), sp.mono (by decide)⟩)) rfl fun H5 s5 => kQ H5 (s4.trans s5)
    · have q0 : q ≠ 0 := fun z => of_decide_eq_false e (by rw [num_zero.mpr z])
      have nq : q.num ≠ 0 := fun z => q0 (num_zero.mp z)
      refine sq (s_set (ge_low (ge_mul (ge_p0 (g2 s4)) (ge_p1 (g3 s4)) sp.1 sq'.d (by decide) (by decide) (by decide)) (ge_mul (ge_p1 (g2 s4)) (ge_p0 (g3 s4)) sp.d sq'.1 (by decide) (by decide) (by decide)) (Int.mul_ne_zero (den_ne p) nq) (lt8 (imul_lt sp.d sq'.1) (by decide))) fun v5 H5 s5' ⟨t, e5, ht⟩ => ?_)
      subst e5
      rw [over_is] at ht
      have s5 := s4.trans s5'
      exact s_true (ge_is (ge_div (Z := Z) (ge_self rfl (fx.mono s5)) (ge_numv rfl (ny.mono s5)) (sp.mono (by decide)) (sq'.mono (by decide)) q0) (ge_pr rfl ht) rfl) rfl fun H6 s6 => kQ H6 (s5.trans s6)
/-! ### the six comparisons -/
abbrev rCmp (C : Addr) (s1 s2 : Sp) (E : L2.St → XK) : R2S := fun σ x y H Q => rOwn C s1 E σ x y H Q ∨ rRef C s2 E σ x y H Q
theorem cmp_num {X : Cx} {op : CmpOp} {idl : String} {k k' n : Nat} {ps ps' : List Str} {sp sp' : Sp} {W : WX} {nm nr : Str} (T : FrTxt X.K X.mg C Z) (L : IntC op idl) (D : MDef X.prog X.w X.K X.mg X.base k' C nm ps' sp')
    (DR : MDef X.prog X.w X.K X.mg X.base k C nr ps sp) (hr : Room n X.A) (tk : Takes X W) (h1 : k ≤ n) (h2 : k' ≤ n) (hop : ∀ a b, compareOp op a b = richCompare op a b := by intro _ _; rfl) (hnm : nm = (cmpInfo op).2.1 := by rfl) (hnr : nr = (cmpInfo op).2.2 := by rfl) :
    OpS X (compareOp op) (rCmp C sp' sp (WE W)) := OpS.or (cmpD T D (hr.mono h2) tk hop hnm) (cmpDR T L DR (hr.mono h1) tk hop hnr)
theorem ge_c2 {f g : Rat → Rat → Bool} {E : L2.St → XK} {σ : L2.St} {i j : Nat} {x y : V} {p q : Rat} (hi : σ[i]? = some (some x)) (hj : σ[j]? = some (some y)) (h : Two C H x y p q) (sp : Sm 3000 p) (sq : Sm 3000 q) (hg : g q p = f p q) :
    Ge (tOpS (rCmp C (spCmp C f 3000) (spCmp C g 3000) E) (tVar i) (tVar j)) σ H (Is (.bl (f p q))) := ge_vv hi hj fun H1 s Q k => by
  have h' := h.mono s
  refine h'.cases (fun a ea fa => .inl ?_) (fun n b en ep eb fb => .inr ?_)
  · subst ea
    exact ⟨fa.isI, h'.r.arg, a, y, p, q, rfl, fa, h'.r, sp, sq, fun H' s' => k _ H' s' rfl⟩
  · subst en
    subst eb
    exact ⟨⟨n, rfl⟩, fb.isI, b, _, q, p, rfl, fb, h'.l, sq, sp, fun H' s' => k _ H' s' (by rw [hg])⟩
theorem ge_ne2 {E : L2.St → XK} {σ : L2.St} {i j : Nat} {x y : V} {p q : Rat} (hi : σ[i]? = some (some x)) (hj : σ[j]? = some (some y)) (h : Two C H x y p q) (sp : Sm 3000 p) (sq : Sm 3000 q) :
    Ge (tOpS (rCmp C (spNe C 3000) (spNe C 3000) E) (tVar i) (tVar j)) σ H (Is (.bl (!decide (p = q)))) := ge_vv hi hj fun H1 s Q k => by
  have h' := h.mono s
  refine h'.cases (fun a ea fa => .inl ?_) (fun n b en ep eb fb => .inr ?_)
  · subst ea
    exact ⟨fa.isI, h'.r.arg, a, y, p, rfl, fa, .inl ⟨q, h'.r, sp, sq, fun H' s' => k _ H' s' rfl⟩⟩
  · subst en
    subst eb
    refine ⟨⟨n, rfl⟩, fb.isI, b, _, q, rfl, fb, .inl ⟨p, h'.l, sq, sp, fun H' s' => k _ H' s' ?_⟩⟩
    show V.bl _ = V.bl _
    rw [decide_eq_decide.mpr (show q = p ↔ p = q from ⟨Eq.symm, Eq.symm⟩)]
theorem ge_cat {σ : L2.St} {ta tb : TE} {xs ys : List V} (ha : Ge ta σ H (Lst xs)) (hb : Ge tb σ H (Lst ys)) (hl : xs.length + ys.length ≤ 1000) : Ge (tOp rCat ta tb) σ H (Lst (xs ++ ys)) :=
  ge_two ha hb (up_lst xs) fun x y H1 _ ⟨a, ex, h1⟩ ⟨b, ey, h2⟩ Q q => ⟨a, b, xs, ys, ex, ey, h1, h2, Nat.le_of_lt (small1000 hl), fun p hp => q _ _ (Same.new hp) ⟨p, rfl, upd_same⟩⟩
theorem eq_cross (p q : Rat) : decide (V.int (p.num * q.den) = .int (q.num * p.den)) = decide (p = q) := by
  rw [decide_eq_decide, vint, Rat.eq_iff_mul_eq_mul]
theorem lt_cross (p q : Rat) : decide (p.num * (q.den : Int) < q.num * (p.den : Int)) = decide (p < q) := by
  rw [decide_eq_decide, Rat.lt_iff]
theorem le_of (p q : Rat) : (decide (p < q) || decide (p = q)) = decide (p ≤ q) := by
  rw [Bool.eq_iff_iff, Bool.or_eq_true, decide_eq_true_iff, decide_eq_true_iff, decide_eq_true_iff, Rat.le_iff_lt_or_eq]
theorem gt_of (p q : Rat) : (!decide (p < q) && !decide (p = q)) = decide (q < p) := by
  rw [← Bool.not_or, le_of, Bool.eq_iff_iff, Bool.not_eq_true', decide_eq_false_iff_not, decide_eq_true_iff, Rat.not_le]
theorem ge_of (p q : Rat) : (!decide (p < q)) = decide (q ≤ p) := by
  rw [Bool.eq_iff_iff, Bool.not_eq_true', decide_eq_false_iff_not, decide_eq_true_iff, Rat.not_lt]
def spOrd (C : Addr) : Sp := fun vs H Q _ => ∃ x y a b p q, vs = [x, y, .ref a, .ref b] ∧ Two C H x y p q ∧ PrAt H a p ∧ PrAt H b q ∧ Sm 300 p ∧ Sm 300 q ∧ ∀ H', Same H H' → Q (.bl true) H'
theorem six_at {b0 b1 b2 b3 b4 b5 : Bool} {i : Nat} (h : i < 6) : ∃ b, atI [V.bl b0, .bl b1, .bl b2, .bl b3, .bl b4, .bl b5] (0 + (i : Int)) = some (.bl b) := by
  rcases (by omega : i = 0 ∨ i = 1 ∨ i = 2 ∨ i = 3 ∨ i = 4 ∨ i = 5) with rfl | rfl | rfl | rfl | rfl | rfl <;> exact ⟨_, rfl⟩

theorem d_orders (T : FrTxt K mg C Z) (B : BT mg) (D : FD P w K mg base C Z) (DT : lTru P w K mg base) (F : GFun K mg "_law_orders" s_law_orders ["left", "right", "first", "second"]) : Def P w K mg base 9 "_law_orders" ["left", "right", "first", "second"] (spOrd C) := by
  refine F.ok c_law_orders (fun vs H Q E h => ?_) (fun f cdv A outer s H vs Q E hr h => ?_)
  · obtain ⟨x, y, a, b, p, q, rfl, _⟩ := h
    rfl
  · obtain ⟨x, y, a, b, p, q, rfl, tw, ha, hb, sp, sq', kQ⟩ := h
    refine ⟨_, pss_cons (ps_set (i := 4) c_law_orders.nd rfl (.inl rfl) (pe_cmpR op_lt (pe_op op_mulW (pe_ix ix_tup (pv 2) pe_int (fun _ _ => rfl)) (pe_ix ix_tup (pv 3) pe_int (fun _ _ => rfl))) (pe_op op_mulW (pe_ix ix_tup (pv 3) pe_int (fun _ _ => rfl)) (pe_ix ix_tup (pv 2) pe_int (fun _ _ => rfl))) (nomark _)))
      (pss_cons (ps_set (i := 5) c_law_orders.nd rfl (.inl rfl) (pe_cmpR op_eq (pe_op op_mulW (pe_ix ix_tup (pv 2) pe_int (fun _ _ => rfl)) (pe_ix ix_tup (pv 3) pe_int (fun _ _ => rfl))) (pe_op op_mulW (pe_ix ix_tup (pv 3) pe_int (fun _ _ => rfl)) (pe_ix ix_tup (pv 2) pe_int (fun _ _ => rfl))) (nomark _)))
      (pss_cons (ps_set (i := 6) c_law_orders.nd rfl (.inl rfl) (pe_lst (pa_cons (pv 5) (pa_cons (pe_not (pv 5)) (pa_cons (pv 4) (pa_cons (pe_or (pv 4) (pe_one (pv 5))) pa_nil))))))
      (pss_cons (ps_set (i := 6) c_law_orders.nd rfl (.inl rfl) (pe_op op_cat (pv 6) (pe_lst (pa_cons (pe_and (pe_not (pv 4)) (pe_one (pe_not (pv 5)))) (pa_cons (pe_not (pv 4)) pa_nil)))))
      (pss_cons (ps_set (i := 7) c_law_orders.nd rfl (.inl rfl) (pe_lst (pa_cons (pe_cmpS (cmp_num (n := 8) T int_eq D.eq D.eq (hr.mono (by decide)) (takes_of rfl rfl rfl rfl) (by decide) (by decide)) (pv 0) (pv 1) (nomark _)) (pa_cons (pe_cmpS (cmp_num (n := 8) T int_ne D.ne D.ne (hr.mono (by decide)) (takes_of rfl rfl rfl rfl) (by decide) (by decide)) (pv 0) (pv 1) (nomark _)) (pa_cons (pe_cmpS (cmp_num (n := 8) T int_lt D.lt D.gt (hr.mono (by decide)) (takes_of rfl rfl rfl rfl) (by decide) (by decide)) (pv 0) (pv 1) (nomark _)) pa_nil)))))
      (pss_cons (ps_set (i := 7) c_law_orders.nd rfl (.inl rfl) (pe_op op_cat (pv 7) (pe_lst (pa_cons (pe_cmpS (cmp_num (n := 8) T int_le D.le D.ge (hr.mono (by decide)) (takes_of rfl rfl rfl rfl) (by decide) (by decide)) (pv 0) (pv 1) (nomark _)) (pa_cons (pe_cmpS (cmp_num (n := 8) T int_gt D.gt D.lt (hr.mono (by decide)) (takes_of rfl rfl rfl rfl) (by decide) (by decide)) (pv 0) (pv 1) (nomark _)) (pa_cons (pe_cmpS (cmp_num (n := 8) T int_ge D.ge D.le (hr.mono (by decide)) (takes_of rfl rfl rfl rfl) (by decide) (by decide)) (pv 0) (pv 1) (nomark _)) pa_nil))))))
      (pss_cons (ps_for (passes_of rfl) rfl (pi_range1 rfl B.range (pa_cons pe_int pa_nil)) (pg_name (i := 8) c_law_orders.nd rfl (.inl rfl))
        (pss_one (ps_if (pt_not (pt_val (pe_callD DT (hr.mono (by decide)) (takes_of rfl rfl rfl rfl) (pa_cons (pe_ix ix_list (pv 7) (pv 8) (fun _ _ => rfl)) (pa_cons (pe_ix ix_list (pv 6) (pv 8) (fun _ _ => rfl)) pa_nil))))) (pss_one (ps_ret pe_bl)) pss_nil)))
      (pss_one (ps_ret pe_bl)))))))), ?_⟩
    have p3 : Sm 3000 p := sp.mono (by decide)
    have q3 : Sm 3000 q := sq'.mono (by decide)
    have g2 : ∀ {t4 t5 t6 t7 t8 : Option V} {H1 : Hp}, Same H H1 → Ge (tVar 2) [some x, some y, some (.ref a), some (.ref b), t4, t5, t6, t7, t8] H1 (Pr p) := fun s => ge_pr rfl (ha.mono s)
    have g3 : ∀ {t4 t5 t6 t7 t8 : Option V} {H1 : Hp}, Same H H1 → Ge (tVar 3) [some x, some y, some (.ref a), some (.ref b), t4, t5, t6, t7, t8] H1 (Pr q) := fun s => ge_pr rfl (hb.mono s)
    have m1 : ∀ {t4 t5 t6 t7 t8 : Option V} {H1 : Hp}, Same H H1 → Ge (tOp (rI CMulW fun i j => .int (i * j)) (tOp (rIxT K) (tVar 2) (tC (.int 0))) (tOp (rIxT K) (tVar 3) (tC (.int 1)))) [some x, some y, some (.ref a), some (.ref b), t4, t5, t6, t7, t8] H1 (Is (.int (p.num * q.den))) := fun s => ge_mul (ge_p0 (g2 s)) (ge_p1 (g3 s)) sp.1 sq'.d (by decide) (by decide) (by decide)
    have m2 : ∀ {t4 t5 t6 t7 t8 : Option V} {H1 : Hp}, Same H H1 → Ge (tOp (rI CMulW fun i j => .int (i * j)) (tOp (rIxT K) (tVar 3) (tC (.int 0))) (tOp (rIxT K) (tVar 2) (tC (.int 1)))) [some x, some y, some (.ref a), some (.ref b), t4, t5, t6, t7, t8] H1 (Is (.int (q.num * p.den))) := fun s => ge_mul (ge_p0 (g3 s)) (ge_p1 (g2 s)) sq'.1 sp.d (by decide) (by decide) (by decide)
    refine sq (s_set (ge_lt (m1 (Same.refl _)) (m2 (Same.refl _))) fun v1 H1 s1 e1 => sq (s_set (ge_eq (m1 s1) (m2 s1) rfl) fun v2 H2 s2' e2 => ?_))
    have s2 := s1.trans s2'
    rw [lt_cross] at e1
    rw [eq_cross] at e2
    subst e1
    subst e2
    refine sq (s_set (ge_lst (ga_is (ge_var rfl) (ga_is (ge_notV (ge_var rfl)) (ga_is (ge_var rfl) (ga_is (ge_orV (ge_var rfl) fun _ => ge_var rfl) ga_0)))) (by simp)) fun v3 H3 s3' ⟨a3, e3, h3⟩ => ?_)
    subst e3
    have s3 := s2.trans s3'
    refine sq (s_set (ge_cat (ge_varP rfl ⟨a3, rfl, h3⟩ (up_lst _)) (ge_lst (ga_is (ge_andV (ge_notV (ge_var rfl)) fun _ => ge_notV (ge_var rfl)) (ga_is (ge_notV (ge_var rfl)) ga_0)) (by simp)) (by simp)) fun v4 H4 s4' ⟨a4, e4, h4⟩ => ?_)
    subst e4
    have s4 := s3.trans s4'
    refine sq (s_set (ge_lst (ga_is (ge_c2 rfl rfl (tw.mono s4) p3 q3 (by rw [decide_eq_decide]; exact ⟨Eq.symm, Eq.symm⟩)) (ga_is (ge_ne2 rfl rfl (tw.mono s4) p3 q3) (ga_is (ge_c2 rfl rfl (tw.mono s4) p3 q3 rfl) ga_0))) (by simp)) fun v5 H5 s5' ⟨a5, e5, h5⟩ => ?_)
    subst e5
    have s5 := s4.trans s5'
    refine sq (s_set (ge_cat (ge_varP rfl ⟨a5, rfl, h5⟩ (up_lst _)) (ge_lst (ga_is (ge_c2 rfl rfl (tw.mono s5) p3 q3 rfl) (ga_is (ge_c2 rfl rfl (tw.mono s5) p3 q3 rfl) (ga_is (ge_c2 rfl rfl (tw.mono s5) p3 q3 rfl) ga_0))) (by simp)) (by simp)) fun v6 H6 s6' ⟨a6, e6, h6⟩ => sq ?_)
    subst e6
    have s6 := s5.trans s6'
    have h46 := s6' _ _ (s5' _ _ h4)
    rw [le_of, gt_of, ge_of] at h46
    refine ⟨6, rfl, by decide, by decide, for_range (lo := 0) (n := 6) (fun i σ H' => ∃ (v : Option V), σ = [some x, some y, some (.ref a), some (.ref b), some (.bl (decide (p < q))), some (.bl (decide (p = q))), some (.ref a4), some (.ref a6), v] ∧ Same H6 H') ⟨none, rfl, Same.refl _⟩ ?_ ?_⟩
    · rintro i σ H7 hi ⟨v, rfl, s7⟩
      obtain ⟨bb, hbb⟩ := six_at (b0 := decide (p = q)) (b1 := !decide (p = q)) (b2 := decide (p < q)) (b3 := decide (p ≤ q)) (b4 := decide (q < p)) (b5 := decide (q ≤ p)) hi
      refine s_no (t_true (ge_tru (ge_ixL (ge_varP rfl ⟨a6, rfl, s7 _ _ h6⟩ (up_lst _)) (ge_var rfl) hbb) (ge_ixL (ge_varP rfl ⟨a4, rfl, s7 _ _ h46⟩ (up_lst _)) (ge_var rfl) hbb))) fun H8 s8 => ?_
      exact ⟨some (.int (0 + (i : Int))), rfl, s7.trans s8⟩
    · rintro σ H7 ⟨v, rfl, s7⟩
      dsimp only
      refine s_ret ge_c fun v9 H8 s8 e9 => ?_
      rw [e9]
      exact kQ H8 ((s6.trans s7).trans s8)
end
end Bp

namespace Bp
open PySem.Spec PySem PyProof.Rows
open L2 hiding St
section
variable {P : Program} {w : World} {K : PySem.W.Frag} {mg : Str → Option Value} {base : Heap} {C Z BE BN : Addr} {H : Hp} {Q : VK} {E : XK}
/-! ### powers -/
/-- the values are the powers of p from off on -/
def Pows (C : Addr) (p : Rat) (off n : Nat) : List V → Hp → Prop := fun vs H => vs.length = n ∧ ∀ i v, vs[i]? = some v → Fr C (p ^ (off + i)) v H
theorem Pows.mono {p : Rat} {off n : Nat} {vs : List V} {H H' : Hp} (h : Pows C p off n vs H) (s : Same H H') : Pows C p off n vs H' := ⟨h.1, fun i v e => up_fr C _ _ _ _ (h.2 i v e) s⟩
theorem pows_nil {σ : L2.St} {p : Rat} {off : Nat} : GeA tNil σ H (Pows C p off 0) := fun H1 _ Q q => q [] H1 (Same.refl _) ⟨rfl, fun i v e => by simp at e⟩
theorem pows_cons {σ : L2.St} {p : Rat} {off n : Nat} {te : TE} {tr : TA} (h : Ge te σ H (Fr C (p ^ off))) (hr : GeA tr σ H (Pows C p (off + 1) n)) : GeA (tCons te tr) σ H (Pows C p off (n + 1)) := fun H1 s Q q =>
  h H1 s _ fun v H2 s2 f => hr H2 (s.trans s2) _ fun vs H3 s3 ⟨l, a⟩ => q _ H3 (s2.trans s3) ⟨by rw [List.length_cons, l], fun i u e => by
    cases i with
    | zero =>
      have e' : v = u := by simpa using e
      subst e'
      exact up_fr C _ _ _ _ f s3
    | succ i =>
      have := a i u (by simpa using e)
      rw [show off + (i + 1) = off + 1 + i by omega]
      exact this⟩
abbrev PLst (C : Addr) (p : Rat) (off n : Nat) : VP := fun v H => ∃ a xs, v = .ref a ∧ H a = some (.lst xs) ∧ Pows C p off n xs H
theorem up_pl (p : Rat) (off n : Nat) : Up (PLst C p off n) := fun v H H' ⟨a, xs, e, h, f⟩ s => ⟨a, xs, e, s _ _ h, f.mono s⟩
theorem ge_pl {σ : L2.St} {ta : TA} {p : Rat} {off n : Nat} (h : GeA ta σ H (Pows C p off n)) (hn : n ≤ 1000) : Ge (tLst ta) σ H (PLst C p off n) := fun H1 s Q q =>
  h H1 s _ fun vs H2 s2 f => ⟨by rw [f.1]; exact Nat.le_of_lt (small1000 hn), fun a ha => q _ _ (s2.trans (Same.new ha)) ⟨a, vs, rfl, upd_same, f.mono (Same.new ha)⟩⟩
theorem ge_pcat {σ : L2.St} {ta tb : TE} {p : Rat} {off n m : Nat} (ha : Ge ta σ H (PLst C p off n)) (hb : Ge tb σ H (PLst C p (off + n) m)) (hl : n + m ≤ 1000) : Ge (tOp rCat ta tb) σ H (PLst C p off (n + m)) :=
  ge_two ha hb (up_pl p off n) fun x y H1 _ ⟨a, xs, ex, h1, f⟩ ⟨b, ys, ey, h2, g⟩ Q q => ⟨a, b, xs, ys, ex, ey, h1, h2, by rw [f.1, g.1]; exact Nat.le_of_lt (small1000 hl), fun c hc => q _ _ (Same.new hc) ⟨c, xs ++ ys, rfl, upd_same, by rw [List.length_append, f.1, g.1], fun i v e => by
    by_cases hi : i < xs.length
    · rw [List.getElem?_append_left hi] at e
      exact up_fr C _ _ _ _ (f.2 i v e) (Same.new hc)
    · rw [List.getElem?_append_right (by omega)] at e
      have z := g.2 _ v e
      rw [f.1, show off + n + (i - n) = off + i by have := f.1; omega] at z
      exact up_fr C _ _ _ _ z (Same.new hc)⟩⟩

theorem ge_pw {E : L2.St → XK} {σ : L2.St} {ta : TE} {p : Rat} (k : Nat) (h : Ge ta σ H (Fr C p)) (sp : Sm 150 p) (hk : k ≤ 16) : Ge (tOpS (rOwn C (spPow C) E) ta (tC (.int (k : Int)))) σ H (Fr C (p ^ k)) :=
  ge_twoS h ge_c (up_fr C p) fun x y H1 _ ⟨a, e, f⟩ ey Q q => by
    subst e
    cases (show y = V.int (k : Int) from ey)
    exact ⟨f.isI, .inr ⟨_, rfl⟩, a, k, p, rfl, f, hk, sp, ret_of q⟩
def spPws (C : Addr) : Sp := fun vs H Q _ => ∃ x y p, vs = [.ref x, .ref y] ∧ FrAt C H x p ∧ PrAt H y p ∧ Sm 140 p ∧ ∀ H', Same H H' → Q (.bl true) H'
theorem pw_lt {m : Int} {i : Nat} (hi : i < 17) (hm : m.natAbs < 2 ^ 140) : (m ^ i).natAbs < 2 ^ 2400 := Nat.lt_of_lt_of_le (pow_lt hm (by decide)) (pow_le (by omega))
theorem pr_pow {σ : L2.St} {ta tb : TE} {p : Rat} {k : Nat} (ha : Ge ta σ H (Is (.int (p.num ^ k)))) (hb : Ge tb σ H (Is (.int ((p.den : Int) ^ k)))) : Ge (tTup (tCons ta (tCons tb tNil))) σ H (Pr (p ^ k)) := by
  have z := ge_pair ha hb
  rw [← Rat.num_pow, ← Int.natCast_pow, ← Rat.den_pow] at z
  exact z

theorem d_powers (T : FrTxt K mg C Z) (D : FD P w K mg base C Z) (DS : lIs P w K mg base C) (F : GFun K mg "_law_powers" s_law_powers ["value", "due"]) : Def P w K mg base 9 "_law_powers" ["value", "due"] (spPws C) := by
  refine F.ok c_law_powers (fun vs H Q E h => ?_) (fun f cdv A outer s H vs Q E hr h => ?_)
  · obtain ⟨x, y, p, rfl, _⟩ := h
    rfl
  · obtain ⟨x, y, p, rfl, hx, hy, sp, kQ⟩ := h
    refine ⟨_, pss_cons (ps_set (i := 2) c_law_powers.nd rfl (.inl rfl) (pe_lst (pa_cons (pe_opS (opD T D.opow D.pow (hr.mono (by decide)) (takes_of rfl rfl rfl rfl)) (pv 0) pe_int) (pa_cons (pe_opS (opD T D.opow D.pow (hr.mono (by decide)) (takes_of rfl rfl rfl rfl)) (pv 0) pe_int) (pa_cons (pe_opS (opD T D.opow D.pow (hr.mono (by decide)) (takes_of rfl rfl rfl rfl)) (pv 0) pe_int) (pa_cons (pe_opS (opD T D.opow D.pow (hr.mono (by decide)) (takes_of rfl rfl rfl rfl)) (pv 0) pe_int) (pa_cons (pe_opS (opD T D.opow D.pow (hr.mono (by decide)) (takes_of rfl rfl rfl rfl)) (pv 0) pe_int) pa_nil)))))))
      (pss_cons (ps_set (i := 2) c_law_powers.nd rfl (.inl rfl) (pe_op op_cat (pv 2) (pe_lst (pa_cons (pe_opS (opD T D.opow D.pow (hr.mono (by decide)) (takes_of rfl rfl rfl rfl)) (pv 0) pe_int) (pa_cons (pe_opS (opD T D.opow D.pow (hr.mono (by decide)) (takes_of rfl rfl rfl rfl)) (pv 0) pe_int) (pa_cons (pe_opS (opD T D.opow D.pow (hr.mono (by decide)) (takes_of rfl rfl rfl rfl)) (pv 0) pe_int) (pa_cons (pe_opS (opD T D.opow D.pow (hr.mono (by decide)) (takes_of rfl rfl rfl rfl)) (pv 0) pe_int) pa_nil)))))))
      (pss_cons (ps_set (i := 2) c_law_powers.nd rfl (.inl rfl) (pe_op op_cat (pv 2) (pe_lst (pa_cons (pe_opS (opD T D.opow D.pow (hr.mono (by decide)) (takes_of rfl rfl rfl rfl)) (pv 0) pe_int) (pa_cons (pe_opS (opD T D.opow D.pow (hr.mono (by decide)) (takes_of rfl rfl rfl rfl)) (pv 0) pe_int) (pa_cons (pe_opS (opD T D.opow D.pow (hr.mono (by decide)) (takes_of rfl rfl rfl rfl)) (pv 0) pe_int) (pa_cons (pe_opS (opD T D.opow D.pow (hr.mono (by decide)) (takes_of rfl rfl rfl rfl)) (pv 0) pe_int) pa_nil)))))))
      (pss_cons (ps_set (i := 2) c_law_powers.nd rfl (.inl rfl) (pe_op op_cat (pv 2) (pe_lst (pa_cons (pe_opS (opD T D.opow D.pow (hr.mono (by decide)) (takes_of rfl rfl rfl rfl)) (pv 0) pe_int) (pa_cons (pe_opS (opD T D.opow D.pow (hr.mono (by decide)) (takes_of rfl rfl rfl rfl)) (pv 0) pe_int) (pa_cons (pe_opS (opD T D.opow D.pow (hr.mono (by decide)) (takes_of rfl rfl rfl rfl)) (pv 0) pe_int) (pa_cons (pe_opS (opD T D.opow D.pow (hr.mono (by decide)) (takes_of rfl rfl rfl rfl)) (pv 0) pe_int) pa_nil)))))))
      (pss_cons (ps_set (i := 3) c_law_powers.nd rfl (.inl rfl) pe_int) (pss_cons (ps_set (i := 4) c_law_powers.nd rfl (.inl rfl) pe_int)
      (pss_cons (ps_for (passes_of rfl) rfl (pi_list (pv 2)) (pg_name (i := 5) c_law_powers.nd rfl (.inl rfl))
        (pss_cons (ps_if (pt_not (pt_val (pe_callD DS (hr.mono (by decide)) (takes_of rfl rfl rfl rfl) (pa_cons (pv 5) (pa_cons (pe_tup (pa_cons (pv 3) (pa_cons (pv 4) pa_nil))) pa_nil))))) (pss_one (ps_ret pe_bl)) pss_nil)
        (pss_cons (ps_set (i := 3) c_law_powers.nd rfl (.inl rfl) (pe_op op_mulW (pv 3) (pe_ix ix_tup (pv 1) pe_int (fun _ _ => rfl)))) (pss_one (ps_set (i := 4) c_law_powers.nd rfl (.inl rfl) (pe_op op_mulW (pv 4) (pe_ix ix_tup (pv 1) pe_int (fun _ _ => rfl))))))))
      (pss_one (ps_ret (pe_callD DS (hr.mono (by decide)) (takes_of rfl rfl rfl rfl) (pa_cons (pv 0) (pa_cons (pv 1) pa_nil))))))))))), ?_⟩
    have sp' : Sm 150 p := sp.mono (by decide)
    have gv : ∀ {t2 t3 t4 t5 : Option V} {H1 : Hp}, Same H H1 → Ge (tVar 0) [some (.ref x), some (.ref y), t2, t3, t4, t5] H1 (Fr C p) := fun s => ge_self rfl (hx.mono s)
    have gy : ∀ {t2 t3 t4 t5 : Option V} {H1 : Hp}, Same H H1 → Ge (tVar 1) [some (.ref x), some (.ref y), t2, t3, t4, t5] H1 (Pr p) := fun s => ge_pr rfl (hy.mono s)
    refine sq (s_set (ge_pl (p := p) (off := 0) (n := 5) (pows_cons (off := 0) (ge_pw 0 (gv (Same.refl _)) sp' (by decide)) (pows_cons (off := 1) (ge_pw 1 (gv (Same.refl _)) sp' (by decide)) (pows_cons (off := 2) (ge_pw 2 (gv (Same.refl _)) sp' (by decide)) (pows_cons (off := 3) (ge_pw 3 (gv (Same.refl _)) sp' (by decide)) (pows_cons (off := 4) (ge_pw 4 (gv (Same.refl _)) sp' (by decide)) pows_nil))))) (by decide)) fun v1 H1 s1 h1 => ?_)
    obtain ⟨a1, xs1, rfl, e1, f1⟩ := h1
    dsimp only
    refine sq (s_set (ge_pcat (off := 0) (n := 5) (m := 4) (ge_varP rfl ⟨a1, xs1, rfl, e1, f1⟩ (up_pl p 0 5)) (ge_pl (p := p) (off := 5) (n := 4) (pows_cons (off := 5) (ge_pw 5 (gv s1) sp' (by decide)) (pows_cons (off := 6) (ge_pw 6 (gv s1) sp' (by decide)) (pows_cons (off := 7) (ge_pw 7 (gv s1) sp' (by decide)) (pows_cons (off := 8) (ge_pw 8 (gv s1) sp' (by decide)) pows_nil)))) (by decide)) (by decide)) fun v2 H2 z2 h2 => ?_)
    have s2 := s1.trans z2
    obtain ⟨a2, xs2, rfl, e2, f2⟩ := h2
    dsimp only
    refine sq (s_set (ge_pcat (off := 0) (n := 9) (m := 4) (ge_varP rfl ⟨a2, xs2, rfl, e2, f2⟩ (up_pl p 0 9)) (ge_pl (p := p) (off := 9) (n := 4) (pows_cons (off := 9) (ge_pw 9 (gv s2) sp' (by decide)) (pows_cons (off := 10) (ge_pw 10 (gv s2) sp' (by decide)) (pows_cons (off := 11) (ge_pw 11 (gv s2) sp' (by decide)) (pows_cons (off := 12) (ge_pw 12 (gv s2) sp' (by decide)) pows_nil)))) (by decide)) (by decide)) fun v3 H3 z3 h3 => ?_)
    have s3 := s2.trans z3
    obtain ⟨a3, xs3, rfl, e3, f3⟩ := h3
    dsimp only
    refine sq (s_set (ge_pcat (off := 0) (n := 13) (m := 4) (ge_varP rfl ⟨a3, xs3, rfl, e3, f3⟩ (up_pl p 0 13)) (ge_pl (p := p) (off := 13) (n := 4) (pows_cons (off := 13) (ge_pw 13 (gv s3) sp' (by decide)) (pows_cons (off := 14) (ge_pw 14 (gv s3) sp' (by decide)) (pows_cons (off := 15) (ge_pw 15 (gv s3) sp' (by decide)) (pows_cons (off := 16) (ge_pw 16 (gv s3) sp' (by decide)) pows_nil)))) (by decide)) (by decide)) fun v4 H4 z4 h4 => ?_)
    have s4 := s3.trans z4
    obtain ⟨a4, xs, rfl, e4, f4⟩ := h4
    dsimp only
    refine sq (s_set ge_c fun v5 H5 z5 e5 => sq (s_set ge_c fun v6 H6 z6 e6 => sq ?_))
    subst e5
    subst e6
    have s6 := (s4.trans z5).trans z6
    have f6 : Pows C p 0 17 xs H6 := f4.mono (z5.trans z6)
    have l6 : SqL K H6 a4 xs := SqL.of ((z5.trans z6) _ _ e4)
    refine ⟨.ref a4, rfl, a4, rfl, ⟨xs, l6⟩, for_list (K := K) (a := a4) (xs := xs) (fun i σ H' => ∃ (v : Option V), σ = [some (.ref x), some (.ref y), some (.ref a4), some (.int (p.num ^ i)), some (.int ((p.den : Int) ^ i)), v] ∧ Same H6 H') ⟨none, by rw [Int.pow_zero, Int.pow_zero]; rfl, Same.refl _⟩ (fun i σ H' _ ⟨v, _, s⟩ => s.seq l6) ?_ ?_⟩
    · rintro i u σ H7 hu ⟨v, rfl, s7⟩
      have hi : i < 17 := by
        rw [← f6.1]
        exact (List.getElem?_eq_some_iff.mp hu).1
      have fu := f6.2 i u hu
      rw [Nat.zero_add] at fu
      refine sq (s_no (t_true (ge_is (ge_varP rfl (up_fr C _ _ _ _ fu s7) (up_fr C _)) (pr_pow (ge_var rfl) (ge_var rfl)) rfl)) fun H8 s8 => sq (s_set (ge_mul (a := 2400) (b := 140) (ge_var rfl) (ge_p0 (gy (s6.trans (s7.trans s8)))) (pw_lt hi sp.1) sp.1 (by decide) (by decide) (by decide)) fun v9 H9 s9 e9 => s_set (ge_mul (a := 2400) (b := 140) (ge_var rfl) (ge_p1 (gy (s6.trans ((s7.trans s8).trans s9)))) (pw_lt hi sp.d) sp.d (by decide) (by decide) (by decide)) fun v10 H10 s10 e10 => ?_))
      subst e9
      subst e10
      rw [← Int.pow_succ, ← Int.pow_succ]
      exact ⟨some u, rfl, ((s7.trans s8).trans s9).trans s10⟩
    · rintro σ H7 ⟨v, rfl, s7⟩
      dsimp only
      refine s_ret (ge_is (gv (s6.trans s7)) (gy (s6.trans s7)) rfl) fun v9 H8 s8 e9 => ?_
      rw [e9]
      exact kQ H8 ((s6.trans s7).trans s8)

end
end Bp

namespace Bp
open PySem.Spec PySem PyProof.Rows
open L2 hiding St
section
variable {X : Cx} {k : Nat} {C f : Addr} {fd : FuncData} {ps : List Str} {sp : Sp} {CX : CXT} {E : L2.St → XK}
/-- an own comparison with None or a text behind it -/
def rOwnN (C : Addr) (sp : Sp) (E : L2.St → XK) : R2S := fun σ x y H Q => IsI C H x ∧ NoNum y ∧ sp [x, y] H Q (E σ)
theorem cmp_ownN {op : CmpOp} (hop : ∀ a b, compareOp op a b = richCompare op a b) (hs : PySem.W.findIn X.K (.ref C) (cmpInfo op).2.1 = some (some (.ref f))) (hf : PySem.W.isFn X.K (.ref f) = true) (s1 : PySem.W.subIn X.K (.type "NoneType") (.ref C) = some false) (s2 : PySem.W.subIn X.K (.type "str") (.ref C) = some false)
    (F : FnOk X.prog X.w X.K X.mg X.base CX k f fd ps sp) (hr : Room k X.A) (hb : L2.Binds X.K fd ps []) (hx : ∀ σ, PassesAt CX X σ (E σ)) : OpS X (compareOp op) (rOwnN C sp E) := by
  intro pins s σ H x y v u Q I rx ry h
  obtain ⟨⟨a, dx, fs, rfl, ha⟩, hy, q⟩ := h
  cases (show v = Value.ref a from rx)
  obtain ⟨_, od, J⟩ := inst_of I ha
  obtain ⟨m, hF⟩ := I.fr
  rw [hop]
  rcases hy with rfl | ⟨x, rfl⟩
  · cases (show u = Value.none from ry)
    refine PySem.W.cmp_K (tb := .type "NoneType") hr.units0 hF I.ok.mod.kin J (.of_pure rfl) ?_ hs hf (callBack (us := [.ref a, .none]) (vs := [.ref a, .non]) F hr hb hx I (.cons rfl (.cons rfl .nil)) q)
    unfold PySem.W.notFirst
    rw [s1, beq_self_eq_true, Bool.or_true]
  · obtain ⟨t, rfl⟩ := (show ∃ t, u = Value.str x t from ry)
    refine PySem.W.cmp_K (tb := .type "str") hr.units0 hF I.ok.mod.kin J (.of_pure rfl) ?_ hs hf (callBack (us := [.ref a, .str x t]) (vs := [.ref a, .str x]) F hr hb hx I (.cons rfl (.cons ⟨t, rfl⟩ .nil)) q)
    unfold PySem.W.notFirst
    rw [s2, beq_self_eq_true, Bool.or_true]
end
section
variable {P : Program} {w : World} {K : PySem.W.Frag} {mg : Str → Option Value} {base : Heap} {C Z BE BN : Addr} {H : Hp} {Q : VK} {E : XK}
section
variable {D : Ends} {t : TT} {t1 t2 : TS} {σ : L2.St} {te : TE} {i : Nat} {PA : VP}
theorem sq_no (h : GeT t σ H false) (k : ∀ H1, Same H H1 → t2 D σ H1) : tSeq (tIfS t t1 tNext) t2 D σ H := s_no h k
theorem sq_set (h : Ge te σ H PA) (k : ∀ v H1, Same H H1 → PA v H1 → t2 D (σ.set i (some v)) H1) : tSeq (tAsg te (gName i)) t2 D σ H := s_set h k
end
theorem neN {X : Cx} {k : Nat} {ps : List Str} {sp : Sp} {W : WX} (T : FrTxt X.K X.mg C Z) (D : MDef X.prog X.w X.K X.mg X.base k C "__ne__" ps sp) (hr : Room k X.A) (tk : Takes X W) : OpS X (compareOp .NotEq) (rOwnN C sp (WE W)) := by
  obtain ⟨f, fd, hm, b, F⟩ := D.ex
  exact cmp_ownN (by intro _ _; rfl) hm.at_ hm.fn T.subN T.subS F hr b fun σ => passAt tk σ
theorem ge_neN {E : L2.St → XK} {σ : L2.St} {i j : Nat} {x : Addr} {y : V} {p : Rat} (hi : σ[i]? = some (some (.ref x))) (hj : σ[j]? = some (some y)) (f : FrAt C H x p) (hy : NoNum y) : Ge (tOpS (rOwnN C (spNe C 3000) E) (tVar i) (tVar j)) σ H (Is (.bl true)) :=
  ge_vv hi hj fun H1 s Q k => ⟨(f.mono s).isI, hy, x, y, p, rfl, f.mono s, .inr ⟨hy, fun H' s' => k _ H' s' rfl⟩⟩
theorem ge_eqN' {σ : L2.St} {i j : Nat} {x : Addr} {y : V} {p : Rat} (hi : σ[i]? = some (some (.ref x))) (hj : σ[j]? = some (some y)) (f : FrAt C H x p) (hy : NoNum y) : Ge (tOpS (rDecl C (preNo C)) (tVar i) (tVar j)) σ H (Is (.bl false)) :=
  ge_vv hi hj fun H1 s Q k => ⟨(f.mono s).isI, hy, ⟨x, y, p, rfl, f.mono s, hy⟩, fun H' s' => k _ H' s' rfl⟩
/-- |r| -/
def ab (r : Rat) : Rat := Rat.divInt (if r.num < 0 then -r.num else r.num) r.den
theorem ab_is (r : Rat) : (ab r).num = (r.num.natAbs : Int) ∧ (ab r).den = r.den := by
  unfold ab
  by_cases h : r.num < 0
  · rw [if_pos h, neg_is, Rat.neg_num, Rat.neg_den]
    exact ⟨by omega, rfl⟩
  · rw [if_neg h, divInt_self]
    exact ⟨by omega, rfl⟩
theorem ge_absO {σ : L2.St} {te : TE} {p : Rat} (h : Ge te σ H (Fr C p)) (sp : Sm 3000 p) : Ge (tCB (rAbsO C (spUn C (fun p => Rat.divInt (if p.num < 0 then -p.num else p.num) p.den) 3000)) (tCons te tNil)) σ H (Fr C (ab p)) :=
  ge_callB (ga1 h (up_fr C p)) fun vs H1 s ⟨v, e, x, ev, f⟩ Q q => ⟨v, e, by rw [ev]; exact f.isI, x, p, by rw [ev], f, sp, ret_of q⟩
theorem ge_boolO {σ : L2.St} {te : TE} {p : Rat} (h : Ge te σ H (Fr C p)) (sp : Sm 8000 p) : Ge (tCB (rBoolO C (spVal C (fun p => .bl (p.num != 0)) 8000)) (tCons te tNil)) σ H (Is (.bl (p.num != 0))) :=
  ge_callB (ga1 h (up_fr C p)) fun vs H1 s ⟨v, e, x, ev, f⟩ Q q => ⟨v, e, by rw [ev]; exact f.isI, x, p, by rw [ev], f, sp, fun H' s' => ⟨_, rfl, q _ H' s' rfl⟩⟩
theorem ge_str {σ : L2.St} {te : TE} {n : Int} (h : Ge te σ H (Is (.int n))) (hn : n.natAbs < 2 ^ 1000) : Ge (tCB (fun xs H Q => ∃ i, xs = [.int i] ∧ i.natAbs.log2 < 1920 ∧ Q (.str (toString i)) H) (tCons te tNil)) σ H (Is (.str (toString n))) :=
  ge_callB (ga1 h (Up.is _)) fun vs H1 s ⟨v, e, ev⟩ Q q => ⟨n, by rw [e, ev], Nat.lt_trans (log_of hn (by decide)) (by decide), q _ H1 (Same.refl _) rfl⟩
theorem len_str {n : Int} (hn : n.natAbs < 2 ^ 1000) : (PySem.Str.ofString (toString n)).length ≤ 1921 := int_text_len_1921 (Nat.lt_trans (log_of hn (by decide)) (by decide))
theorem ge_glue {σ : L2.St} {ta tb : TE} {a b : Str} (ha : Ge ta σ H (Is (.str a))) (hb : Ge tb σ H (Is (.str b))) (hl : a.length + b.length ≤ 10000) : Ge (tOp (fun x y H Q => ∃ i j, x = .str i ∧ y = .str j ∧ i.length + j.length ≤ sizeLine ∧ Q (.str (i ++ j)) H) ta tb) σ H (Is (.str (a ++ b))) :=
  ge_two ha hb (Up.is _) fun x y H1 s ex ey Q q => ⟨a, b, ex, ey, Nat.le_trans hl (by decide), q _ H1 (Same.refl _) rfl⟩


theorem no4 {a b c : Str} {i : Nat} {u : V} (h : [V.non, .str a, .str b, .str c][i]? = some u) : NoNum u := by
  have m := List.mem_of_getElem? h
  simp only [List.mem_cons, List.not_mem_nil, or_false] at m
  rcases m with rfl | rfl | rfl | rfl
  · exact .inl rfl
  · exact .inr ⟨_, rfl⟩
  · exact .inr ⟨_, rfl⟩
  · exact .inr ⟨_, rfl⟩
def spSin (C : Addr) : Sp := fun vs H Q _ => ∃ x y p, vs = [.ref x, .ref y] ∧ FrAt C H x p ∧ PrAt H y p ∧ Sm 300 p ∧ ∀ H', Same H H' → Q (.bl true) H'
theorem d_single (T : FrTxt K mg C Z) (B : BT mg) (D : FD P w K mg base C Z) (DS : lIs P w K mg base C) (DI : lInt P w K mg base) (DT : lTru P w K mg base) (F : GFun K mg "_law_single" s_law_single ["value", "due"]) : Def P w K mg base 9 "_law_single" ["value", "due"] (spSin C) := by
  refine F.ok c_law_single (fun vs H Q E h => ?_) (fun f cdv A outer s H vs Q E hr h => ?_)
  · obtain ⟨x, y, p, rfl, _⟩ := h
    rfl
  · obtain ⟨x, y, p, rfl, hx, hy, sp, kQ⟩ := h
    refine ⟨_, (pss_cons (ps_if (pt_not (pt_val (pe_callD DS (hr.mono (by decide)) (takes_of rfl rfl rfl rfl) (pa_cons (pe_un (un_negD D.neg (hr.mono (by decide)) (takes_of rfl rfl rfl rfl)) (pv 0)) (pa_cons (pe_tup (pa_cons (pe_un un_neg (pe_ix ix_tup (pv 1) pe_int (fun _ _ => rfl))) (pa_cons (pe_ix ix_tup (pv 1) pe_int (fun _ _ => rfl)) pa_nil))) pa_nil))))) (pss_one (ps_ret pe_bl)) pss_nil) (pss_cons (ps_if (pt_not (pt_val (pe_callD DS (hr.mono (by decide)) (takes_of rfl rfl rfl rfl) (pa_cons (pe_callB (call_absO D.abs (hr.mono (by decide))) (by rfl) B.abs (by decide +kernel) (pa_cons (pv 0) pa_nil)) (pa_cons (pe_tup (pa_cons (pe_callB call_abs (by rfl) B.abs (by decide +kernel) (pa_cons (pe_ix ix_tup (pv 1) pe_int (fun _ _ => rfl)) pa_nil)) (pa_cons (pe_ix ix_tup (pv 1) pe_int (fun _ _ => rfl)) pa_nil))) pa_nil))))) (pss_one (ps_ret pe_bl)) pss_nil) (pss_cons (ps_if (pt_not (pt_val (pe_callD DI (hr.mono (by decide)) (takes_of rfl rfl rfl rfl) (pa_cons (pe_methD0 D.floor (hr.mono (by decide)) (takes_of rfl rfl rfl rfl) T.cl (pv 0)) (pa_cons (pe_op op_fdivW (pe_ix ix_tup (pv 1) pe_int (fun _ _ => rfl)) (pe_ix ix_tup (pv 1) pe_int (fun _ _ => rfl))) pa_nil))))) (pss_one (ps_ret pe_bl)) pss_nil) (pss_cons (ps_if (pt_not (pt_val (pe_callD DI (hr.mono (by decide)) (takes_of rfl rfl rfl rfl) (pa_cons (pe_methD0 D.ceil (hr.mono (by decide)) (takes_of rfl rfl rfl rfl) T.cl (pv 0)) (pa_cons (pe_un un_neg (pe_op op_fdivW (pe_un un_neg (pe_ix ix_tup (pv 1) pe_int (fun _ _ => rfl))) (pe_ix ix_tup (pv 1) pe_int (fun _ _ => rfl)))) pa_nil))))) (pss_one (ps_ret pe_bl)) pss_nil) (pss_cons (ps_if (PW.pt (pw_or (pt_not (pt_val (pe_callD DT (hr.mono (by decide)) (takes_of rfl rfl rfl rfl) (pa_cons (pe_propD D.whole (hr.mono (by decide)) T.cl (pv 0)) (pa_cons (pe_cmpR op_eq (pe_ix ix_tup (pv 1) pe_int (fun _ _ => rfl)) pe_int (nomark _)) pa_nil))))) (pw_or1 (pt_cmpR op_ne (pe_callTy (call_boolO D.bool (hr.mono (by decide))) (by rfl) B.bool (by decide +kernel) (pa_cons (pv 0) pa_nil)) (pe_cmpR op_ne (pe_ix ix_tup (pv 1) pe_int (fun _ _ => rfl)) pe_int (nomark _)) (nomark _))))) (pss_one (ps_ret pe_bl)) pss_nil) (pss_cons (ps_for (passes_of rfl) rfl (pi_list (pe_lst (pa_cons pe_non (pa_cons pe_str (pa_cons (pe_callTy call_str_int (by rfl) B.str (by decide +kernel) (pa_cons (pe_ix ix_tup (pv 1) pe_int (fun _ _ => rfl)) pa_nil)) (pa_cons (pe_op op_add_str (pe_op op_add_str (pe_callTy call_str_int (by rfl) B.str (by decide +kernel) (pa_cons (pe_ix ix_tup (pv 1) pe_int (fun _ _ => rfl)) pa_nil)) pe_str) (pe_callTy call_str_int (by rfl) B.str (by decide +kernel) (pa_cons (pe_ix ix_tup (pv 1) pe_int (fun _ _ => rfl)) pa_nil))) pa_nil)))))) (pg_name (i := 2) c_law_single.nd rfl (.inl rfl)) (pss_one (ps_if (PW.pt (pw_or (pt_not (pt_val (pe_callD DT (hr.mono (by decide)) (takes_of rfl rfl rfl rfl) (pa_cons (pe_cmpS (eqN T D.eqN (hr.mono (by decide))) (pv 0) (pv 2) (nomark _)) (pa_cons pe_bl pa_nil))))) (pw_or1 (pt_not (pt_val (pe_callD DT (hr.mono (by decide)) (takes_of rfl rfl rfl rfl) (pa_cons (pe_cmpS (neN T D.ne (hr.mono (by decide)) (takes_of rfl rfl rfl rfl)) (pv 0) (pv 2) (nomark _)) (pa_cons pe_bl pa_nil)))))))) (pss_one (ps_ret pe_bl)) pss_nil))) (pss_one (ps_ret pe_bl)))))))), ?_⟩
    have s3 : Sm 3000 p := sp.mono (by decide)
    have s8 : Sm 8000 p := sp.mono (by decide)
    have l1 : p.num.natAbs < 2 ^ 1000 := Nat.lt_of_lt_of_le sp.1 (pow_le (by decide))
    have l2 : ((p.den : Int)).natAbs < 2 ^ 1000 := Nat.lt_of_lt_of_le sp.d (pow_le (by decide))
    have g0 : ∀ {a : Option V} {H1 : Hp}, Same H H1 → Ge (tVar 0) [some (.ref x), some (.ref y), a] H1 (Fr C p) := fun s => ge_self rfl (hx.mono s)
    have g1 : ∀ {a : Option V} {H1 : Hp}, Same H H1 → Ge (tVar 1) [some (.ref x), some (.ref y), a] H1 (Pr p) := fun s => ge_pr rfl (hy.mono s)
    have pa : ∀ {te : TE} {σ : L2.St} {H1 : Hp}, Ge te σ H1 (Tup [.int (p.num.natAbs : Int), .int (p.den : Int)]) → Ge te σ H1 (Pr (ab p)) := fun h => by
      unfold Pr
      rw [(ab_is p).1, (ab_is p).2]
      exact h
    refine sq_no (t_true (ge_is (ge_neg (g0 (Same.refl _)) s3) (ge_pairN (g1 (Same.refl _))) rfl)) fun H1 s1 => ?_
    refine sq_no (t_true (ge_is (ge_absO (g0 s1) s3) (pa (ge_pair (ge_abs (ge_p0 (g1 s1))) (ge_p1 (g1 s1)))) rfl)) fun H2 z2 => ?_
    have s2 := s1.trans z2
    refine sq_no (t_true (ge_int (ge_val (m := "floor") (f := fun p => .int (p.num / (p.den : Int))) nm1 nm2 (g0 s2) s8) (ge_fdiv (ge_p0 (g1 s2)) (ge_p1 (g1 s2)) (den_pos' p) l2 (by decide) (by decide)))) fun H3 z3 => ?_
    have s3' := s2.trans z3
    refine sq_no (t_true (ge_int (ge_val (m := "ceiling") (f := fun p => .int (-(-p.num / (p.den : Int)))) nm5 nm6 (g0 s3') s8) (ge_unN (ge_fdiv (ge_unN (ge_p0 (g1 s3'))) (ge_p1 (g1 s3')) (den_pos' p) l2 (by decide) (by decide))))) fun H4 z4 => ?_
    have s4 := s3'.trans z4
    have eb : (p.num != 0) = (!decide (V.int p.num = .int 0)) := by
      rw [dec_int]
      rfl
    refine sq_no (gt_or (b := false) (t_true (ge_tru (ge_prop (m := "is_whole") (f := fun p => .bl (decide (V.int (p.den : Int) = .int 1))) (g0 s4) s8) (ge_eq (ge_p1 (g1 s4)) ge_c rfl))) fun _ => GeT.to (b := !decide (V.bl (p.num != 0) = .bl (!decide (V.int p.num = .int 0)))) (gt_test (ge_ne (ge_boolO (g0 s4) s8) (ge_ne (ge_p0 (g1 s4)) ge_c rfl) rfl)) (by rw [eb, decide_eq_true rfl]; rfl)) fun H5 z5 => ?_
    refine sq ?_
    unfold tFor iList
    have s5 := s4.trans z5
    have n1 : (PySem.Str.ofString (toString p.num)).length ≤ 1921 := len_str l1
    have n2 : (PySem.Str.ofString (toString (p.den : Int))).length ≤ 1921 := len_str l2
    have n3 : (PySem.Str.ofString (toString p.num) ++ ("/" : Str)).length + (PySem.Str.ofString (toString (p.den : Int))).length ≤ 10000 := by
      rw [PySem.Str.length_append]
      have e : ("/" : Str).length = 1 := rfl
      rw [e]
      clear l1 l2
      omega
    have n4 : (PySem.Str.ofString (toString p.num)).length + ("/" : Str).length ≤ 10000 := by
      have e : ("/" : Str).length = 1 := rfl
      rw [e]
      clear l1 l2
      omega
    refine ge_lst (xs := [V.non, .str "", .str (PySem.Str.ofString (toString p.num)), .str (PySem.Str.ofString (toString p.num) ++ "/" ++ PySem.Str.ofString (toString (p.den : Int)))]) (ga_is ge_c (ga_is ge_c (ga_is (ge_str (ge_p0 (g1 s5)) l1) (ga_is (ge_glue (ge_glue (ge_str (ge_p0 (g1 s5)) l1) ge_c n4) (ge_str (ge_p1 (g1 s5)) l2) n3) ga_0)))) (show 4 ≤ 1000 by decide) H5 (Same.refl _) _ fun v H6 s6 ⟨a, ev, h6⟩ => ?_
    subst ev
    have l6 : SqL K H6 a [V.non, .str "", .str (PySem.Str.ofString (toString p.num)), .str (PySem.Str.ofString (toString p.num) ++ "/" ++ PySem.Str.ofString (toString (p.den : Int)))] := SqL.of h6
    have s6' := s5.trans s6
    refine ⟨a, rfl, ⟨_, l6⟩, for_list (K := K) (a := a) (xs := _) (fun i σ H' => ∃ v : Option V, σ = [some (.ref x), some (.ref y), v] ∧ Same H6 H') ⟨none, rfl, Same.refl _⟩ (fun i σ H' _ ⟨v, _, s⟩ => s.seq l6) ?_ ?_⟩
    · rintro i u σ H7 hu ⟨v, rfl, s7⟩
      have nu : NoNum u := no4 hu
      refine s_no (gt_or (b := false) (t_true (ge_tru (ge_eqN' rfl rfl (hx.mono (s6'.trans s7)) nu) ge_c)) fun _ => t_true (ge_tru (ge_neN rfl rfl (hx.mono (s6'.trans s7)) nu) ge_c)) fun H8 s8 => ?_
      exact ⟨some u, rfl, s7.trans s8⟩
    · rintro σ H7 ⟨v, rfl, s7⟩
      dsimp only
      refine s_ret ge_c fun v9 H8 s8 e9 => ?_
      rw [e9]
      exact kQ H8 ((s6'.trans s7).trans s8)

end
end Bp

namespace Bp
open PySem.Spec PySem PyProof.Rows
open L2 hiding St
section
variable {P : Program} {w : World} {K : PySem.W.Frag} {mg : Str → Option Value} {base : Heap} {C Z BE BN : Addr} {H : Hp} {Q : VK} {E : XK}
/-! ### in place -/
structure InT (K : PySem.W.Frag) (C : Addr) (nm : String) : Prop where
  ex : ∃ cd, PySem.W.clsIn K C = some cd ∧ cd.mro = [.ref C, .type "object"]
  n1 : PySem.W.findIn K (.ref C) (dunderI nm) = some none
  n2 : PySem.W.findIn K (.type "object") (dunderI nm) = some none
theorem inpD {X : Cx} {op : Operator} {k : Nat} {ps : List Str} {sp : Sp} {W : WX} {nm : Str} (T : FrTxt X.K X.mg C Z) (O : OpT X.K C op.info.2) (I : InT X.K C op.info.2) (D : MDef X.prog X.w X.K X.mg X.base k C nm ps sp) (hr : Room k X.A) (tk : Takes X W)
    (hnm : nm = PySem.dunder op.info.2 := by rfl) : OpS X (inplaceOp op) (rOwn C sp (WE W)) := by
  obtain ⟨f, fd, hm, b, F⟩ := D.ex
  obtain ⟨cd, c1, c2⟩ := I.ex
  subst hnm
  exact inp_own c1 c2 I.n1 I.n2 ⟨T.self, hm.at_, hm.fn, O.hr, O.h1, O.h2, T.subI, T.subC⟩ F hr b fun σ => passAt tk σ
theorem sq_aug {f : Rat → Rat → Rat} {b : Nat} {E : L2.St → XK} {σ : L2.St} {i : Nat} {a : Addr} {te : TE} {t2 : TS} {D : Ends} {p q : Rat} (hi : σ[i]? = some (some (.ref a))) (fa : FrAt C H a p) (hb : Ge te σ H (Nm C q)) (sp : Sm b p) (sq : Sm b q)
    (k : ∀ v H1, Same H H1 → Fr C (f p q) v H1 → t2 D (σ.set i (some v)) H1) : tSeq (tAugS1 i te (rOwn C (spBin C f b) E)) t2 D σ H :=
  ⟨.ref a, hi, hb H (Same.refl _) _ fun y H1 s1 ny => ⟨(fa.mono s1).isI, ny.arg, a, y, p, q, rfl, fa.mono s1, ny, sp, sq, fun v H2 s2 f => k _ H2 (s1.trans s2) ⟨v, rfl, f⟩⟩⟩
theorem sq_augF {b : Nat} {E : L2.St → XK} {σ : L2.St} {i : Nat} {a : Addr} {te : TE} {t2 : TS} {D : Ends} {p q : Rat} (hi : σ[i]? = some (some (.ref a))) (fa : FrAt C H a p) (hb : Ge te σ H (Nm C q)) (sp : Sm b p) (sq : Sm b q) (q0 : q ≠ 0)
    (k : ∀ H1, Same H H1 → t2 D (σ.set i (some (.int (fdv p q)))) H1) : tSeq (tAugS1 i te (rOwn C (spFd C Z b) E)) t2 D σ H :=
  ⟨.ref a, hi, hb H (Same.refl _) _ fun y H1 s1 ny => ⟨(fa.mono s1).isI, ny.arg, a, y, p, q, rfl, fa.mono s1, ny, sp, sq, fun z => absurd z q0, fun _ H2 s2 => k H2 (s1.trans s2)⟩⟩
structure InTs (K : PySem.W.Frag) (C : Addr) : Prop where
  add : InT K C "add"
  sub : InT K C "sub"
  mul : InT K C "mul"
  fdiv : InT K C "floordiv"
def spInp (C : Addr) : Sp := fun vs H Q _ => ∃ x y a b p q, vs = [.ref x, .ref y, .ref a, .ref b] ∧ FrAt C H x p ∧ FrAt C H y q ∧ PrAt H a p ∧ PrAt H b q ∧ Sm 300 p ∧ Sm 300 q ∧ ∀ H', Same H H' → Q (.bl true) H'


theorem d_in_place (T : FrTxt K mg C Z) (D : FD P w K mg base C Z) (I : InTs K C) (DS : lIs P w K mg base C) (DA : lAdd P w K mg base) (DM : lMul P w K mg base) (DF : lFl P w K mg base) (DI : lInt P w K mg base) (F : GFun K mg "_law_in_place" s_law_in_place ["kept", "right", "first", "second"]) :
    Def P w K mg base 9 "_law_in_place" ["kept", "right", "first", "second"] (spInp C) := by
  refine F.ok c_law_in_place (fun vs H Q E h => ?_) (fun f cdv A outer s H vs Q E hr h => ?_)
  · obtain ⟨x, y, a, b, p, q, rfl, _⟩ := h
    rfl
  · obtain ⟨x, y, a, b, p, q, rfl, hx, hy, ha, hb, sp, sq', kQ⟩ := h
    refine ⟨_, (pss_cons (ps_set (i := 4) c_law_in_place.nd rfl (.inl rfl) (pv 0)) (pss_cons (ps_augOwn (i := 4) c_law_in_place.nd rfl rfl (pv 1) (inpD T D.oadd I.add D.add (hr.mono (by decide)) (takes_of rfl rfl rfl rfl))) (pss_cons (ps_set (i := 5) c_law_in_place.nd rfl (.inl rfl) (pv 0)) (pss_cons (ps_augOwn (i := 5) c_law_in_place.nd rfl rfl (pv 1) (inpD T D.osub I.sub D.sub (hr.mono (by decide)) (takes_of rfl rfl rfl rfl))) (pss_cons (ps_set (i := 6) c_law_in_place.nd rfl (.inl rfl) (pv 0)) (pss_cons (ps_augOwn (i := 6) c_law_in_place.nd rfl rfl (pv 1) (inpD T D.omul I.mul D.mul (hr.mono (by decide)) (takes_of rfl rfl rfl rfl))) (pss_cons (ps_if (pt_not (pt_val (pe_callD DS (hr.mono (by decide)) (takes_of rfl rfl rfl rfl) (pa_cons (pv 4) (pa_cons (pe_callD DA (hr.mono (by decide)) (takes_of rfl rfl rfl rfl) (pa_cons (pv 2) (pa_cons (pv 3) pa_nil))) pa_nil))))) (pss_one (ps_ret pe_bl)) pss_nil) (pss_cons (ps_if (pt_not (pt_val (pe_callD DS (hr.mono (by decide)) (takes_of rfl rfl rfl rfl) (pa_cons (pv 6) (pa_cons (pe_callD DM (hr.mono (by decide)) (takes_of rfl rfl rfl rfl) (pa_cons (pv 2) (pa_cons (pv 3) pa_nil))) pa_nil))))) (pss_one (ps_ret pe_bl)) pss_nil) (pss_cons (ps_if (pt_not (pt_val (pe_callD DS (hr.mono (by decide)) (takes_of rfl rfl rfl rfl) (pa_cons (pv 5) (pa_cons (pe_callD DA (hr.mono (by decide)) (takes_of rfl rfl rfl rfl) (pa_cons (pv 2) (pa_cons (pe_tup (pa_cons (pe_un un_neg (pe_ix ix_tup (pv 3) pe_int (fun _ _ => rfl))) (pa_cons (pe_ix ix_tup (pv 3) pe_int (fun _ _ => rfl)) pa_nil))) pa_nil))) pa_nil))))) (pss_one (ps_ret pe_bl)) pss_nil) (pss_cons (ps_if (pt_cmpR op_ne (pe_ix ix_tup (pv 3) pe_int (fun _ _ => rfl)) pe_int (nomark _)) (pss_cons (ps_set (i := 7) c_law_in_place.nd rfl (.inl rfl) (pv 0)) (pss_cons (ps_augOwn (i := 7) c_law_in_place.nd rfl rfl (pv 1) (inpD T D.ofdiv I.fdiv D.fdiv (hr.mono (by decide)) (takes_of rfl rfl rfl rfl))) (pss_one (ps_if (pt_not (pt_val (pe_callD DI (hr.mono (by decide)) (takes_of rfl rfl rfl rfl) (pa_cons (pv 7) (pa_cons (pe_callD DF (hr.mono (by decide)) (takes_of rfl rfl rfl rfl) (pa_cons (pv 2) (pa_cons (pv 3) pa_nil))) pa_nil))))) (pss_one (ps_ret pe_bl)) pss_nil)))) pss_nil) (pss_one (ps_ret (pe_and (pe_callD DS (hr.mono (by decide)) (takes_of rfl rfl rfl rfl) (pa_cons (pv 0) (pa_cons (pv 2) pa_nil))) (pe_one (pe_callD DS (hr.mono (by decide)) (takes_of rfl rfl rfl rfl) (pa_cons (pv 1) (pa_cons (pv 3) pa_nil))))))))))))))))), ?_⟩
    have p3 : Sm 3000 p := sp.mono (by decide)
    have q3 : Sm 3000 q := sq'.mono (by decide)
    have g0 : ∀ {t4 t5 t6 t7 : Option V} {H1 : Hp}, Same H H1 → Ge (tVar 0) [some (.ref x), some (.ref y), some (.ref a), some (.ref b), t4, t5, t6, t7] H1 (Fr C p) := fun s => ge_self rfl (hx.mono s)
    have g1 : ∀ {t4 t5 t6 t7 : Option V} {H1 : Hp}, Same H H1 → Ge (tVar 1) [some (.ref x), some (.ref y), some (.ref a), some (.ref b), t4, t5, t6, t7] H1 (Fr C q) := fun s => ge_self rfl (hy.mono s)
    have g2 : ∀ {t4 t5 t6 t7 : Option V} {H1 : Hp}, Same H H1 → Ge (tVar 2) [some (.ref x), some (.ref y), some (.ref a), some (.ref b), t4, t5, t6, t7] H1 (Pr p) := fun s => ge_pr rfl (ha.mono s)
    have g3 : ∀ {t4 t5 t6 t7 : Option V} {H1 : Hp}, Same H H1 → Ge (tVar 3) [some (.ref x), some (.ref y), some (.ref a), some (.ref b), t4, t5, t6, t7] H1 (Pr q) := fun s => ge_pr rfl (hb.mono s)
    refine sq_set (ge_var (v := .ref x) rfl) fun v H1 s1 e => ?_
    subst e
    refine sq_aug (f := fun p q => p + q) (b := 3000) rfl (hx.mono s1) (fr_nm (g1 s1)) p3 q3 fun v H2 z2 ⟨c1, e1, f1⟩ => ?_
    subst e1
    have s2 := s1.trans z2
    refine sq_set (ge_var (v := .ref x) rfl) fun v H3 z3 e => ?_
    subst e
    have s3 := s2.trans z3
    refine sq_aug (f := fun p q => p - q) (b := 3000) rfl (hx.mono s3) (fr_nm (g1 s3)) p3 q3 fun v H4 z4 ⟨c2, e2, f2⟩ => ?_
    subst e2
    have s4 := s3.trans z4
    refine sq_set (ge_var (v := .ref x) rfl) fun v H5 z5 e => ?_
    subst e
    have s5 := s4.trans z5
    refine sq_aug (f := fun p q => p * q) (b := 3000) rfl (hx.mono s5) (fr_nm (g1 s5)) p3 q3 fun v H6 z6 ⟨c3, e3, f3⟩ => ?_
    subst e3
    have s6 := s5.trans z6
    refine sq_no (t_true (ge_is (ge_self rfl (f1.mono (((z3.trans z4).trans z5).trans z6))) (ge_P2 (g2 s6) (g3 s6) p3 q3) rfl)) fun H7 z7 => ?_
    have s7 := s6.trans z7
    refine sq_no (t_true (ge_is (ge_self rfl (f3.mono z7)) (ge_P2 (g2 s7) (g3 s7) p3 q3) rfl)) fun H8 z8 => ?_
    have s8 := s7.trans z8
    refine sq_no (t_true (ge_is (ge_self rfl (f2.mono (((z5.trans z6).trans z7).trans z8))) (ge_P2 (g2 s8) (ge_pairN (g3 s8)) p3 q3.neg) (Rat.sub_eq_add_neg p q))) fun H9 z9 => ?_
    have s9 := s8.trans z9
    refine sq (s_if (gt_test (ge_ne (y := .int 0) (ge_p0 (g3 s9)) ge_c rfl)) (fun hb H10 z10 => ?_) (fun hb H10 z10 => s_next ?_))
    · have q0 : q ≠ 0 := fun z => by
        subst z
        exact absurd hb (by decide)
      have s10 := s9.trans z10
      refine sq_set (ge_var (v := .ref x) rfl) fun v H11 z11 e => ?_
      subst e
      have s11 := s10.trans z11
      refine sq_augF (b := 3000) rfl (hx.mono s11) (fr_nm (g1 s11)) p3 q3 q0 fun H12 z12 => ?_
      have s12 := s11.trans z12
      refine s_no (t_true (ge_int (ge_var rfl) (ge_lfl (g2 s12) (g3 s12) p3 q3 q0))) fun H13 z13 => s_next ?_
      have s13 := s12.trans z13
      refine s_ret (ge_andV (b := true) (c := true) (ge_is (g0 s13) (g2 s13) rfl) fun _ => ge_is (g1 s13) (g3 s13) rfl) fun v H14 z14 e => ?_
      rw [e]
      exact kQ H14 (s13.trans z14)
    · have s10 := s9.trans z10
      refine s_ret (ge_andV (b := true) (c := true) (ge_is (g0 s10) (g2 s10) rfl) fun _ => ge_is (g1 s10) (g3 s10) rfl) fun v H14 z14 e => ?_
      rw [e]
      exact kQ H14 (s10.trans z14)


theorem ge_ref3 {E : L2.St → XK} {σ : L2.St} {m : Int} {ta tb tn : TE} (ha : Ge ta σ H (Is (.int m))) (hb : Ge tb σ H (Is (.int 0))) (hn : Ge tn σ H (Is (.int 3))) : Ge (tCallS (spRef C) E (tCons ta (tCons tb (tCons tn tNil)))) σ H (Is (.bl true)) :=
  ge_call (ga3 ha hb hn (Up.is _) (Up.is _)) fun vs H2 s ⟨v, u, z, e, e1, e2, e3⟩ Q q => ⟨.int m, .int 0, 3, by rw [e, e1, e2, e3], .inr (.inr ⟨rfl, m, rfl, rfl⟩), fun H' s' => q _ H' s' rfl⟩
def spMpl : Sp := fun vs H Q _ => ∃ a p, vs = [.ref a] ∧ PrAt H a p ∧ Sm 300 p ∧ ∀ H', Same H H' → Q (.bl true) H'
theorem pr_zero {σ : L2.St} {ta tb : TE} (ha : Ge ta σ H (Is (.int 0))) (hb : Ge tb σ H (Is (.int 1))) : Ge (tTup (tCons ta (tCons tb tNil))) σ H (Pr 0) := ge_pair ha hb
theorem pr_int {σ : L2.St} {ta tb : TE} {n : Int} (ha : Ge ta σ H (Is (.int n))) (hb : Ge tb σ H (Is (.int 1))) : Ge (tTup (tCons ta (tCons tb tNil))) σ H (Pr (n : Rat)) := ge_pair ha hb
theorem d_made_plain (T : FrTxt K mg C Z) (D : FD P w K mg base C Z) (DS : lIs P w K mg base C) (DR : lRef P w K mg base C) (F : GFun K mg "_law_made_plain" s_law_made_plain ["first"]) : Def P w K mg base 9 "_law_made_plain" ["first"] spMpl := by
  refine F.ok c_law_made_plain (fun vs H Q E h => ?_) (fun f cdv A outer s H vs Q E hr h => ?_)
  · obtain ⟨a, p, rfl, _⟩ := h
    rfl
  · obtain ⟨a, p, rfl, ha, sp, kQ⟩ := h
    refine ⟨_, (pss_cons (ps_if (PW.pt (pw_or (pt_not (pt_val (pe_callD DS (hr.mono (by decide)) (takes_of rfl rfl rfl rfl) (pa_cons (pe_makeD0 D.i0 (hr.mono (by decide)) (takes_of rfl rfl rfl rfl)) (pa_cons (pe_tup (pa_cons pe_int (pa_cons pe_int pa_nil))) pa_nil))))) (pw_or1 (pt_not (pt_val (pe_callD DS (hr.mono (by decide)) (takes_of rfl rfl rfl rfl) (pa_cons (pe_makeD D.i1 (hr.mono (by decide)) (takes_of rfl rfl rfl rfl) (pa_cons (pe_ix ix_tup (pv 0) pe_int (fun _ _ => rfl)) pa_nil)) (pa_cons (pe_tup (pa_cons (pe_ix ix_tup (pv 0) pe_int (fun _ _ => rfl)) (pa_cons pe_int pa_nil))) pa_nil)))))))) (pss_one (ps_ret pe_bl)) pss_nil) (pss_cons (ps_if (PW.pt (pw_or (pt_not (pt_val (pe_callD DR (hr.mono (by decide)) (takes_of rfl rfl rfl rfl) (pa_cons (pe_ix ix_tup (pv 0) pe_int (fun _ _ => rfl)) (pa_cons pe_int (pa_cons pe_int pa_nil)))))) (pw_or1 (pt_not (pt_val (pe_callD DR (hr.mono (by decide)) (takes_of rfl rfl rfl rfl) (pa_cons pe_int (pa_cons pe_int (pa_cons pe_int pa_nil))))))))) (pss_one (ps_ret pe_bl)) pss_nil) (pss_one (ps_ret (pe_callD DS (hr.mono (by decide)) (takes_of rfl rfl rfl rfl) (pa_cons (pe_makeD D.i2 (hr.mono (by decide)) (takes_of rfl rfl rfl rfl) (pa_cons pe_int (pa_cons (pe_un un_neg (pe_ix ix_tup (pv 0) pe_int (fun _ _ => rfl))) pa_nil))) (pa_cons (pe_tup (pa_cons pe_int (pa_cons pe_int pa_nil))) pa_nil))))))), ?_⟩
    have g0 : ∀ {H1 : Hp}, Same H H1 → Ge (tVar 0) [some (.ref a)] H1 (Pr p) := fun s => ge_pr rfl (ha.mono s)
    refine sq_no (gt_or (b := false) (c := false) (t_true (ge_is ge_mk0 (pr_zero ge_c ge_c) rfl)) fun _ => t_true (ge_is (ge_mk1 (ge_p0 (g0 (Same.refl _)))) (pr_int (ge_p0 (g0 (Same.refl _))) ge_c) rfl)) fun H1 s1 => ?_
    refine sq_no (gt_or (b := false) (c := false) (t_true (ge_ref3 (ge_p0 (g0 s1)) ge_c ge_c)) fun _ => t_true (ge_ref3 (m := 0) ge_c ge_c ge_c)) fun H2 z2 => ?_
    have s2 := s1.trans z2
    refine s_ret (ge_is (r := 0) (r' := 0) (by rw [← Rat.zero_divInt (-(p.den : Int))]; exact ge_mk2 ge_c (ge_unN (ge_p1 (g0 s2))) (by rw [Int.natAbs_neg]; exact lt8 sp.d (by decide)) (by have := den_pos' p; omega)) (pr_zero ge_c ge_c) rfl) fun v H3 z3 e => ?_
    rw [e]
    exact kQ H3 (s2.trans z3)

end
end Bp

namespace Bp
open PySem.Spec PySem PyProof.Rows
open L2 hiding St
section
variable {P : Program} {w : World} {K : PySem.W.Frag} {mg : Str → Option Value} {base : Heap} {C Z BE BN : Addr} {H : Hp} {Q : VK} {E : XK}
/-! ### the law -/
section
variable {σ : L2.St} {D : Ends} {t1 t2 : TS} {N : L2.St → Hp → Prop} {te : TE}
theorem s_fork (N : L2.St → Hp → Prop) (h : ∀ D' : Ends, D'.rt = D.rt → (∀ σ' H', N σ' H' → D'.nx σ' H') → t1 D' σ H) (k : ∀ σ' H', N σ' H' → t2 D σ' H') : tSeq t1 t2 D σ H := h { D with nx := t2 D } rfl k
theorem is_fr {x : Addr} {p : Rat} (h : Ge te σ H (Is (.ref x))) (f : FrAt C H x p) : Ge te σ H (Fr C p) := h.imp fun v H1 s e => ⟨x, e, f.mono s⟩
theorem is_nv {y : V} {p : Rat} (h : Ge te σ H (Is y)) (f : NumV C H y p) : Ge te σ H (Nm C p) := h.imp fun v H1 s e => by rw [show v = y from e]; exact f.mono s
theorem is_prt {a : Addr} {p : Rat} (h : Ge te σ H (Is (.ref a))) (f : PrAt H a p) : Ge te σ H (Pr p) := h.imp fun v H1 s e => ⟨a, e, f.mono s⟩
theorem ge_four {sp : Sp} {E : L2.St → XK} {ta tb tc td : TE} {x y z u : V} (h0 : Ge ta σ H (Is x)) (h1 : Ge tb σ H (Is y)) (h2 : Ge tc σ H (Is z)) (h3 : Ge td σ H (Is u))
    (h : ∀ H1, Same H H1 → ∀ Q : VK, (∀ H2, Same H1 H2 → Q (.bl true) H2) → sp [x, y, z, u] H1 Q (E σ)) : Ge (tCallS sp E (tCons ta (tCons tb (tCons tc (tCons td tNil))))) σ H (Is (.bl true)) :=
  ge_call (ga4 h0 h1 h2 h3 (Up.is _) (Up.is _) (Up.is _)) fun vs H1 s ⟨v0, v1, v2, v3, e, e0, e1, e2, e3⟩ Q q => by
    rw [e, e0, e1, e2, e3]
    exact h H1 s Q fun H2 s2 => q _ H2 s2 rfl
theorem ge_two2 {sp : Sp} {E : L2.St → XK} {ta tb : TE} {x y : V} (h0 : Ge ta σ H (Is x)) (h1 : Ge tb σ H (Is y))
    (h : ∀ H1, Same H H1 → ∀ Q : VK, (∀ H2, Same H1 H2 → Q (.bl true) H2) → sp [x, y] H1 Q (E σ)) : Ge (tCallS sp E (tCons ta (tCons tb tNil))) σ H (Is (.bl true)) :=
  ge_call (ga2 h0 h1 (Up.is _)) fun vs H1 s ⟨v0, v1, e, e0, e1⟩ Q q => by
    rw [e, e0, e1]
    exact h H1 s Q fun H2 s2 => q _ H2 s2 rfl
theorem ge_one1 {sp : Sp} {E : L2.St → XK} {ta : TE} {x : V} (h0 : Ge ta σ H (Is x))
    (h : ∀ H1, Same H H1 → ∀ Q : VK, (∀ H2, Same H1 H2 → Q (.bl true) H2) → sp [x] H1 Q (E σ)) : Ge (tCallS sp E (tCons ta tNil)) σ H (Is (.bl true)) :=
  ge_call (ga1 h0 (Up.is _)) fun vs H1 s ⟨v0, e, e0⟩ Q q => by
    rw [e, e0]
    exact h H1 s Q fun H2 s2 => q _ H2 s2 rfl
/-- the script's first cells -/
abbrev ScrV (K : PySem.W.Frag) : VP := fun v H => ∃ b ns, v = .ref b ∧ Scr K H b ns
theorem ge_cut {a : Addr} {ns : List Int} (hs : σ[0]? = some (some (.ref a))) (h : Scr K H a ns) : Ge (tSl (rSlL K) (tVar 0) tNoPart (tPart (tC (.int 63)))) σ H (ScrV K) := fun H1 s Q q =>
  ⟨_, hs, 63, rfl, a, ns.map V.int, rfl, s.seq h.1, fun p hp => by
    refine q _ _ (Same.new hp) ⟨p, ((ns.drop (HT.sIx (ns.map V.int).length 0 none)).take (HT.sIx (ns.map V.int).length (ns.map V.int).length (some 63) - HT.sIx (ns.map V.int).length 0 none)), rfl, ?_, ?_⟩
    · rw [List.map_take, List.map_drop]
      exact SqL.of upd_same
    · rw [List.length_take, List.length_drop]
      have := h.2
      omega⟩
abbrev SmI : VP := fun v _ => ∃ n : Int, v = .int n ∧ n.natAbs < 2 ^ 140
abbrev SmP : VP := fun v _ => ∃ n : Int, v = .int n ∧ 0 < n ∧ n.natAbs < 2 ^ 140
theorem ge_numer {E : L2.St → XK} {ta tb : TE} {a : Addr} {ns : List Int} {k : Int} (ha : Ge ta σ H (Is (.ref a))) (hb : Ge tb σ H (Is (.int k))) (hs : Scr K H a ns) (k0 : 0 ≤ k) (k1 : k ≤ 200) : Ge (tCallS (spNum K) E (tCons ta (tCons tb tNil))) σ H SmI :=
  ge_call (ga2 ha hb (Up.is _)) fun vs H1 s ⟨v, u, e, e1, e2⟩ Q q => ⟨a, ns, k, by rw [e, e1, e2], hs.mono s, k0, k1, fun n H' hn s' => q _ H' s' ⟨n, rfl, hn⟩⟩
theorem ge_denom {E : L2.St → XK} {ta tb : TE} {a : Addr} {ns : List Int} {k : Int} (ha : Ge ta σ H (Is (.ref a))) (hb : Ge tb σ H (Is (.int k))) (hs : Scr K H a ns) (k0 : 0 ≤ k) (k1 : k ≤ 200) : Ge (tCallS (spDen K) E (tCons ta (tCons tb tNil))) σ H SmP :=
  ge_call (ga2 ha hb (Up.is _)) fun vs H1 s ⟨v, u, e, e1, e2⟩ Q q => ⟨a, ns, k, by rw [e, e1, e2], hs.mono s, k0, k1, fun n H' n0 hn s' => q _ H' s' ⟨n, rfl, n0, hn⟩⟩
/-- a pair in lowest terms of moderate size -/
abbrev PrS : VP := fun v H => ∃ r, Pr r v H ∧ Sm 140 r
theorem ge_lowS {E : L2.St → XK} {ta tb : TE} (ha : Ge ta σ H SmI) (hb : Ge tb σ H SmP) : Ge (tCallS spLow E (tCons ta (tCons tb tNil))) σ H PrS :=
  ge_call (ga2 ha hb fun _ _ _ h _ => h) fun vs H1 s ⟨v, u, e, ⟨n, e1, hn⟩, d, e2, d0, hd⟩ Q q => ⟨n, d, by rw [e, e1, e2], by omega, lt8 hd (by decide), fun v H' s' h => q v H' s' ⟨_, h, sm_divInt (by omega) hn hd⟩⟩
theorem ge_made {E : L2.St → XK} {ta tb : TE} {lo hi : Int} {r : Rat} (ha : Ge ta σ H (Pr r)) (hb : Ge tb σ H (IntIn lo hi)) (sr : Sm 3000 r) : Ge (tCallS (spMade C) E (tCons ta (tCons tb tNil))) σ H (Fr C r) :=
  ge_call (ga2 ha hb (up_tup _)) fun vs H1 s ⟨v, u, e, ⟨x, ex, hx⟩, c, ec, _⟩ Q q => ⟨x, c, r, by rw [e, ex, ec], hx, sr, ret_of q⟩
/-- xs.append(e) -/
theorem s_app {i : Nat} {al : Addr} {xs : List V} {PA : VP} (hi : σ[i]? = some (some (.ref al))) (hl : H al = some (.lst xs)) (hz : xs.length ≤ 900) (he : Ge te σ H PA) (k : ∀ v H1, Same H H1 → PA v H1 → D.nx σ (upd H1 al (.lst (xs ++ [v])))) :
    tDrop (tBM K "list" rAppend (tVar i) (tCons te tNil)) D σ H :=
  ⟨_, hi, .inl ⟨rfl, xs, SqL.of hl⟩, he H (Same.refl _) _ fun v H1 s p => ⟨al, xs, v, rfl, rfl, s _ _ hl, Nat.lt_of_le_of_lt hz (small1000 (by decide)), k v H1 s p⟩⟩
end
theorem upd_keep {l x : Addr} {xs ys : List V} {o : HO} (hl : H l = some (.lst xs)) (hx : H x = some o) (no : ∀ zs, o ≠ .lst zs) : upd H l (.lst ys) x = some o := by
  by_cases e : x = l
  · subst e
    rw [hl] at hx
    exact absurd (Option.some.inj hx).symm (no xs)
  · rw [upd_ne e]
    exact hx
theorem FrAt.upd {l x : Addr} {xs ys : List V} {p : Rat} (hl : H l = some (.lst xs)) (f : FrAt C H x p) : FrAt C (upd H l (.lst ys)) x p := let ⟨dx, e⟩ := f; ⟨dx, upd_keep hl e fun _ z => nomatch z⟩
theorem PrAt.upd {l x : Addr} {xs ys : List V} {p : Rat} (hl : H l = some (.lst xs)) (f : PrAt H x p) : PrAt (upd H l (.lst ys)) x p := upd_keep hl f fun _ z => nomatch z
theorem NumV.upd {l : Addr} {x : V} {xs ys : List V} {p : Rat} (hl : H l = some (.lst xs)) (f : NumV C H x p) : NumV C (upd H l (.lst ys)) x p := f.imp id fun ⟨a, e, g⟩ => ⟨a, e, g.upd hl⟩
/-- what is asked: a Frac, a number, their pairs -/
def ItemAt (C : Addr) (H : Hp) (v : V) : Prop := ∃ t x y a b p q, v = .ref t ∧ H t = some (.tup [.ref x, y, .ref a, .ref b]) ∧ FrAt C H x p ∧ NumV C H y q ∧ PrAt H a p ∧ PrAt H b q ∧ Sm 140 p ∧ Sm 140 q
theorem ItemAt.mono {H' : Hp} {v : V} (h : ItemAt C H v) (s : Same H H') : ItemAt C H' v := let ⟨t, x, y, a, b, p, q, e, h1, h2, h3, h4, h5, h6, h7⟩ := h; ⟨t, x, y, a, b, p, q, e, s _ _ h1, h2.mono s, h3.mono s, h4.mono s, h5.mono s, h6, h7⟩
theorem ItemAt.upd {v : V} {l : Addr} {xs ys : List V} (hl : H l = some (.lst xs)) (h : ItemAt C H v) : ItemAt C (upd H l (.lst ys)) v :=
  let ⟨t, x, y, a, b, p, q, e, h1, h2, h3, h4, h5, h6, h7⟩ := h; ⟨t, x, y, a, b, p, q, e, upd_keep (ys := ys) hl h1 (fun _ z => nomatch z), h2.upd hl, h3.upd hl, h4.upd hl, h5.upd hl, h6, h7⟩
theorem ge_item {σ : L2.St} {ta tb tc td : TE} {x a b : Addr} {y : V} {p q : Rat} (h0 : Ge ta σ H (Is (.ref x))) (h1 : Ge tb σ H (Is y)) (h2 : Ge tc σ H (Is (.ref a))) (h3 : Ge td σ H (Is (.ref b))) (fx : FrAt C H x p) (ny : NumV C H y q) (ha : PrAt H a p) (hb : PrAt H b q) (sp : Sm 140 p) (sq : Sm 140 q) :
    Ge (tTup (tCons ta (tCons tb (tCons tc (tCons td tNil))))) σ H (fun v H' => ItemAt C H' v) :=
  (ge_tupI (xs := [.ref x, y, .ref a, .ref b]) (ga_is h0 (ga_is h1 (ga_is h2 (ga_is h3 ga_0)))) (show 4 ≤ 1000 by decide)).imp fun v H1 s ⟨t, e, ht⟩ => ⟨t, x, y, a, b, p, q, e, ht, fx.mono s, ny.mono s, ha.mono s, hb.mono s, sp, sq⟩
theorem ge_asked {σ : L2.St} {ta tb : TE} (h1 : Ge ta σ H (fun v H' => ItemAt C H' v)) (h2 : Ge tb σ H (fun v H' => ItemAt C H' v)) : Ge (tLst (tCons ta (tCons tb tNil))) σ H (fun v H' => ∃ al xs, v = .ref al ∧ H' al = some (.lst xs) ∧ xs.length ≤ 2 ∧ ∀ u ∈ xs, ItemAt C H' u) := fun H1 s Q q =>
  h1 H1 s _ fun v H2 s2 i2 => h2 H2 (s.trans s2) _ fun u H3 s3 i3 => ⟨Nat.le_of_lt (small1000 (show 2 ≤ 1000 by decide)), fun al hal => q _ _ ((s2.trans s3).trans (Same.new hal)) ⟨al, [v, u], rfl, upd_same, Nat.le_refl _, fun z hz => by
    rcases List.mem_cons.mp hz with rfl | hz
    · exact i2.mono (s3.trans (Same.new hal))
    · rcases List.mem_cons.mp hz with rfl | hz
      · exact i3.mono (Same.new hal)
      · cases hz⟩⟩
structure Held (C : Addr) (H : Hp) (o t l r : Addr) (p q : Rat) : Prop where
  o : PrAt H o p
  t : PrAt H t q
  l : FrAt C H l p
  r : FrAt C H r q
theorem Held.mono {H' : Hp} {o t l r : Addr} {p q : Rat} (h : Held C H o t l r p q) (s : Same H H') : Held C H' o t l r p q := ⟨h.o.mono s, h.t.mono s, h.l.mono s, h.r.mono s⟩
theorem Held.upd {o t l r al : Addr} {xs ys : List V} {p q : Rat} (hl : H al = some (.lst xs)) (h : Held C H o t l r p q) : Held C (upd H al (.lst ys)) o t l r p q := ⟨h.o.upd hl, h.t.upd hl, h.l.upd hl, h.r.upd hl⟩
theorem whole_num {p : Rat} (h : p.den = 1) : p = (p.num : Rat) := by
  have e := divInt_self p
  rw [h] at e
  rw [← divInt_one]
  exact e.symm
def spLaw (K : PySem.W.Frag) : Sp := fun vs H Q _ => ∃ a ns, vs = [.ref a] ∧ Scr K H a ns ∧ ∀ H', Q (.bl true) H'


theorem d_law (T : FrTxt K mg C Z) (B : BT mg) (DS : lIs P w K mg base C) (DL : lLow P w K mg base) (DC : Def P w K mg base 1 "_law_cell" ["script", "k"] (spCell K)) (DNu : Def P w K mg base 3 "_law_numerator" ["script", "k"] (spNum K)) (DDe : Def P w K mg base 3 "_law_denominator" ["script", "k"] (spDen K))
    (DMa : Def P w K mg base 3 "_law_made" ["value", "cell"] (spMade C)) (DMp : Def P w K mg base 9 "_law_made_plain" ["first"] spMpl) (DOv : Def P w K mg base 9 "_law_over" ["left", "right", "first", "second"] (spOvr C)) (DOp : Def P w K mg base 9 "_law_operators" ["left", "right", "first", "second"] (spOps C))
    (DOr : Def P w K mg base 9 "_law_orders" ["left", "right", "first", "second"] (spOrd C)) (DSi : Def P w K mg base 9 "_law_single" ["value", "due"] (spSin C)) (DPw : Def P w K mg base 9 "_law_powers" ["value", "due"] (spPws C)) (DIn : Def P w K mg base 9 "_law_in_place" ["kept", "right", "first", "second"] (spInp C))
    {ff : Addr} {fd : FuncData} (F : L2.Fun K "law" "law" s_law ff fd) : FnOk P w K mg base (L2.CX P w) 10 ff fd ["script"] (spLaw K) := by
  refine F.okX c_law (fun vs H Q E h => ?_) (fun cdv A outer s H vs Q E hr h => ?_)
  · obtain ⟨a, ns, rfl, _⟩ := h
    rfl
  · obtain ⟨a, ns, rfl, hs, kQ⟩ := h
    refine ⟨_, (pss_cons (ps_set (i := 0) c_law.nd rfl (.inl rfl) (pe_slice sl_list (pv 0) po_none (po_some pe_int))) (pss_cons (ps_set (i := 1) c_law.nd rfl (.inl rfl) (pe_callD DL (hr.mono (by decide)) (takes_of rfl rfl rfl rfl) (pa_cons (pe_callD DNu (hr.mono (by decide)) (takes_of rfl rfl rfl rfl) (pa_cons (pv 0) (pa_cons pe_int pa_nil))) (pa_cons (pe_callD DDe (hr.mono (by decide)) (takes_of rfl rfl rfl rfl) (pa_cons (pv 0) (pa_cons pe_int pa_nil))) pa_nil)))) (pss_cons (ps_set (i := 2) c_law.nd rfl (.inl rfl) (pe_callD DL (hr.mono (by decide)) (takes_of rfl rfl rfl rfl) (pa_cons (pe_callD DNu (hr.mono (by decide)) (takes_of rfl rfl rfl rfl) (pa_cons (pv 0) (pa_cons pe_int pa_nil))) (pa_cons (pe_callD DDe (hr.mono (by decide)) (takes_of rfl rfl rfl rfl) (pa_cons (pv 0) (pa_cons pe_int pa_nil))) pa_nil)))) (pss_cons (ps_set (i := 3) c_law.nd rfl (.inl rfl) (pe_op op_mod (pe_callTy call_int1 (by rfl) B.int (by decide +kernel) (pa_cons (pe_callD DC (hr.mono (by decide)) (takes_of rfl rfl rfl rfl) (pa_cons (pv 0) (pa_cons pe_int pa_nil))) pa_nil)) pe_int)) (pss_cons (ps_if (pt_cmpR op_eq (pv 3) pe_int (nomark _)) (pss_one (ps_set (i := 2) c_law.nd rfl (.inl rfl) (pv 1))) (pss_one (ps_if (pt_cmpR op_eq (pv 3) pe_int (nomark _)) (pss_one (ps_set (i := 2) c_law.nd rfl (.inl rfl) (pe_tup (pa_cons (pe_un un_neg (pe_ix ix_tup (pv 1) pe_int (fun _ _ => rfl))) (pa_cons (pe_ix ix_tup (pv 1) pe_int (fun _ _ => rfl)) pa_nil))))) (pss_one (ps_if (pt_cmpR op_eq (pv 3) pe_int (nomark _)) (pss_one (ps_set (i := 2) c_law.nd rfl (.inl rfl) (pe_tup (pa_cons pe_int (pa_cons pe_int pa_nil))))) (pss_one (ps_if (pt_cmpR op_eq (pv 3) pe_int (nomark _)) (pss_one (ps_set (i := 1) c_law.nd rfl (.inl rfl) (pe_tup (pa_cons pe_int (pa_cons pe_int pa_nil))))) (pss_one (ps_if (PW.pt (pw_and (pt_cmpR op_eq (pv 3) pe_int (nomark _)) (pw_and1 (pt_cmpR op_ne (pe_ix ix_tup (pv 1) pe_int (fun _ _ => rfl)) pe_int (nomark _))))) (pss_one (ps_set (i := 2) c_law.nd rfl (.inl rfl) (pe_callD DL (hr.mono (by decide)) (takes_of rfl rfl rfl rfl) (pa_cons (pe_ix ix_tup (pv 1) pe_int (fun _ _ => rfl)) (pa_cons (pe_ix ix_tup (pv 1) pe_int (fun _ _ => rfl)) pa_nil))))) pss_nil))))))))) (pss_cons (ps_set (i := 4) c_law.nd rfl (.inl rfl) (pe_callD DMa (hr.mono (by decide)) (takes_of rfl rfl rfl rfl) (pa_cons (pv 1) (pa_cons (pe_callD DC (hr.mono (by decide)) (takes_of rfl rfl rfl rfl) (pa_cons (pv 0) (pa_cons pe_int pa_nil))) pa_nil)))) (pss_cons (ps_set (i := 5) c_law.nd rfl (.inl rfl) (pe_callD DMa (hr.mono (by decide)) (takes_of rfl rfl rfl rfl) (pa_cons (pv 2) (pa_cons (pe_callD DC (hr.mono (by decide)) (takes_of rfl rfl rfl rfl) (pa_cons (pv 0) (pa_cons pe_int pa_nil))) pa_nil)))) (pss_cons (ps_if (PW.pt (pw_or (pt_not (pt_val (pe_callD DS (hr.mono (by decide)) (takes_of rfl rfl rfl rfl) (pa_cons (pv 4) (pa_cons (pv 1) pa_nil))))) (pw_or (pt_not (pt_val (pe_callD DS (hr.mono (by decide)) (takes_of rfl rfl rfl rfl) (pa_cons (pv 5) (pa_cons (pv 2) pa_nil))))) (pw_or1 (pt_not (pt_val (pe_callD DMp (hr.mono (by decide)) (takes_of rfl rfl rfl rfl) (pa_cons (pv 1) pa_nil)))))))) (pss_one (ps_ret pe_bl)) pss_nil) (pss_cons (ps_if (pt_not (pt_val (pe_callD DOv (hr.mono (by decide)) (takes_of rfl rfl rfl rfl) (pa_cons (pv 5) (pa_cons (pv 4) (pa_cons (pv 2) (pa_cons (pv 1) pa_nil))))))) (pss_one (ps_ret pe_bl)) pss_nil) (pss_cons (ps_set (i := 6) c_law.nd rfl (.inl rfl) (pe_lst (pa_cons (pe_tup (pa_cons (pv 4) (pa_cons (pv 5) (pa_cons (pv 1) (pa_cons (pv 2) pa_nil))))) (pa_cons (pe_tup (pa_cons (pv 4) (pa_cons (pv 4) (pa_cons (pv 1) (pa_cons (pv 1) pa_nil))))) pa_nil)))) (pss_cons (ps_if (pt_cmpR op_eq (pe_ix ix_tup (pv 1) pe_int (fun _ _ => rfl)) pe_int (nomark _)) (pss_one (ps_expr (pe_bm PySem.F.plainAttrs_list PySem.F.slot_list_append PySem.F.type_list_append mt_append (pv 6) (pa_cons (pe_tup (pa_cons (pv 5) (pa_cons (pe_ix ix_tup (pv 1) pe_int (fun _ _ => rfl)) (pa_cons (pv 2) (pa_cons (pv 1) pa_nil))))) pa_nil)))) pss_nil) (pss_cons (ps_if (pt_cmpR op_eq (pe_ix ix_tup (pv 2) pe_int (fun _ _ => rfl)) pe_int (nomark _)) (pss_one (ps_expr (pe_bm PySem.F.plainAttrs_list PySem.F.slot_list_append PySem.F.type_list_append mt_append (pv 6) (pa_cons (pe_tup (pa_cons (pv 4) (pa_cons (pe_ix ix_tup (pv 2) pe_int (fun _ _ => rfl)) (pa_cons (pv 1) (pa_cons (pv 2) pa_nil))))) pa_nil)))) pss_nil) (pss_cons (ps_for (passes_of rfl) rfl (pi_list (pv 6)) (pg_name (i := 7) c_law.nd rfl (.inl rfl)) (pss_cons (ps_if (pt_not (pt_val (pe_callD DOp (hr.mono (by decide)) (takes_of rfl rfl rfl rfl) (pa_cons (pe_ix ix_tup (pv 7) pe_int (fun _ _ => rfl)) (pa_cons (pe_ix ix_tup (pv 7) pe_int (fun _ _ => rfl)) (pa_cons (pe_ix ix_tup (pv 7) pe_int (fun _ _ => rfl)) (pa_cons (pe_ix ix_tup (pv 7) pe_int (fun _ _ => rfl)) pa_nil))))))) (pss_one (ps_ret pe_bl)) pss_nil) (pss_cons (ps_if (pt_not (pt_val (pe_callD DOp (hr.mono (by decide)) (takes_of rfl rfl rfl rfl) (pa_cons (pe_ix ix_tup (pv 7) pe_int (fun _ _ => rfl)) (pa_cons (pe_ix ix_tup (pv 7) pe_int (fun _ _ => rfl)) (pa_cons (pe_ix ix_tup (pv 7) pe_int (fun _ _ => rfl)) (pa_cons (pe_ix ix_tup (pv 7) pe_int (fun _ _ => rfl)) pa_nil))))))) (pss_one (ps_ret pe_bl)) pss_nil) (pss_cons (ps_if (pt_not (pt_val (pe_callD DOr (hr.mono (by decide)) (takes_of rfl rfl rfl rfl) (pa_cons (pe_ix ix_tup (pv 7) pe_int (fun _ _ => rfl)) (pa_cons (pe_ix ix_tup (pv 7) pe_int (fun _ _ => rfl)) (pa_cons (pe_ix ix_tup (pv 7) pe_int (fun _ _ => rfl)) (pa_cons (pe_ix ix_tup (pv 7) pe_int (fun _ _ => rfl)) pa_nil))))))) (pss_one (ps_ret pe_bl)) pss_nil) (pss_cons (ps_if (pt_not (pt_val (pe_callD DOr (hr.mono (by decide)) (takes_of rfl rfl rfl rfl) (pa_cons (pe_ix ix_tup (pv 7) pe_int (fun _ _ => rfl)) (pa_cons (pe_ix ix_tup (pv 7) pe_int (fun _ _ => rfl)) (pa_cons (pe_ix ix_tup (pv 7) pe_int (fun _ _ => rfl)) (pa_cons (pe_ix ix_tup (pv 7) pe_int (fun _ _ => rfl)) pa_nil))))))) (pss_one (ps_ret pe_bl)) pss_nil) (pss_one (ps_if (pt_not (pt_val (pe_callD DOv (hr.mono (by decide)) (takes_of rfl rfl rfl rfl) (pa_cons (pe_ix ix_tup (pv 7) pe_int (fun _ _ => rfl)) (pa_cons (pe_ix ix_tup (pv 7) pe_int (fun _ _ => rfl)) (pa_cons (pe_ix ix_tup (pv 7) pe_int (fun _ _ => rfl)) (pa_cons (pe_ix ix_tup (pv 7) pe_int (fun _ _ => rfl)) pa_nil))))))) (pss_one (ps_ret pe_bl)) pss_nil))))))) (pss_cons (ps_if (PW.pt (pw_or (pt_not (pt_val (pe_callD DSi (hr.mono (by decide)) (takes_of rfl rfl rfl rfl) (pa_cons (pv 4) (pa_cons (pv 1) pa_nil))))) (pw_or1 (pt_not (pt_val (pe_callD DSi (hr.mono (by decide)) (takes_of rfl rfl rfl rfl) (pa_cons (pv 5) (pa_cons (pv 2) pa_nil)))))))) (pss_one (ps_ret pe_bl)) pss_nil) (pss_cons (ps_if (PW.pt (pw_or (pt_not (pt_val (pe_callD DPw (hr.mono (by decide)) (takes_of rfl rfl rfl rfl) (pa_cons (pv 4) (pa_cons (pv 1) pa_nil))))) (pw_or1 (pt_not (pt_val (pe_callD DIn (hr.mono (by decide)) (takes_of rfl rfl rfl rfl) (pa_cons (pv 4) (pa_cons (pv 5) (pa_cons (pv 1) (pa_cons (pv 2) pa_nil)))))))))) (pss_one (ps_ret pe_bl)) pss_nil) (pss_one (ps_ret (pe_and (pe_callD DS (hr.mono (by decide)) (takes_of rfl rfl rfl rfl) (pa_cons (pv 4) (pa_cons (pv 1) pa_nil))) (pe_one (pe_callD DS (hr.mono (by decide)) (takes_of rfl rfl rfl rfl) (pa_cons (pv 5) (pa_cons (pv 2) pa_nil)))))))))))))))))))))), ?_⟩
    refine sq_set (ge_cut rfl hs) fun v H1 s1 ⟨b, ms, e, hm⟩ => ?_
    subst e
    refine sq_set (ge_lowS (ge_numer (k := 0) (ge_var rfl) ge_c hm (by decide) (by decide)) (ge_denom (k := 1) (ge_var rfl) ge_c hm (by decide) (by decide))) fun v H2 s2 ⟨p0, ⟨o0, eo, ho⟩, so⟩ => ?_
    subst eo
    refine sq_set (ge_lowS (ge_numer (k := 2) (ge_var rfl) ge_c (hm.mono s2) (by decide) (by decide)) (ge_denom (k := 3) (ge_var rfl) ge_c (hm.mono s2) (by decide) (by decide))) fun v H3 s3 ⟨q0, ⟨t0, et, ht⟩, st⟩ => ?_
    subst et
    refine sq_set (ge_modIn (ge_intIn (ge_cell (k := 4) (ge_var rfl) ge_c (hm.mono (s2.trans s3)) (by decide) (by decide))) ge_c (by decide)) fun v H4 s4 ⟨rel, er, _, _⟩ => ?_
    subst er
    have ho4 : PrAt H4 o0 p0 := PrAt.mono ho (s3.trans s4)
    have ht4 : PrAt H4 t0 q0 := PrAt.mono ht s4
    have hm4 : Scr K H4 b ms := hm.mono ((s2.trans s3).trans s4)
    have sm0 : Sm 140 (0 : Rat) := ⟨Nat.pow_pos (by decide), Nat.lt_of_lt_of_le (by decide : (1 : Nat) < 2 ^ 1) (pow_le (by decide))⟩
    refine s_fork (fun σ' H' => ∃ o t p q, σ' = [some (.ref b), some (.ref o), some (.ref t), some (.int rel), none, none, none, none] ∧ Same H4 H' ∧ PrAt H' o p ∧ PrAt H' t q ∧ Sm 140 p ∧ Sm 140 q) (fun D' _ kD => ?_) ?_
    · refine s_if (gt_test (ge_eq (y := .int 0) (ge_var rfl) ge_c rfl)) (fun _ H5 s5 => ?_) (fun _ H5 s5 => ?_)
      · refine s_set (ge_var rfl) fun v H6 s6 e => ?_
        subst e
        exact kD _ _ ⟨o0, o0, p0, p0, rfl, s5.trans s6, ho4.mono (s5.trans s6), ho4.mono (s5.trans s6), so, so⟩
      refine s_if (gt_test (ge_eq (y := .int 1) (ge_var rfl) ge_c rfl)) (fun _ H6 s6' => ?_) (fun _ H6 s6' => ?_)
      · have s6 := s5.trans s6'
        refine s_set (ge_pairN (ge_pr rfl (ho4.mono s6))) fun v H7 s7 ⟨t, e, h⟩ => ?_
        subst e
        exact kD _ _ ⟨o0, t, p0, -p0, rfl, s6.trans s7, ho4.mono (s6.trans s7), h, so, so.neg⟩
      have s6 := s5.trans s6'
      refine s_if (gt_test (ge_eq (y := .int 2) (ge_var rfl) ge_c rfl)) (fun _ H7 s7' => ?_) (fun _ H7 s7' => ?_)
      · have s7 := s6.trans s7'
        refine s_set (pr_zero ge_c ge_c) fun v H8 s8 ⟨t, e, h⟩ => ?_
        subst e
        exact kD _ _ ⟨o0, t, p0, 0, rfl, s7.trans s8, ho4.mono (s7.trans s8), h, so, sm0⟩
      have s7 := s6.trans s7'
      refine s_if (gt_test (ge_eq (y := .int 3) (ge_var rfl) ge_c rfl)) (fun _ H8 s8' => ?_) (fun _ H8 s8' => ?_)
      · have s8 := s7.trans s8'
        refine s_set (pr_zero ge_c ge_c) fun v H9 s9 ⟨o, e, h⟩ => ?_
        subst e
        exact kD _ _ ⟨o, t0, 0, q0, rfl, s8.trans s9, h, ht4.mono (s8.trans s9), sm0, st⟩
      have s8 := s7.trans s8'
      refine s_if (gt_and (gt_test (ge_eq (y := .int 4) (ge_var rfl) ge_c rfl)) fun _ => gt_test (ge_ne (y := .int 0) (ge_p0 (ge_pr rfl (ho4.mono s8))) ge_c rfl)) (fun hb H9 s9' => ?_) (fun _ H9 s9' => ?_)
      · have s9 := s8.trans s9'
        have n0 : p0.num ≠ 0 := by
          intro z
          rw [z] at hb
          simp at hb
        refine s_set (ge_low (ge_p1 (ge_pr rfl (ho4.mono s9))) (ge_p0 (ge_pr rfl (ho4.mono s9))) n0 (lt8 so.1 (by decide))) fun v H10 s10 ⟨t, e, h⟩ => ?_
        subst e
        exact kD _ _ ⟨o0, t, p0, _, rfl, s9.trans s10, ho4.mono (s9.trans s10), h, so, sm_divInt n0 so.d so.1⟩
      · have s9 := s8.trans s9'
        exact kD _ _ ⟨o0, t0, p0, q0, rfl, s9, ho4.mono s9, ht4.mono s9, so, st⟩
    · rintro σ' H5 ⟨o, t, p, q, rfl, s5, ho5, ht5, sp, sq'⟩
      have hm5 := hm4.mono s5
      have p3 : Sm 3000 p := sp.mono (by decide)
      have q3 : Sm 3000 q := sq'.mono (by decide)
      have p4 : Sm 300 p := sp.mono (by decide)
      have q4 : Sm 300 q := sq'.mono (by decide)
      refine sq_set (ge_made (r := p) (ge_pr rfl ho5) (ge_cell (k := 5) (ge_var rfl) ge_c hm5 (by decide) (by decide)) p3) fun v H6 s6 ⟨l, e, fl6⟩ => ?_
      subst e
      refine sq_set (ge_made (r := q) (ge_pr rfl (ht5.mono s6)) (ge_cell (k := 6) (ge_var rfl) ge_c (hm5.mono s6) (by decide) (by decide)) q3) fun v H7 s7 ⟨r, e, fr7⟩ => ?_
      subst e
      have hd : Held C H7 o t l r p q := ⟨ho5.mono (s6.trans s7), ht5.mono (s6.trans s7), fl6.mono s7, fr7⟩
      clear ho5 ht5 fl6 fr7
      refine sq_no (gt_or (b := false) (c := false) (t_true (ge_is (ge_self rfl hd.l) (ge_pr rfl hd.o) rfl)) fun _ => gt_or (b := false) (c := false) (t_true (ge_is (ge_self rfl hd.r) (ge_pr rfl hd.t) rfl)) fun _ => t_true (ge_one1 (ge_var (v := .ref o) rfl) fun H1 s Q k => ⟨o, p, rfl, hd.o.mono s, p4, k⟩)) fun H8 s8 => ?_
      have hd8 := hd.mono s8
      refine sq_no (t_true (ge_four (ge_var (v := .ref r) rfl) (ge_var (v := .ref l) rfl) (ge_var (v := .ref t) rfl) (ge_var (v := .ref o) rfl) fun H1 s Q k => ⟨r, .ref l, t, o, q, p, rfl, hd8.r.mono s, (hd8.l.mono s).num, hd8.t.mono s, hd8.o.mono s, q4, p4, k⟩)) fun H9 s9 => ?_
      have hd9 := hd8.mono s9
      refine sq_set (ge_asked (ge_item (ge_var (v := .ref l) rfl) (ge_var (v := .ref r) rfl) (ge_var (v := .ref o) rfl) (ge_var (v := .ref t) rfl) hd9.l hd9.r.num hd9.o hd9.t sp sq') (ge_item (ge_var (v := .ref l) rfl) (ge_var (v := .ref l) rfl) (ge_var (v := .ref o) rfl) (ge_var (v := .ref o) rfl) hd9.l hd9.l.num hd9.o hd9.o sp sp)) fun v H10 s10 ⟨al, xs, e, hl, hn, hi⟩ => ?_
      subst e
      have hd10 := hd9.mono s10
      refine s_fork (fun σ' H' => ∃ xs, σ' = [some (.ref b), some (.ref o), some (.ref t), some (.int rel), some (.ref l), some (.ref r), some (.ref al), none] ∧ H' al = some (.lst xs) ∧ xs.length ≤ 3 ∧ (∀ u ∈ xs, ItemAt C H' u) ∧ Held C H' o t l r p q) (fun D' _ kD => ?_) ?_
      · refine s_if (gt_test (ge_eq (y := .int 1) (ge_p1 (ge_pr rfl hd10.o)) ge_c rfl)) (fun hb H11 s11 => ?_) (fun _ H11 s11 => s_next (kD _ _ ⟨xs, rfl, s11 _ _ hl, by omega, fun u hu => (hi u hu).mono s11, hd10.mono s11⟩))
        have dp : p.den = 1 := by
          have z := vint.mp (of_decide_eq_true hb)
          omega
        have hd11 := hd10.mono s11
        refine s_app rfl (s11 _ _ hl) (by omega) (ge_item (y := .int p.num) (q := p) (ge_var (v := .ref r) rfl) (ge_p0 (ge_pr rfl hd11.o)) (ge_var (v := .ref t) rfl) (ge_var (v := .ref o) rfl) hd11.r (.inl ⟨p.num, rfl, whole_num dp⟩) hd11.t hd11.o sq' sp) fun v H12 s12 iv => ?_
        have l12 := s12 _ _ (s11 _ _ hl)
        refine kD _ _ ⟨xs ++ [v], rfl, upd_same, by rw [List.length_append]; show xs.length + 1 ≤ 3; omega, fun u hu => ?_, (hd11.mono s12).upd l12⟩
        rcases List.mem_append.mp hu with hu | hu
        · exact ((hi u hu).mono (s11.trans s12)).upd l12
        · rw [List.mem_singleton.mp hu]
          exact iv.upd l12
      · rintro σ' H11 ⟨ys, rfl, hl11, hn11, hi11, hd11⟩
        clear hd10 hl hi hn
        refine s_fork (fun σ' H' => ∃ xs, σ' = [some (.ref b), some (.ref o), some (.ref t), some (.int rel), some (.ref l), some (.ref r), some (.ref al), none] ∧ H' al = some (.lst xs) ∧ xs.length ≤ 4 ∧ (∀ u ∈ xs, ItemAt C H' u) ∧ Held C H' o t l r p q) (fun D' _ kD => ?_) ?_
        · refine s_if (gt_test (ge_eq (y := .int 1) (ge_p1 (ge_pr rfl hd11.t)) ge_c rfl)) (fun hb H12 s12 => ?_) (fun _ H12 s12 => s_next (kD _ _ ⟨ys, rfl, s12 _ _ hl11, by omega, fun u hu => (hi11 u hu).mono s12, hd11.mono s12⟩))
          have dq : q.den = 1 := by
            have z := vint.mp (of_decide_eq_true hb)
            omega
          have hd12 := hd11.mono s12
          refine s_app rfl (s12 _ _ hl11) (by omega) (ge_item (y := .int q.num) (q := q) (ge_var (v := .ref l) rfl) (ge_p0 (ge_pr rfl hd12.t)) (ge_var (v := .ref o) rfl) (ge_var (v := .ref t) rfl) hd12.l (.inl ⟨q.num, rfl, whole_num dq⟩) hd12.o hd12.t sp sq') fun v H13 s13 iv => ?_
          have l13 := s13 _ _ (s12 _ _ hl11)
          refine kD _ _ ⟨ys ++ [v], rfl, upd_same, by rw [List.length_append]; show ys.length + 1 ≤ 4; omega, fun u hu => ?_, (hd12.mono s13).upd l13⟩
          rcases List.mem_append.mp hu with hu | hu
          · exact ((hi11 u hu).mono (s12.trans s13)).upd l13
          · rw [List.mem_singleton.mp hu]
            exact iv.upd l13
        · rintro σ' H13 ⟨zs, rfl, hl13, hn13, hi13, hd13⟩
          refine sq ⟨.ref al, rfl, al, rfl, ⟨zs, SqL.of hl13⟩, for_list (K := K) (a := al) (xs := zs) (fun i σ H' => ∃ v7 : Option V, σ = [some (.ref b), some (.ref o), some (.ref t), some (.int rel), some (.ref l), some (.ref r), some (.ref al), v7] ∧ Same H13 H') ⟨none, rfl, Same.refl _⟩ (fun i σ H' _ ⟨v, _, s⟩ => s.seq (SqL.of hl13)) ?_ ?_⟩
          · rintro i u σ H14 hu ⟨v7, rfl, s14⟩
            obtain ⟨t', x, y, a', b', p', q', rfl, h1, h2, h3, h4, h5, h6, h7⟩ := hi13 u (List.mem_of_getElem? hu)
            have p6 : Sm 300 p' := h6.mono (by decide)
            have q7 : Sm 300 q' := h7.mono (by decide)
            have g0 : ∀ {H' : Hp}, Same H13 H' → Ge (tOp (rIxT K) (tVar 7) (tC (.int 0))) [some (.ref b), some (.ref o), some (.ref t), some (.int rel), some (.ref l), some (.ref r), some (.ref al), some (.ref t')] H' (Is (.ref x)) := fun s => ge_ix (j := 0) (ge_varP rfl ⟨t', rfl, s _ _ h1⟩ (up_tup _)) ge_c rfl
            have g1 : ∀ {H' : Hp}, Same H13 H' → Ge (tOp (rIxT K) (tVar 7) (tC (.int 1))) [some (.ref b), some (.ref o), some (.ref t), some (.int rel), some (.ref l), some (.ref r), some (.ref al), some (.ref t')] H' (Is y) := fun s => ge_ix (j := 1) (ge_varP rfl ⟨t', rfl, s _ _ h1⟩ (up_tup _)) ge_c rfl
            have g2 : ∀ {H' : Hp}, Same H13 H' → Ge (tOp (rIxT K) (tVar 7) (tC (.int 2))) [some (.ref b), some (.ref o), some (.ref t), some (.int rel), some (.ref l), some (.ref r), some (.ref al), some (.ref t')] H' (Is (.ref a')) := fun s => ge_ix (j := 2) (ge_varP rfl ⟨t', rfl, s _ _ h1⟩ (up_tup _)) ge_c rfl
            have g3 : ∀ {H' : Hp}, Same H13 H' → Ge (tOp (rIxT K) (tVar 7) (tC (.int 3))) [some (.ref b), some (.ref o), some (.ref t), some (.int rel), some (.ref l), some (.ref r), some (.ref al), some (.ref t')] H' (Is (.ref b')) := fun s => ge_ix (j := 3) (ge_varP rfl ⟨t', rfl, s _ _ h1⟩ (up_tup _)) ge_c rfl
            have tw : ∀ {H' : Hp}, Same H13 H' → Two C H' (.ref x) y p' q' := fun s => ⟨(h2.mono s).num, h3.mono s, .inl ⟨x, rfl⟩⟩
            refine sq_no (t_true (ge_four (g0 s14) (g1 s14) (g2 s14) (g3 s14) fun H1 s Q k => ⟨.ref x, y, a', b', p', q', rfl, tw (s14.trans s), h4.mono (s14.trans s), h5.mono (s14.trans s), p6, q7, k⟩)) fun H15 z15 => ?_
            have s15 := s14.trans z15
            refine sq_no (t_true (ge_four (g1 s15) (g0 s15) (g3 s15) (g2 s15) fun H1 s Q k => ⟨y, .ref x, b', a', q', p', rfl, (tw (s15.trans s)).swap, h5.mono (s15.trans s), h4.mono (s15.trans s), q7, p6, k⟩)) fun H16 z16 => ?_
            have s16 := s15.trans z16
            refine sq_no (t_true (ge_four (g0 s16) (g1 s16) (g2 s16) (g3 s16) fun H1 s Q k => ⟨.ref x, y, a', b', p', q', rfl, tw (s16.trans s), h4.mono (s16.trans s), h5.mono (s16.trans s), p6, q7, k⟩)) fun H17 z17 => ?_
            have s17 := s16.trans z17
            refine sq_no (t_true (ge_four (g1 s17) (g0 s17) (g3 s17) (g2 s17) fun H1 s Q k => ⟨y, .ref x, b', a', q', p', rfl, (tw (s17.trans s)).swap, h5.mono (s17.trans s), h4.mono (s17.trans s), q7, p6, k⟩)) fun H18 z18 => ?_
            have s18 := s17.trans z18
            refine s_no (t_true (ge_four (g0 s18) (g1 s18) (g2 s18) (g3 s18) fun H1 s Q k => ⟨x, y, a', b', p', q', rfl, h2.mono (s18.trans s), h3.mono (s18.trans s), h4.mono (s18.trans s), h5.mono (s18.trans s), p6, q7, k⟩)) fun H19 z19 => ?_
            exact ⟨some (.ref t'), rfl, s18.trans z19⟩
          · rintro σ H14 ⟨v7, rfl, s14⟩
            have hd14 := hd13.mono s14
            dsimp only
            refine sq_no (gt_or (b := false) (c := false) (t_true (ge_two2 (ge_var (v := .ref l) rfl) (ge_var (v := .ref o) rfl) fun H1 s Q k => ⟨l, o, p, rfl, hd14.l.mono s, hd14.o.mono s, p4, k⟩)) fun _ => t_true (ge_two2 (ge_var (v := .ref r) rfl) (ge_var (v := .ref t) rfl) fun H1 s Q k => ⟨r, t, q, rfl, hd14.r.mono s, hd14.t.mono s, q4, k⟩)) fun H15 s15 => ?_
            have hd15 := hd14.mono s15
            refine sq_no (gt_or (b := false) (c := false) (t_true (ge_two2 (ge_var (v := .ref l) rfl) (ge_var (v := .ref o) rfl) fun H1 s Q k => ⟨l, o, p, rfl, hd15.l.mono s, hd15.o.mono s, sp, k⟩)) fun _ => t_true (ge_four (ge_var (v := .ref l) rfl) (ge_var (v := .ref r) rfl) (ge_var (v := .ref o) rfl) (ge_var (v := .ref t) rfl) fun H1 s Q k => ⟨l, r, o, t, p, q, rfl, hd15.l.mono s, hd15.r.mono s, hd15.o.mono s, hd15.t.mono s, p4, q4, k⟩)) fun H16 s16 => ?_
            have hd16 := hd15.mono s16
            refine s_ret (ge_andV (b := true) (c := true) (ge_is (ge_self rfl hd16.l) (ge_pr rfl hd16.o) rfl) fun _ => ge_is (ge_self rfl hd16.r) (ge_pr rfl hd16.t) rfl) fun v H17 s17 e => ?_
            rw [e]
            exact kQ H17

end
end Bp

namespace Bp
open PySem.Spec PySem PyProof.Rows
open L2 hiding St

theorem all_mk {P : Program} {w : World} {K : PySem.W.Frag} {h : Heap} {mg : Str → Option Value} {fa : Addr} (X : K.In h) (G : h.Ns mainGlobals mg) (hfa : mg "law" = some (.ref fa))
    {C Z BE BN TT prw : Addr} {f_m_over : Addr} {od_m_over an_m_over : Option Addr} {sl_m_over : Array (Option Value)} {oc_m_over kV_m_over dc_m_over pm_m_over cd_m_over ct_m_over : Value} {f_m_floor : Addr} {od_m_floor an_m_floor : Option Addr} {sl_m_floor : Array (Option Value)} {oc_m_floor kV_m_floor dc_m_floor pm_m_floor cd_m_floor ct_m_floor : Value} {f_m_ceiling : Addr} {od_m_ceiling an_m_ceiling : Option Addr} {sl_m_ceiling : Array (Option Value)} {oc_m_ceiling kV_m_ceiling dc_m_ceiling pm_m_ceiling cd_m_ceiling ct_m_ceiling : Value} {f_m_bool : Addr} {od_m_bool an_m_bool : Option Addr} {sl_m_bool : Array (Option Value)} {oc_m_bool kV_m_bool dc_m_bool pm_m_bool cd_m_bool ct_m_bool : Value} {f_m_neg : Addr} {od_m_neg an_m_neg : Option Addr} {sl_m_neg : Array (Option Value)} {oc_m_neg kV_m_neg dc_m_neg pm_m_neg cd_m_neg ct_m_neg : Value} {f_m_abs : Addr} {od_m_abs an_m_abs : Option Addr} {sl_m_abs : Array (Option Value)} {oc_m_abs kV_m_abs dc_m_abs pm_m_abs cd_m_abs ct_m_abs : Value} {f_m_add : Addr} {od_m_add an_m_add : Option Addr} {sl_m_add : Array (Option Value)} {oc_m_add kV_m_add dc_m_add pm_m_add cd_m_add ct_m_add : Value} {f_m_radd : Addr} {od_m_radd an_m_radd : Option Addr} {sl_m_radd : Array (Option Value)} {oc_m_radd kV_m_radd dc_m_radd pm_m_radd cd_m_radd ct_m_radd : Value} {f_m_sub : Addr} {od_m_sub an_m_sub : Option Addr} {sl_m_sub : Array (Option Value)} {oc_m_sub kV_m_sub dc_m_sub pm_m_sub cd_m_sub ct_m_sub : Value} {f_m_rsub : Addr} {od_m_rsub an_m_rsub : Option Addr} {sl_m_rsub : Array (Option Value)} {oc_m_rsub kV_m_rsub dc_m_rsub pm_m_rsub cd_m_rsub ct_m_rsub : Value} {f_m_mul : Addr} {od_m_mul an_m_mul : Option Addr} {sl_m_mul : Array (Option Value)} {oc_m_mul kV_m_mul dc_m_mul pm_m_mul cd_m_mul ct_m_mul : Value} {f_m_rmul : Addr} {od_m_rmul an_m_rmul : Option Addr} {sl_m_rmul : Array (Option Value)} {oc_m_rmul kV_m_rmul dc_m_rmul pm_m_rmul cd_m_rmul ct_m_rmul : Value} {f_m_floordiv : Addr} {od_m_floordiv an_m_floordiv : Option Addr} {sl_m_floordiv : Array (Option Value)} {oc_m_floordiv kV_m_floordiv dc_m_floordiv pm_m_floordiv cd_m_floordiv ct_m_floordiv : Value} {f_m_rfloordiv : Addr} {od_m_rfloordiv an_m_rfloordiv : Option Addr} {sl_m_rfloordiv : Array (Option Value)} {oc_m_rfloordiv kV_m_rfloordiv dc_m_rfloordiv pm_m_rfloordiv cd_m_rfloordiv ct_m_rfloordiv : Value} {f_m_mod : Addr} {od_m_mod an_m_mod : Option Addr} {sl_m_mod : Array (Option Value)} {oc_m_mod kV_m_mod dc_m_mod pm_m_mod cd_m_mod ct_m_mod : Value} {f_m_rmod : Addr} {od_m_rmod an_m_rmod : Option Addr} {sl_m_rmod : Array (Option Value)} {oc_m_rmod kV_m_rmod dc_m_rmod pm_m_rmod cd_m_rmod ct_m_rmod : Value} {f_m_pow : Addr} {od_m_pow an_m_pow : Option Addr} {sl_m_pow : Array (Option Value)} {oc_m_pow kV_m_pow dc_m_pow pm_m_pow cd_m_pow ct_m_pow : Value} {f_m_eq : Addr} {od_m_eq an_m_eq : Option Addr} {sl_m_eq : Array (Option Value)} {oc_m_eq kV_m_eq dc_m_eq pm_m_eq cd_m_eq ct_m_eq : Value} {f_m_ne : Addr} {od_m_ne an_m_ne : Option Addr} {sl_m_ne : Array (Option Value)} {oc_m_ne kV_m_ne dc_m_ne pm_m_ne cd_m_ne ct_m_ne : Value} {f_m_lt : Addr} {od_m_lt an_m_lt : Option Addr} {sl_m_lt : Array (Option Value)} {oc_m_lt kV_m_lt dc_m_lt pm_m_lt cd_m_lt ct_m_lt : Value} {f_m_le : Addr} {od_m_le an_m_le : Option Addr} {sl_m_le : Array (Option Value)} {oc_m_le kV_m_le dc_m_le pm_m_le cd_m_le ct_m_le : Value} {f_m_gt : Addr} {od_m_gt an_m_gt : Option Addr} {sl_m_gt : Array (Option Value)} {oc_m_gt kV_m_gt dc_m_gt pm_m_gt cd_m_gt ct_m_gt : Value} {f_m_ge : Addr} {od_m_ge an_m_ge : Option Addr} {sl_m_ge : Array (Option Value)} {oc_m_ge kV_m_ge dc_m_ge pm_m_ge cd_m_ge ct_m_ge : Value} {f_init : Addr} {oT : Obj} {t0 t1 : Tok} {nT : Nat} {od_init an_init : Option Addr} {sl_init : Array (Option Value)} {oc_init kV_init dc_init pm_init cd_init ct_init : Value} {f_wh : Addr} {restw : List Value} {od_wh an_wh : Option Addr} {sl_wh : Array (Option Value)} {oc_wh kV_wh dc_wh pm_wh cd_wh ct_wh : Value} {f_d_as_frac : Addr} {od_d_as_frac an_d_as_frac : Option Addr} {sl_d_as_frac : Array (Option Value)} {oc_d_as_frac kV_d_as_frac dc_d_as_frac pm_d_as_frac cd_d_as_frac ct_d_as_frac : Value} {f_d_gap : Addr} {od_d_gap an_d_gap : Option Addr} {sl_d_gap : Array (Option Value)} {oc_d_gap kV_d_gap dc_d_gap pm_d_gap cd_d_gap ct_d_gap : Value} {f_d_law_cell : Addr} {od_d_law_cell an_d_law_cell : Option Addr} {sl_d_law_cell : Array (Option Value)} {oc_d_law_cell kV_d_law_cell dc_d_law_cell pm_d_law_cell cd_d_law_cell ct_d_law_cell : Value} {f_d_law_gcd : Addr} {od_d_law_gcd an_d_law_gcd : Option Addr} {sl_d_law_gcd : Array (Option Value)} {oc_d_law_gcd kV_d_law_gcd dc_d_law_gcd pm_d_law_gcd cd_d_law_gcd ct_d_law_gcd : Value} {f_d_law_low : Addr} {od_d_law_low an_d_law_low : Option Addr} {sl_d_law_low : Array (Option Value)} {oc_d_law_low kV_d_law_low dc_d_law_low pm_d_law_low cd_d_law_low ct_d_law_low : Value} {f_d_law_add : Addr} {od_d_law_add an_d_law_add : Option Addr} {sl_d_law_add : Array (Option Value)} {oc_d_law_add kV_d_law_add dc_d_law_add pm_d_law_add cd_d_law_add ct_d_law_add : Value} {f_d_law_mul : Addr} {od_d_law_mul an_d_law_mul : Option Addr} {sl_d_law_mul : Array (Option Value)} {oc_d_law_mul kV_d_law_mul dc_d_law_mul pm_d_law_mul cd_d_law_mul ct_d_law_mul : Value} {f_d_law_floor : Addr} {od_d_law_floor an_d_law_floor : Option Addr} {sl_d_law_floor : Array (Option Value)} {oc_d_law_floor kV_d_law_floor dc_d_law_floor pm_d_law_floor cd_d_law_floor ct_d_law_floor : Value} {f_d_law_great : Addr} {od_d_law_great an_d_law_great : Option Addr} {sl_d_law_great : Array (Option Value)} {oc_d_law_great kV_d_law_great dc_d_law_great pm_d_law_great cd_d_law_great ct_d_law_great : Value} {f_d_law_numerator : Addr} {od_d_law_numerator an_d_law_numerator : Option Addr} {sl_d_law_numerator : Array (Option Value)} {oc_d_law_numerator kV_d_law_numerator dc_d_law_numerator pm_d_law_numerator cd_d_law_numerator ct_d_law_numerator : Value} {f_d_law_denominator : Addr} {od_d_law_denominator an_d_law_denominator : Option Addr} {sl_d_law_denominator : Array (Option Value)} {oc_d_law_denominator kV_d_law_denominator dc_d_law_denominator pm_d_law_denominator cd_d_law_denominator ct_d_law_denominator : Value} {f_d_law_made : Addr} {od_d_law_made an_d_law_made : Option Addr} {sl_d_law_made : Array (Option Value)} {oc_d_law_made kV_d_law_made dc_d_law_made pm_d_law_made cd_d_law_made ct_d_law_made : Value} {f_d_law_integer : Addr} {od_d_law_integer an_d_law_integer : Option Addr} {sl_d_law_integer : Array (Option Value)} {oc_d_law_integer kV_d_law_integer dc_d_law_integer pm_d_law_integer cd_d_law_integer ct_d_law_integer : Value} {f_d_law_truth : Addr} {od_d_law_truth an_d_law_truth : Option Addr} {sl_d_law_truth : Array (Option Value)} {oc_d_law_truth kV_d_law_truth dc_d_law_truth pm_d_law_truth cd_d_law_truth ct_d_law_truth : Value} {f_d_law_is : Addr} {od_d_law_is an_d_law_is : Option Addr} {sl_d_law_is : Array (Option Value)} {oc_d_law_is kV_d_law_is dc_d_law_is pm_d_law_is cd_d_law_is ct_d_law_is : Value} {f_d_law_refused : Addr} {od_d_law_refused an_d_law_refused : Option Addr} {sl_d_law_refused : Array (Option Value)} {oc_d_law_refused kV_d_law_refused dc_d_law_refused pm_d_law_refused cd_d_law_refused ct_d_law_refused : Value} {f_d_law_operators : Addr} {od_d_law_operators an_d_law_operators : Option Addr} {sl_d_law_operators : Array (Option Value)} {oc_d_law_operators kV_d_law_operators dc_d_law_operators pm_d_law_operators cd_d_law_operators ct_d_law_operators : Value} {f_d_law_over : Addr} {od_d_law_over an_d_law_over : Option Addr} {sl_d_law_over : Array (Option Value)} {oc_d_law_over kV_d_law_over dc_d_law_over pm_d_law_over cd_d_law_over ct_d_law_over : Value} {f_d_law_orders : Addr} {od_d_law_orders an_d_law_orders : Option Addr} {sl_d_law_orders : Array (Option Value)} {oc_d_law_orders kV_d_law_orders dc_d_law_orders pm_d_law_orders cd_d_law_orders ct_d_law_orders : Value} {f_d_law_powers : Addr} {od_d_law_powers an_d_law_powers : Option Addr} {sl_d_law_powers : Array (Option Value)} {oc_d_law_powers kV_d_law_powers dc_d_law_powers pm_d_law_powers cd_d_law_powers ct_d_law_powers : Value} {f_d_law_single : Addr} {od_d_law_single an_d_law_single : Option Addr} {sl_d_law_single : Array (Option Value)} {oc_d_law_single kV_d_law_single dc_d_law_single pm_d_law_single cd_d_law_single ct_d_law_single : Value} {f_d_law_in_place : Addr} {od_d_law_in_place an_d_law_in_place : Option Addr} {sl_d_law_in_place : Array (Option Value)} {oc_d_law_in_place kV_d_law_in_place dc_d_law_in_place pm_d_law_in_place cd_d_law_in_place ct_d_law_in_place : Value} {f_d_law_made_plain : Addr} {od_d_law_made_plain an_d_law_made_plain : Option Addr} {sl_d_law_made_plain : Array (Option Value)} {oc_d_law_made_plain kV_d_law_made_plain dc_d_law_made_plain pm_d_law_made_plain cd_d_law_made_plain ct_d_law_made_plain : Value} {f_d_law : Addr} {od_d_law an_d_law : Option Addr} {sl_d_law : Array (Option Value)} {oc_d_law kV_d_law dc_d_law pm_d_law cd_d_law ct_d_law : Value} {fo_add ro_add : Option Value} {fo_sub ro_sub : Option Value} {fo_mul ro_mul : Option Value} {fo_floordiv ro_floordiv : Option Value} {fo_mod ro_mod : Option Value} {fo_pow ro_pow : Option Value} {clsC : ClassData}
    (q_aC : PySem.W.nsIn K mainGlobals "Frac" = some (some (.ref C)))
    (q_aZ : PySem.W.nsIn K mainGlobals "DivisionByZero" = some (some (.ref Z)))
    (q_aE : PySem.W.nsIn K mainGlobals "BestError" = some (some (.ref BE)))
    (q_aB : PySem.W.nsIn K mainGlobals "BadNumber" = some (some (.ref BN)))
    (q_aG : PySem.W.nsIn K mainGlobals "gcd" = some (some (.builtin "math.gcd")))
    (q_b_isinstance : PySem.W.nsIn K mainGlobals "isinstance" = some none)
    (q_b_int : PySem.W.nsIn K mainGlobals "int" = some none)
    (q_b_NotImplemented : PySem.W.nsIn K mainGlobals "NotImplemented" = some none)
    (q_b_len : PySem.W.nsIn K mainGlobals "len" = some none)
    (q_b_abs : PySem.W.nsIn K mainGlobals "abs" = some none)
    (q_b_range : PySem.W.nsIn K mainGlobals "range" = some none)
    (q_b_bool : PySem.W.nsIn K mainGlobals "bool" = some none)
    (q_b_str : PySem.W.nsIn K mainGlobals "str" = some none)
    (q_b_ValueError : PySem.W.nsIn K mainGlobals "ValueError" = some none)
    (q_a_m_over : PySem.W.findIn K (.ref C) "over" = some (some (.ref f_m_over)))
    (q_i_m_over : PySem.W.isFn K (.ref f_m_over) = true)
    (q_l_m_over : K.lookup f_m_over = some ⟨oc_m_over, od_m_over, .func (PySem.W.fnOf "over" "Frac.over" (defArgs s_Frac_over) (defBody s_Frac_over) (defScope s_Frac_over) .none kV_m_over dc_m_over pm_m_over an_m_over cd_m_over ct_m_over), sl_m_over⟩)
    (q_c_m_over : PySem.W.codeIn K cd_m_over "Frac.over" = true)
    (q_k_m_over : PySem.W.keepIn K (.ref f_m_over) = true)
    (q_a_m_floor : PySem.W.findIn K (.ref C) "floor" = some (some (.ref f_m_floor)))
    (q_i_m_floor : PySem.W.isFn K (.ref f_m_floor) = true)
    (q_l_m_floor : K.lookup f_m_floor = some ⟨oc_m_floor, od_m_floor, .func (PySem.W.fnOf "floor" "Frac.floor" (defArgs s_Frac_floor) (defBody s_Frac_floor) (defScope s_Frac_floor) .none kV_m_floor dc_m_floor pm_m_floor an_m_floor cd_m_floor ct_m_floor), sl_m_floor⟩)
    (q_c_m_floor : PySem.W.codeIn K cd_m_floor "Frac.floor" = true)
    (q_k_m_floor : PySem.W.keepIn K (.ref f_m_floor) = true)
    (q_a_m_ceiling : PySem.W.findIn K (.ref C) "ceiling" = some (some (.ref f_m_ceiling)))
    (q_i_m_ceiling : PySem.W.isFn K (.ref f_m_ceiling) = true)
    (q_l_m_ceiling : K.lookup f_m_ceiling = some ⟨oc_m_ceiling, od_m_ceiling, .func (PySem.W.fnOf "ceiling" "Frac.ceiling" (defArgs s_Frac_ceiling) (defBody s_Frac_ceiling) (defScope s_Frac_ceiling) .none kV_m_ceiling dc_m_ceiling pm_m_ceiling an_m_ceiling cd_m_ceiling ct_m_ceiling), sl_m_ceiling⟩)
    (q_c_m_ceiling : PySem.W.codeIn K cd_m_ceiling "Frac.ceiling" = true)
    (q_k_m_ceiling : PySem.W.keepIn K (.ref f_m_ceiling) = true)
    (q_a_m_bool : PySem.W.findIn K (.ref C) "__bool__" = some (some (.ref f_m_bool)))
    (q_i_m_bool : PySem.W.isFn K (.ref f_m_bool) = true)
    (q_l_m_bool : K.lookup f_m_bool = some ⟨oc_m_bool, od_m_bool, .func (PySem.W.fnOf "__bool__" "Frac.__bool__" (defArgs s_Frac_bool) (defBody s_Frac_bool) (defScope s_Frac_bool) .none kV_m_bool dc_m_bool pm_m_bool an_m_bool cd_m_bool ct_m_bool), sl_m_bool⟩)
    (q_c_m_bool : PySem.W.codeIn K cd_m_bool "Frac.__bool__" = true)
    (q_k_m_bool : PySem.W.keepIn K (.ref f_m_bool) = true)
    (q_a_m_neg : PySem.W.findIn K (.ref C) "__neg__" = some (some (.ref f_m_neg)))
    (q_i_m_neg : PySem.W.isFn K (.ref f_m_neg) = true)
    (q_l_m_neg : K.lookup f_m_neg = some ⟨oc_m_neg, od_m_neg, .func (PySem.W.fnOf "__neg__" "Frac.__neg__" (defArgs s_Frac_neg) (defBody s_Frac_neg) (defScope s_Frac_neg) .none kV_m_neg dc_m_neg pm_m_neg an_m_neg cd_m_neg ct_m_neg), sl_m_neg⟩)
    (q_c_m_neg : PySem.W.codeIn K cd_m_neg "Frac.__neg__" = true)
    (q_k_m_neg : PySem.W.keepIn K (.ref f_m_neg) = true)
    (q_a_m_abs : PySem.W.findIn K (.ref C) "__abs__" = some (some (.ref f_m_abs)))
    (q_i_m_abs : PySem.W.isFn K (.ref f_m_abs) = true)
    (q_l_m_abs : K.lookup f_m_abs = some ⟨oc_m_abs, od_m_abs, .func (PySem.W.fnOf "__abs__" "Frac.__abs__" (defArgs s_Frac_abs) (defBody s_Frac_abs) (defScope s_Frac_abs) .none kV_m_abs dc_m_abs pm_m_abs an_m_abs cd_m_abs ct_m_abs), sl_m_abs⟩)
    (q_c_m_abs : PySem.W.codeIn K cd_m_abs "Frac.__abs__" = true)
    (q_k_m_abs : PySem.W.keepIn K (.ref f_m_abs) = true)
    (q_a_m_add : PySem.W.findIn K (.ref C) "__add__" = some (some (.ref f_m_add)))
    (q_i_m_add : PySem.W.isFn K (.ref f_m_add) = true)
    (q_l_m_add : K.lookup f_m_add = some ⟨oc_m_add, od_m_add, .func (PySem.W.fnOf "__add__" "Frac.__add__" (defArgs s_Frac_add) (defBody s_Frac_add) (defScope s_Frac_add) .none kV_m_add dc_m_add pm_m_add an_m_add cd_m_add ct_m_add), sl_m_add⟩)
    (q_c_m_add : PySem.W.codeIn K cd_m_add "Frac.__add__" = true)
    (q_k_m_add : PySem.W.keepIn K (.ref f_m_add) = true)
    (q_a_m_radd : PySem.W.findIn K (.ref C) "__radd__" = some (some (.ref f_m_radd)))
    (q_i_m_radd : PySem.W.isFn K (.ref f_m_radd) = true)
    (q_l_m_radd : K.lookup f_m_radd = some ⟨oc_m_radd, od_m_radd, .func (PySem.W.fnOf "__radd__" "Frac.__radd__" (defArgs s_Frac_radd) (defBody s_Frac_radd) (defScope s_Frac_radd) .none kV_m_radd dc_m_radd pm_m_radd an_m_radd cd_m_radd ct_m_radd), sl_m_radd⟩)
    (q_c_m_radd : PySem.W.codeIn K cd_m_radd "Frac.__radd__" = true)
    (q_k_m_radd : PySem.W.keepIn K (.ref f_m_radd) = true)
    (q_a_m_sub : PySem.W.findIn K (.ref C) "__sub__" = some (some (.ref f_m_sub)))
    (q_i_m_sub : PySem.W.isFn K (.ref f_m_sub) = true)
    (q_l_m_sub : K.lookup f_m_sub = some ⟨oc_m_sub, od_m_sub, .func (PySem.W.fnOf "__sub__" "Frac.__sub__" (defArgs s_Frac_sub) (defBody s_Frac_sub) (defScope s_Frac_sub) .none kV_m_sub dc_m_sub pm_m_sub an_m_sub cd_m_sub ct_m_sub), sl_m_sub⟩)
    (q_c_m_sub : PySem.W.codeIn K cd_m_sub "Frac.__sub__" = true)
    (q_k_m_sub : PySem.W.keepIn K (.ref f_m_sub) = true)
    (q_a_m_rsub : PySem.W.findIn K (.ref C) "__rsub__" = some (some (.ref f_m_rsub)))
    (q_i_m_rsub : PySem.W.isFn K (.ref f_m_rsub) = true)
    (q_l_m_rsub : K.lookup f_m_rsub = some ⟨oc_m_rsub, od_m_rsub, .func (PySem.W.fnOf "__rsub__" "Frac.__rsub__" (defArgs s_Frac_rsub) (defBody s_Frac_rsub) (defScope s_Frac_rsub) .none kV_m_rsub dc_m_rsub pm_m_rsub an_m_rsub cd_m_rsub ct_m_rsub), sl_m_rsub⟩)
    (q_c_m_rsub : PySem.W.codeIn K cd_m_rsub "Frac.__rsub__" = true)
    (q_k_m_rsub : PySem.W.keepIn K (.ref f_m_rsub) = true)
    (q_a_m_mul : PySem.W.findIn K (.ref C) "__mul__" = some (some (.ref f_m_mul)))
    (q_i_m_mul : PySem.W.isFn K (.ref f_m_mul) = true)
    (q_l_m_mul : K.lookup f_m_mul = some ⟨oc_m_mul, od_m_mul, .func (PySem.W.fnOf "__mul__" "Frac.__mul__" (defArgs s_Frac_mul) (defBody s_Frac_mul) (defScope s_Frac_mul) .none kV_m_mul dc_m_mul pm_m_mul an_m_mul cd_m_mul ct_m_mul), sl_m_mul⟩)
    (q_c_m_mul : PySem.W.codeIn K cd_m_mul "Frac.__mul__" = true)
    (q_k_m_mul : PySem.W.keepIn K (.ref f_m_mul) = true)
    (q_a_m_rmul : PySem.W.findIn K (.ref C) "__rmul__" = some (some (.ref f_m_rmul)))
    (q_i_m_rmul : PySem.W.isFn K (.ref f_m_rmul) = true)
    (q_l_m_rmul : K.lookup f_m_rmul = some ⟨oc_m_rmul, od_m_rmul, .func (PySem.W.fnOf "__rmul__" "Frac.__rmul__" (defArgs s_Frac_rmul) (defBody s_Frac_rmul) (defScope s_Frac_rmul) .none kV_m_rmul dc_m_rmul pm_m_rmul an_m_rmul cd_m_rmul ct_m_rmul), sl_m_rmul⟩)
    (q_c_m_rmul : PySem.W.codeIn K cd_m_rmul "Frac.__rmul__" = true)
    (q_k_m_rmul : PySem.W.keepIn K (.ref f_m_rmul) = true)
    (q_a_m_floordiv : PySem.W.findIn K (.ref C) "__floordiv__" = some (some (.ref f_m_floordiv)))
    (q_i_m_floordiv : PySem.W.isFn K (.ref f_m_floordiv) = true)
    (q_l_m_floordiv : K.lookup f_m_floordiv = some ⟨oc_m_floordiv, od_m_floordiv, .func (PySem.W.fnOf "__floordiv__" "Frac.__floordiv__" (defArgs s_Frac_floordiv) (defBody s_Frac_floordiv) (defScope s_Frac_floordiv) .none kV_m_floordiv dc_m_floordiv pm_m_floordiv an_m_floordiv cd_m_floordiv ct_m_floordiv), sl_m_floordiv⟩)
    (q_c_m_floordiv : PySem.W.codeIn K cd_m_floordiv "Frac.__floordiv__" = true)
    (q_k_m_floordiv : PySem.W.keepIn K (.ref f_m_floordiv) = true)
    (q_a_m_rfloordiv : PySem.W.findIn K (.ref C) "__rfloordiv__" = some (some (.ref f_m_rfloordiv)))
    (q_i_m_rfloordiv : PySem.W.isFn K (.ref f_m_rfloordiv) = true)
    (q_l_m_rfloordiv : K.lookup f_m_rfloordiv = some ⟨oc_m_rfloordiv, od_m_rfloordiv, .func (PySem.W.fnOf "__rfloordiv__" "Frac.__rfloordiv__" (defArgs s_Frac_rfloordiv) (defBody s_Frac_rfloordiv) (defScope s_Frac_rfloordiv) .none kV_m_rfloordiv dc_m_rfloordiv pm_m_rfloordiv an_m_rfloordiv cd_m_rfloordiv ct_m_rfloordiv), sl_m_rfloordiv⟩)
    (q_c_m_rfloordiv : PySem.W.codeIn K cd_m_rfloordiv "Frac.__rfloordiv__" = true)
    (q_k_m_rfloordiv : PySem.W.keepIn K (.ref f_m_rfloordiv) = true)
    (q_a_m_mod : PySem.W.findIn K (.ref C) "__mod__" = some (some (.ref f_m_mod)))
    (q_i_m_mod : PySem.W.isFn K (.ref f_m_mod) = true)
    (q_l_m_mod : K.lookup f_m_mod = some ⟨oc_m_mod, od_m_mod, .func (PySem.W.fnOf "__mod__" "Frac.__mod__" (defArgs s_Frac_mod) (defBody s_Frac_mod) (defScope s_Frac_mod) .none kV_m_mod dc_m_mod pm_m_mod an_m_mod cd_m_mod ct_m_mod), sl_m_mod⟩)
    (q_c_m_mod : PySem.W.codeIn K cd_m_mod "Frac.__mod__" = true)
    (q_k_m_mod : PySem.W.keepIn K (.ref f_m_mod) = true)
    (q_a_m_rmod : PySem.W.findIn K (.ref C) "__rmod__" = some (some (.ref f_m_rmod)))
    (q_i_m_rmod : PySem.W.isFn K (.ref f_m_rmod) = true)
    (q_l_m_rmod : K.lookup f_m_rmod = some ⟨oc_m_rmod, od_m_rmod, .func (PySem.W.fnOf "__rmod__" "Frac.__rmod__" (defArgs s_Frac_rmod) (defBody s_Frac_rmod) (defScope s_Frac_rmod) .none kV_m_rmod dc_m_rmod pm_m_rmod an_m_rmod cd_m_rmod ct_m_rmod), sl_m_rmod⟩)
    (q_c_m_rmod : PySem.W.codeIn K cd_m_rmod "Frac.__rmod__" = true)
    (q_k_m_rmod : PySem.W.keepIn K (.ref f_m_rmod) = true)
    (q_a_m_pow : PySem.W.findIn K (.ref C) "__pow__" = some (some (.ref f_m_pow)))
    (q_i_m_pow : PySem.W.isFn K (.ref f_m_pow) = true)
    (q_l_m_pow : K.lookup f_m_pow = some ⟨oc_m_pow, od_m_pow, .func (PySem.W.fnOf "__pow__" "Frac.__pow__" (defArgs s_Frac_pow) (defBody s_Frac_pow) (defScope s_Frac_pow) .none kV_m_pow dc_m_pow pm_m_pow an_m_pow cd_m_pow ct_m_pow), sl_m_pow⟩)
    (q_c_m_pow : PySem.W.codeIn K cd_m_pow "Frac.__pow__" = true)
    (q_k_m_pow : PySem.W.keepIn K (.ref f_m_pow) = true)
    (q_a_m_eq : PySem.W.findIn K (.ref C) "__eq__" = some (some (.ref f_m_eq)))
    (q_i_m_eq : PySem.W.isFn K (.ref f_m_eq) = true)
    (q_l_m_eq : K.lookup f_m_eq = some ⟨oc_m_eq, od_m_eq, .func (PySem.W.fnOf "__eq__" "Frac.__eq__" (defArgs s_Frac_eq) (defBody s_Frac_eq) (defScope s_Frac_eq) .none kV_m_eq dc_m_eq pm_m_eq an_m_eq cd_m_eq ct_m_eq), sl_m_eq⟩)
    (q_c_m_eq : PySem.W.codeIn K cd_m_eq "Frac.__eq__" = true)
    (q_k_m_eq : PySem.W.keepIn K (.ref f_m_eq) = true)
    (q_a_m_ne : PySem.W.findIn K (.ref C) "__ne__" = some (some (.ref f_m_ne)))
    (q_i_m_ne : PySem.W.isFn K (.ref f_m_ne) = true)
    (q_l_m_ne : K.lookup f_m_ne = some ⟨oc_m_ne, od_m_ne, .func (PySem.W.fnOf "__ne__" "Frac.__ne__" (defArgs s_Frac_ne) (defBody s_Frac_ne) (defScope s_Frac_ne) .none kV_m_ne dc_m_ne pm_m_ne an_m_ne cd_m_ne ct_m_ne), sl_m_ne⟩)
    (q_c_m_ne : PySem.W.codeIn K cd_m_ne "Frac.__ne__" = true)
    (q_k_m_ne : PySem.W.keepIn K (.ref f_m_ne) = true)
    (q_a_m_lt : PySem.W.findIn K (.ref C) "__lt__" = some (some (.ref f_m_lt)))
    (q_i_m_lt : PySem.W.isFn K (.ref f_m_lt) = true)
    (q_l_m_lt : K.lookup f_m_lt = some ⟨oc_m_lt, od_m_lt, .func (PySem.W.fnOf "__lt__" "Frac.__lt__" (defArgs s_Frac_lt) (defBody s_Frac_lt) (defScope s_Frac_lt) .none kV_m_lt dc_m_lt pm_m_lt an_m_lt cd_m_lt ct_m_lt), sl_m_lt⟩)
    (q_c_m_lt : PySem.W.codeIn K cd_m_lt "Frac.__lt__" = true)
    (q_k_m_lt : PySem.W.keepIn K (.ref f_m_lt) = true)
    (q_a_m_le : PySem.W.findIn K (.ref C) "__le__" = some (some (.ref f_m_le)))
    (q_i_m_le : PySem.W.isFn K (.ref f_m_le) = true)
    (q_l_m_le : K.lookup f_m_le = some ⟨oc_m_le, od_m_le, .func (PySem.W.fnOf "__le__" "Frac.__le__" (defArgs s_Frac_le) (defBody s_Frac_le) (defScope s_Frac_le) .none kV_m_le dc_m_le pm_m_le an_m_le cd_m_le ct_m_le), sl_m_le⟩)
    (q_c_m_le : PySem.W.codeIn K cd_m_le "Frac.__le__" = true)
    (q_k_m_le : PySem.W.keepIn K (.ref f_m_le) = true)
    (q_a_m_gt : PySem.W.findIn K (.ref C) "__gt__" = some (some (.ref f_m_gt)))
    (q_i_m_gt : PySem.W.isFn K (.ref f_m_gt) = true)
    (q_l_m_gt : K.lookup f_m_gt = some ⟨oc_m_gt, od_m_gt, .func (PySem.W.fnOf "__gt__" "Frac.__gt__" (defArgs s_Frac_gt) (defBody s_Frac_gt) (defScope s_Frac_gt) .none kV_m_gt dc_m_gt pm_m_gt an_m_gt cd_m_gt ct_m_gt), sl_m_gt⟩)
    (q_c_m_gt : PySem.W.codeIn K cd_m_gt "Frac.__gt__" = true)
    (q_k_m_gt : PySem.W.keepIn K (.ref f_m_gt) = true)
    (q_a_m_ge : PySem.W.findIn K (.ref C) "__ge__" = some (some (.ref f_m_ge)))
    (q_i_m_ge : PySem.W.isFn K (.ref f_m_ge) = true)
    (q_l_m_ge : K.lookup f_m_ge = some ⟨oc_m_ge, od_m_ge, .func (PySem.W.fnOf "__ge__" "Frac.__ge__" (defArgs s_Frac_ge) (defBody s_Frac_ge) (defScope s_Frac_ge) .none kV_m_ge dc_m_ge pm_m_ge an_m_ge cd_m_ge ct_m_ge), sl_m_ge⟩)
    (q_c_m_ge : PySem.W.codeIn K cd_m_ge "Frac.__ge__" = true)
    (q_k_m_ge : PySem.W.keepIn K (.ref f_m_ge) = true)
    (q_a_init : PySem.W.findIn K (.ref C) "__init__" = some (some (.ref f_init)))
    (q_i_init : PySem.W.isFn K (.ref f_init) = true)
    (q_l_init : K.lookup f_init = some ⟨oc_init, od_init, .func (PySem.W.fnOf "__init__" "Frac.__init__" (defArgs s_Frac_init) (defBody s_Frac_init) (defScope s_Frac_init) (.ref TT) kV_init dc_init pm_init an_init cd_init ct_init), sl_init⟩)
    (q_c_init : PySem.W.codeIn K cd_init "Frac.__init__" = true)
    (q_k_init : PySem.W.keepIn K (.ref f_init) = true)
    (q_lT : K.lookup TT = some oT)
    (q_dT : oT.data = .seq ([Value.int 0 t0, Value.int 1 t1] : List Value).toArray nT)
    (q_a_wh : PySem.W.findIn K (.ref C) "is_whole" = some (some (.ref prw)))
    (q_g_wh : PySem.W.specialIn K (.ref prw) "__get__" = some (some (.builtin "property.__get__")))
    (q_t_wh : PySem.W.takesIn K (.ref prw) = some true)
    (q_r_wh : PySem.W.recIn K prw "property" = some (.ref f_wh :: restw))
    (q_l_wh : K.lookup f_wh = some ⟨oc_wh, od_wh, .func (PySem.W.fnOf "is_whole" "Frac.is_whole" (defArgs s_Frac_is_whole) (defBody s_Frac_is_whole) (defScope s_Frac_is_whole) .none kV_wh dc_wh pm_wh an_wh cd_wh ct_wh), sl_wh⟩)
    (q_c_wh : PySem.W.codeIn K cd_wh "Frac.is_whole" = true)
    (q_k_wh : PySem.W.keepIn K (.ref f_wh) = true)
    (q_a_d_as_frac : PySem.W.nsIn K mainGlobals "as_frac" = some (some (.ref f_d_as_frac)))
    (q_l_d_as_frac : K.lookup f_d_as_frac = some ⟨oc_d_as_frac, od_d_as_frac, .func (PySem.W.fnOf "as_frac" "as_frac" (defArgs s_as_frac) (defBody s_as_frac) (defScope s_as_frac) .none kV_d_as_frac dc_d_as_frac pm_d_as_frac an_d_as_frac cd_d_as_frac ct_d_as_frac), sl_d_as_frac⟩)
    (q_c_d_as_frac : PySem.W.codeIn K cd_d_as_frac "as_frac" = true)
    (q_k_d_as_frac : PySem.W.keepIn K (.ref f_d_as_frac) = true)
    (q_a_d_gap : PySem.W.nsIn K mainGlobals "gap" = some (some (.ref f_d_gap)))
    (q_l_d_gap : K.lookup f_d_gap = some ⟨oc_d_gap, od_d_gap, .func (PySem.W.fnOf "gap" "gap" (defArgs s_gap) (defBody s_gap) (defScope s_gap) .none kV_d_gap dc_d_gap pm_d_gap an_d_gap cd_d_gap ct_d_gap), sl_d_gap⟩)
    (q_c_d_gap : PySem.W.codeIn K cd_d_gap "gap" = true)
    (q_k_d_gap : PySem.W.keepIn K (.ref f_d_gap) = true)
    (q_a_d_law_cell : PySem.W.nsIn K mainGlobals "_law_cell" = some (some (.ref f_d_law_cell)))
    (q_l_d_law_cell : K.lookup f_d_law_cell = some ⟨oc_d_law_cell, od_d_law_cell, .func (PySem.W.fnOf "_law_cell" "_law_cell" (defArgs s_law_cell) (defBody s_law_cell) (defScope s_law_cell) .none kV_d_law_cell dc_d_law_cell pm_d_law_cell an_d_law_cell cd_d_law_cell ct_d_law_cell), sl_d_law_cell⟩)
    (q_c_d_law_cell : PySem.W.codeIn K cd_d_law_cell "_law_cell" = true)
    (q_k_d_law_cell : PySem.W.keepIn K (.ref f_d_law_cell) = true)
    (q_a_d_law_gcd : PySem.W.nsIn K mainGlobals "_law_gcd" = some (some (.ref f_d_law_gcd)))
    (q_l_d_law_gcd : K.lookup f_d_law_gcd = some ⟨oc_d_law_gcd, od_d_law_gcd, .func (PySem.W.fnOf "_law_gcd" "_law_gcd" (defArgs s_law_gcd) (defBody s_law_gcd) (defScope s_law_gcd) .none kV_d_law_gcd dc_d_law_gcd pm_d_law_gcd an_d_law_gcd cd_d_law_gcd ct_d_law_gcd), sl_d_law_gcd⟩)
    (q_c_d_law_gcd : PySem.W.codeIn K cd_d_law_gcd "_law_gcd" = true)
    (q_k_d_law_gcd : PySem.W.keepIn K (.ref f_d_law_gcd) = true)
    (q_a_d_law_low : PySem.W.nsIn K mainGlobals "_law_low" = some (some (.ref f_d_law_low)))
    (q_l_d_law_low : K.lookup f_d_law_low = some ⟨oc_d_law_low, od_d_law_low, .func (PySem.W.fnOf "_law_low" "_law_low" (defArgs s_law_low) (defBody s_law_low) (defScope s_law_low) .none kV_d_law_low dc_d_law_low pm_d_law_low an_d_law_low cd_d_law_low ct_d_law_low), sl_d_law_low⟩)
    (q_c_d_law_low : PySem.W.codeIn K cd_d_law_low "_law_low" = true)
    (q_k_d_law_low : PySem.W.keepIn K (.ref f_d_law_low) = true)
    (q_a_d_law_add : PySem.W.nsIn K mainGlobals "_law_add" = some (some (.ref f_d_law_add)))
    (q_l_d_law_add : K.lookup f_d_law_add = some ⟨oc_d_law_add, od_d_law_add, .func (PySem.W.fnOf "_law_add" "_law_add" (defArgs s_law_add) (defBody s_law_add) (defScope s_law_add) .none kV_d_law_add dc_d_law_add pm_d_law_add an_d_law_add cd_d_law_add ct_d_law_add), sl_d_law_add⟩)
    (q_c_d_law_add : PySem.W.codeIn K cd_d_law_add "_law_add" = true)
    (q_k_d_law_add : PySem.W.keepIn K (.ref f_d_law_add) = true)
    (q_a_d_law_mul : PySem.W.nsIn K mainGlobals "_law_mul" = some (some (.ref f_d_law_mul)))
    (q_l_d_law_mul : K.lookup f_d_law_mul = some ⟨oc_d_law_mul, od_d_law_mul, .func (PySem.W.fnOf "_law_mul" "_law_mul" (defArgs s_law_mul) (defBody s_law_mul) (defScope s_law_mul) .none kV_d_law_mul dc_d_law_mul pm_d_law_mul an_d_law_mul cd_d_law_mul ct_d_law_mul), sl_d_law_mul⟩)
    (q_c_d_law_mul : PySem.W.codeIn K cd_d_law_mul "_law_mul" = true)
    (q_k_d_law_mul : PySem.W.keepIn K (.ref f_d_law_mul) = true)
    (q_a_d_law_floor : PySem.W.nsIn K mainGlobals "_law_floor" = some (some (.ref f_d_law_floor)))
    (q_l_d_law_floor : K.lookup f_d_law_floor = some ⟨oc_d_law_floor, od_d_law_floor, .func (PySem.W.fnOf "_law_floor" "_law_floor" (defArgs s_law_floor) (defBody s_law_floor) (defScope s_law_floor) .none kV_d_law_floor dc_d_law_floor pm_d_law_floor an_d_law_floor cd_d_law_floor ct_d_law_floor), sl_d_law_floor⟩)
    (q_c_d_law_floor : PySem.W.codeIn K cd_d_law_floor "_law_floor" = true)
    (q_k_d_law_floor : PySem.W.keepIn K (.ref f_d_law_floor) = true)
    (q_a_d_law_great : PySem.W.nsIn K mainGlobals "_law_great" = some (some (.ref f_d_law_great)))
    (q_l_d_law_great : K.lookup f_d_law_great = some ⟨oc_d_law_great, od_d_law_great, .func (PySem.W.fnOf "_law_great" "_law_great" (defArgs s_law_great) (defBody s_law_great) (defScope s_law_great) .none kV_d_law_great dc_d_law_great pm_d_law_great an_d_law_great cd_d_law_great ct_d_law_great), sl_d_law_great⟩)
    (q_c_d_law_great : PySem.W.codeIn K cd_d_law_great "_law_great" = true)
    (q_k_d_law_great : PySem.W.keepIn K (.ref f_d_law_great) = true)
    (q_a_d_law_numerator : PySem.W.nsIn K mainGlobals "_law_numerator" = some (some (.ref f_d_law_numerator)))
    (q_l_d_law_numerator : K.lookup f_d_law_numerator = some ⟨oc_d_law_numerator, od_d_law_numerator, .func (PySem.W.fnOf "_law_numerator" "_law_numerator" (defArgs s_law_numerator) (defBody s_law_numerator) (defScope s_law_numerator) .none kV_d_law_numerator dc_d_law_numerator pm_d_law_numerator an_d_law_numerator cd_d_law_numerator ct_d_law_numerator), sl_d_law_numerator⟩)
    (q_c_d_law_numerator : PySem.W.codeIn K cd_d_law_numerator "_law_numerator" = true)
    (q_k_d_law_numerator : PySem.W.keepIn K (.ref f_d_law_numerator) = true)
    (q_a_d_law_denominator : PySem.W.nsIn K mainGlobals "_law_denominator" = some (some (.ref f_d_law_denominator)))
    (q_l_d_law_denominator : K.lookup f_d_law_denominator = some ⟨oc_d_law_denominator, od_d_law_denominator, .func (PySem.W.fnOf "_law_denominator" "_law_denominator" (defArgs s_law_denominator) (defBody s_law_denominator) (defScope s_law_denominator) .none kV_d_law_denominator dc_d_law_denominator pm_d_law_denominator an_d_law_denominator cd_d_law_denominator ct_d_law_denominator), sl_d_law_denominator⟩)
    (q_c_d_law_denominator : PySem.W.codeIn K cd_d_law_denominator "_law_denominator" = true)
    (q_k_d_law_denominator : PySem.W.keepIn K (.ref f_d_law_denominator) = true)
    (q_a_d_law_made : PySem.W.nsIn K mainGlobals "_law_made" = some (some (.ref f_d_law_made)))
    (q_l_d_law_made : K.lookup f_d_law_made = some ⟨oc_d_law_made, od_d_law_made, .func (PySem.W.fnOf "_law_made" "_law_made" (defArgs s_law_made) (defBody s_law_made) (defScope s_law_made) .none kV_d_law_made dc_d_law_made pm_d_law_made an_d_law_made cd_d_law_made ct_d_law_made), sl_d_law_made⟩)
    (q_c_d_law_made : PySem.W.codeIn K cd_d_law_made "_law_made" = true)
    (q_k_d_law_made : PySem.W.keepIn K (.ref f_d_law_made) = true)
    (q_a_d_law_integer : PySem.W.nsIn K mainGlobals "_law_integer" = some (some (.ref f_d_law_integer)))
    (q_l_d_law_integer : K.lookup f_d_law_integer = some ⟨oc_d_law_integer, od_d_law_integer, .func (PySem.W.fnOf "_law_integer" "_law_integer" (defArgs s_law_integer) (defBody s_law_integer) (defScope s_law_integer) .none kV_d_law_integer dc_d_law_integer pm_d_law_integer an_d_law_integer cd_d_law_integer ct_d_law_integer), sl_d_law_integer⟩)
    (q_c_d_law_integer : PySem.W.codeIn K cd_d_law_integer "_law_integer" = true)
    (q_k_d_law_integer : PySem.W.keepIn K (.ref f_d_law_integer) = true)
    (q_a_d_law_truth : PySem.W.nsIn K mainGlobals "_law_truth" = some (some (.ref f_d_law_truth)))
    (q_l_d_law_truth : K.lookup f_d_law_truth = some ⟨oc_d_law_truth, od_d_law_truth, .func (PySem.W.fnOf "_law_truth" "_law_truth" (defArgs s_law_truth) (defBody s_law_truth) (defScope s_law_truth) .none kV_d_law_truth dc_d_law_truth pm_d_law_truth an_d_law_truth cd_d_law_truth ct_d_law_truth), sl_d_law_truth⟩)
    (q_c_d_law_truth : PySem.W.codeIn K cd_d_law_truth "_law_truth" = true)
    (q_k_d_law_truth : PySem.W.keepIn K (.ref f_d_law_truth) = true)
    (q_a_d_law_is : PySem.W.nsIn K mainGlobals "_law_is" = some (some (.ref f_d_law_is)))
    (q_l_d_law_is : K.lookup f_d_law_is = some ⟨oc_d_law_is, od_d_law_is, .func (PySem.W.fnOf "_law_is" "_law_is" (defArgs s_law_is) (defBody s_law_is) (defScope s_law_is) .none kV_d_law_is dc_d_law_is pm_d_law_is an_d_law_is cd_d_law_is ct_d_law_is), sl_d_law_is⟩)
    (q_c_d_law_is : PySem.W.codeIn K cd_d_law_is "_law_is" = true)
    (q_k_d_law_is : PySem.W.keepIn K (.ref f_d_law_is) = true)
    (q_a_d_law_refused : PySem.W.nsIn K mainGlobals "_law_refused" = some (some (.ref f_d_law_refused)))
    (q_l_d_law_refused : K.lookup f_d_law_refused = some ⟨oc_d_law_refused, od_d_law_refused, .func (PySem.W.fnOf "_law_refused" "_law_refused" (defArgs s_law_refused) (defBody s_law_refused) (defScope s_law_refused) .none kV_d_law_refused dc_d_law_refused pm_d_law_refused an_d_law_refused cd_d_law_refused ct_d_law_refused), sl_d_law_refused⟩)
    (q_c_d_law_refused : PySem.W.codeIn K cd_d_law_refused "_law_refused" = true)
    (q_k_d_law_refused : PySem.W.keepIn K (.ref f_d_law_refused) = true)
    (q_a_d_law_operators : PySem.W.nsIn K mainGlobals "_law_operators" = some (some (.ref f_d_law_operators)))
    (q_l_d_law_operators : K.lookup f_d_law_operators = some ⟨oc_d_law_operators, od_d_law_operators, .func (PySem.W.fnOf "_law_operators" "_law_operators" (defArgs s_law_operators) (defBody s_law_operators) (defScope s_law_operators) .none kV_d_law_operators dc_d_law_operators pm_d_law_operators an_d_law_operators cd_d_law_operators ct_d_law_operators), sl_d_law_operators⟩)
    (q_c_d_law_operators : PySem.W.codeIn K cd_d_law_operators "_law_operators" = true)
    (q_k_d_law_operators : PySem.W.keepIn K (.ref f_d_law_operators) = true)
    (q_a_d_law_over : PySem.W.nsIn K mainGlobals "_law_over" = some (some (.ref f_d_law_over)))
    (q_l_d_law_over : K.lookup f_d_law_over = some ⟨oc_d_law_over, od_d_law_over, .func (PySem.W.fnOf "_law_over" "_law_over" (defArgs s_law_over) (defBody s_law_over) (defScope s_law_over) .none kV_d_law_over dc_d_law_over pm_d_law_over an_d_law_over cd_d_law_over ct_d_law_over), sl_d_law_over⟩)
    (q_c_d_law_over : PySem.W.codeIn K cd_d_law_over "_law_over" = true)
    (q_k_d_law_over : PySem.W.keepIn K (.ref f_d_law_over) = true)
    (q_a_d_law_orders : PySem.W.nsIn K mainGlobals "_law_orders" = some (some (.ref f_d_law_orders)))
    (q_l_d_law_orders : K.lookup f_d_law_orders = some ⟨oc_d_law_orders, od_d_law_orders, .func (PySem.W.fnOf "_law_orders" "_law_orders" (defArgs s_law_orders) (defBody s_law_orders) (defScope s_law_orders) .none kV_d_law_orders dc_d_law_orders pm_d_law_orders an_d_law_orders cd_d_law_orders ct_d_law_orders), sl_d_law_orders⟩)
    (q_c_d_law_orders : PySem.W.codeIn K cd_d_law_orders "_law_orders" = true)
    (q_k_d_law_orders : PySem.W.keepIn K (.ref f_d_law_orders) = true)
    (q_a_d_law_powers : PySem.W.nsIn K mainGlobals "_law_powers" = some (some (.ref f_d_law_powers)))
    (q_l_d_law_powers : K.lookup f_d_law_powers = some ⟨oc_d_law_powers, od_d_law_powers, .func (PySem.W.fnOf "_law_powers" "_law_powers" (defArgs s_law_powers) (defBody s_law_powers) (defScope s_law_powers) .none kV_d_law_powers dc_d_law_powers pm_d_law_powers an_d_law_powers cd_d_law_powers ct_d_law_powers), sl_d_law_powers⟩)
    (q_c_d_law_powers : PySem.W.codeIn K cd_d_law_powers "_law_powers" = true)
    (q_k_d_law_powers : PySem.W.keepIn K (.ref f_d_law_powers) = true)
    (q_a_d_law_single : PySem.W.nsIn K mainGlobals "_law_single" = some (some (.ref f_d_law_single)))
    (q_l_d_law_single : K.lookup f_d_law_single = some ⟨oc_d_law_single, od_d_law_single, .func (PySem.W.fnOf "_law_single" "_law_single" (defArgs s_law_single) (defBody s_law_single) (defScope s_law_single) .none kV_d_law_single dc_d_law_single pm_d_law_single an_d_law_single cd_d_law_single ct_d_law_single), sl_d_law_single⟩)
    (q_c_d_law_single : PySem.W.codeIn K cd_d_law_single "_law_single" = true)
    (q_k_d_law_single : PySem.W.keepIn K (.ref f_d_law_single) = true)
    (q_a_d_law_in_place : PySem.W.nsIn K mainGlobals "_law_in_place" = some (some (.ref f_d_law_in_place)))
    (q_l_d_law_in_place : K.lookup f_d_law_in_place = some ⟨oc_d_law_in_place, od_d_law_in_place, .func (PySem.W.fnOf "_law_in_place" "_law_in_place" (defArgs s_law_in_place) (defBody s_law_in_place) (defScope s_law_in_place) .none kV_d_law_in_place dc_d_law_in_place pm_d_law_in_place an_d_law_in_place cd_d_law_in_place ct_d_law_in_place), sl_d_law_in_place⟩)
    (q_c_d_law_in_place : PySem.W.codeIn K cd_d_law_in_place "_law_in_place" = true)
    (q_k_d_law_in_place : PySem.W.keepIn K (.ref f_d_law_in_place) = true)
    (q_a_d_law_made_plain : PySem.W.nsIn K mainGlobals "_law_made_plain" = some (some (.ref f_d_law_made_plain)))
    (q_l_d_law_made_plain : K.lookup f_d_law_made_plain = some ⟨oc_d_law_made_plain, od_d_law_made_plain, .func (PySem.W.fnOf "_law_made_plain" "_law_made_plain" (defArgs s_law_made_plain) (defBody s_law_made_plain) (defScope s_law_made_plain) .none kV_d_law_made_plain dc_d_law_made_plain pm_d_law_made_plain an_d_law_made_plain cd_d_law_made_plain ct_d_law_made_plain), sl_d_law_made_plain⟩)
    (q_c_d_law_made_plain : PySem.W.codeIn K cd_d_law_made_plain "_law_made_plain" = true)
    (q_k_d_law_made_plain : PySem.W.keepIn K (.ref f_d_law_made_plain) = true)
    (q_a_d_law : PySem.W.nsIn K mainGlobals "law" = some (some (.ref f_d_law)))
    (q_l_d_law : K.lookup f_d_law = some ⟨oc_d_law, od_d_law, .func (PySem.W.fnOf "law" "law" (defArgs s_law) (defBody s_law) (defScope s_law) .none kV_d_law dc_d_law pm_d_law an_d_law cd_d_law ct_d_law), sl_d_law⟩)
    (q_c_d_law : PySem.W.codeIn K cd_d_law "law" = true)
    (q_k_d_law : PySem.W.keepIn K (.ref f_d_law) = true)
    (q_pgC : PySem.W.plainGet K C Str.empty = true)
    (q_hdC : PySem.W.hasDictIn K C = true)
    (q_poC : PySem.W.plainOver K C = true)
    (q_saC : PySem.W.findIn K (.ref C) "__setattr__" = some (some (.builtin "object.__setattr__")))
    (q_mkC : PySem.W.makesIn K C = true)
    (q_kcC : PySem.W.keepIn K (.ref C) = true)
    (q_nN : PySem.W.findIn K (.ref C) "num" = some none)
    (q_nD : PySem.W.findIn K (.ref C) "den" = some none)
    (q_self : PySem.W.selfFirst K C = true)
    (q_subI : PySem.W.subIn K (.type "int") (.ref C) = some false)
    (q_subN : PySem.W.subIn K (.type "NoneType") (.ref C) = some false)
    (q_subS : PySem.W.subIn K (.type "str") (.ref C) = some false)
    (q_subC : PySem.W.subIn K (.ref C) (.type "int") = some false)
    (q_isC : PySem.W.isClsIn K C = true)
    (q_tyC : PySem.W.typeIn K (.ref C) = some (.type "type"))
    (q_ca : PySem.W.findIn K (.ref C) "__class__" = some (some (.builtin "object.__class__")))
    (q_cn : PySem.W.specialIn K (.builtin "object.__class__") "__get__" = some (some (.builtin "getset_descriptor.__get__")))
    (q_ct : PySem.W.takesIn K (.builtin "object.__class__") = some true)
    (q_cm : PySem.W.mroIn K C (.type "object") = some true)
    (q_xZ : PySem.W.excIn K Z [.type "ValueError", .type "Exception", .type "BaseException", .type "object"] "ValueError.__new__" = true)
    (q_kZ : PySem.W.keepIn K (.ref Z) = true)
    (q_bZ : PySem.W.subIn K (.ref Z) (.type "BaseException") = some true)
    (q_tZ : PySem.W.typeIn K (.ref Z) = some (.type "type"))
    (q_zg : PySem.W.findIn K (.ref Z) "__getattribute__" = some (some (.builtin "BaseException.__getattribute__")))
    (q_zk : PySem.W.findIn K (.ref Z) "__getattr__" = some none)
    (q_zd : PySem.W.hasDictIn K Z = true)
    (q_za : PySem.W.findIn K (.ref Z) "__class__" = some (some (.builtin "object.__class__")))
    (q_zm : PySem.W.mroIn K Z (.type "object") = some true)
    (q_be1 : PySem.W.subIn K (.ref BE) (.type "BaseException") = some true)
    (q_be2 : PySem.W.hasDictIn K BE = true)
    (q_be3 : PySem.W.typeIn K (.ref BE) = some (.type "type"))
    (q_be4 : PySem.W.subIn K (.ref Z) (.ref BE) = some true)
    (q_bn1 : (Value.ref Z == Value.ref BN) = false)
    (q_bn2 : PySem.W.isClsIn K BN = true)
    (q_bn3 : PySem.W.typeIn K (.ref BN) = some (.type "type"))
    (q_bn4 : PySem.W.subIn K (.ref Z) (.ref BN) = some false)
    (q_ve : PySem.W.subIn K (.ref Z) (.type "ValueError") = some true)
    (q_o1_add : PySem.W.findIn K (.type "int") (PySem.dunder "add") = some fo_add)
    (q_o2_add : PySem.W.findIn K (.type "int") (dunderR "add") = some ro_add)
    (q_o1_sub : PySem.W.findIn K (.type "int") (PySem.dunder "sub") = some fo_sub)
    (q_o2_sub : PySem.W.findIn K (.type "int") (dunderR "sub") = some ro_sub)
    (q_o1_mul : PySem.W.findIn K (.type "int") (PySem.dunder "mul") = some fo_mul)
    (q_o2_mul : PySem.W.findIn K (.type "int") (dunderR "mul") = some ro_mul)
    (q_o1_floordiv : PySem.W.findIn K (.type "int") (PySem.dunder "floordiv") = some fo_floordiv)
    (q_o2_floordiv : PySem.W.findIn K (.type "int") (dunderR "floordiv") = some ro_floordiv)
    (q_o1_mod : PySem.W.findIn K (.type "int") (PySem.dunder "mod") = some fo_mod)
    (q_o2_mod : PySem.W.findIn K (.type "int") (dunderR "mod") = some ro_mod)
    (q_o1_pow : PySem.W.findIn K (.type "int") (PySem.dunder "pow") = some fo_pow)
    (q_o2_pow : PySem.W.findIn K (.type "int") (dunderR "pow") = some ro_pow)
    (q_o3_pow : PySem.W.findIn K (.ref C) (dunderR "pow") = some none)
    (q_n1_add : PySem.W.findIn K (.ref C) (dunderI "add") = some none)
    (q_n2_add : PySem.W.findIn K (.type "object") (dunderI "add") = some none)
    (q_n1_sub : PySem.W.findIn K (.ref C) (dunderI "sub") = some none)
    (q_n2_sub : PySem.W.findIn K (.type "object") (dunderI "sub") = some none)
    (q_n1_mul : PySem.W.findIn K (.ref C) (dunderI "mul") = some none)
    (q_n2_mul : PySem.W.findIn K (.type "object") (dunderI "mul") = some none)
    (q_n1_floordiv : PySem.W.findIn K (.ref C) (dunderI "floordiv") = some none)
    (q_n2_floordiv : PySem.W.findIn K (.type "object") (dunderI "floordiv") = some none)
    (q_clC : PySem.W.clsIn K C = some clsC)
    (q_mroC : clsC.mro = [.ref C, .type "object"])
    : ∃ fd : FuncData, (∀ (s : Shared) (v : Value), BindsTo s fd ⟨[v], []⟩ [("script", v)]) ∧ ∀ base : Heap, K.In base → base.Ns mainGlobals mg → FnOk P w K mg base (L2.CX P w) 10 fa fd ["script"] (spLaw K) := by
  have e := hfa.symm.trans (PySem.W.mg_of X G q_a_d_law)
  cases e
  have T : FrTxt K mg C Z := ⟨⟨q_pgC, q_hdC, q_poC, q_saC⟩, q_nN, q_nD, PySem.W.mg_of X G q_aC, q_self, q_subI, q_subN, q_subS, q_subC, q_isC, q_tyC, q_ca, q_cn, q_ct, q_cm, PySem.W.mg_none_of X G q_b_isinstance, PySem.W.mg_none_of X G q_b_int, PySem.W.mg_of X G q_aG, PySem.W.mg_none_of X G q_b_NotImplemented, PySem.W.mg_of X G q_aZ, q_xZ, q_kZ, q_bZ, q_tZ⟩
  have B : BT mg := ⟨PySem.W.mg_none_of X G q_b_len, PySem.W.mg_none_of X G q_b_int, PySem.W.mg_none_of X G q_b_abs, PySem.W.mg_none_of X G q_b_range, PySem.W.mg_none_of X G q_b_isinstance, PySem.W.mg_none_of X G q_b_bool, PySem.W.mg_none_of X G q_b_str, PySem.W.mg_none_of X G q_b_ValueError⟩
  have R : ErT K mg Z BE BN := ⟨PySem.W.mg_of X G q_aE, PySem.W.mg_of X G q_aB, ⟨q_zg, q_zk, q_bZ, q_zd, q_za, q_cn, q_ct, q_zm⟩, PySem.W.exm_ref q_be1 q_be2 q_be3 q_be4, kit_cls q_bn1 q_bn2 q_bn3 q_bn4, kit_base (by rfl) (by decide +kernel) q_ve⟩
  have M_over : MFun K C "over" "Frac.over" s_Frac_over ["self", "other"] := ⟨_, _, fun_mk (st := s_Frac_over) q_l_m_over q_c_m_over q_k_m_over, ⟨q_a_m_over, q_i_m_over, q_k_m_over⟩, (fun_mk (st := s_Frac_over) q_l_m_over q_c_m_over q_k_m_over).binds (ps := ["self", "other"]) fun _ _ _ _ _ _ us hl => match us, hl with | [_, _], _ => rfl⟩
  have M_floor : MFun K C "floor" "Frac.floor" s_Frac_floor ["self"] := ⟨_, _, fun_mk (st := s_Frac_floor) q_l_m_floor q_c_m_floor q_k_m_floor, ⟨q_a_m_floor, q_i_m_floor, q_k_m_floor⟩, (fun_mk (st := s_Frac_floor) q_l_m_floor q_c_m_floor q_k_m_floor).binds (ps := ["self"]) fun _ _ _ _ _ _ us hl => match us, hl with | [_], _ => rfl⟩
  have M_ceiling : MFun K C "ceiling" "Frac.ceiling" s_Frac_ceiling ["self"] := ⟨_, _, fun_mk (st := s_Frac_ceiling) q_l_m_ceiling q_c_m_ceiling q_k_m_ceiling, ⟨q_a_m_ceiling, q_i_m_ceiling, q_k_m_ceiling⟩, (fun_mk (st := s_Frac_ceiling) q_l_m_ceiling q_c_m_ceiling q_k_m_ceiling).binds (ps := ["self"]) fun _ _ _ _ _ _ us hl => match us, hl with | [_], _ => rfl⟩
  have M_bool : MFun K C "__bool__" "Frac.__bool__" s_Frac_bool ["self"] := ⟨_, _, fun_mk (st := s_Frac_bool) q_l_m_bool q_c_m_bool q_k_m_bool, ⟨q_a_m_bool, q_i_m_bool, q_k_m_bool⟩, (fun_mk (st := s_Frac_bool) q_l_m_bool q_c_m_bool q_k_m_bool).binds (ps := ["self"]) fun _ _ _ _ _ _ us hl => match us, hl with | [_], _ => rfl⟩
  have M_neg : MFun K C "__neg__" "Frac.__neg__" s_Frac_neg ["self"] := ⟨_, _, fun_mk (st := s_Frac_neg) q_l_m_neg q_c_m_neg q_k_m_neg, ⟨q_a_m_neg, q_i_m_neg, q_k_m_neg⟩, (fun_mk (st := s_Frac_neg) q_l_m_neg q_c_m_neg q_k_m_neg).binds (ps := ["self"]) fun _ _ _ _ _ _ us hl => match us, hl with | [_], _ => rfl⟩
  have M_abs : MFun K C "__abs__" "Frac.__abs__" s_Frac_abs ["self"] := ⟨_, _, fun_mk (st := s_Frac_abs) q_l_m_abs q_c_m_abs q_k_m_abs, ⟨q_a_m_abs, q_i_m_abs, q_k_m_abs⟩, (fun_mk (st := s_Frac_abs) q_l_m_abs q_c_m_abs q_k_m_abs).binds (ps := ["self"]) fun _ _ _ _ _ _ us hl => match us, hl with | [_], _ => rfl⟩
  have M_add : MFun K C "__add__" "Frac.__add__" s_Frac_add ["self", "other"] := ⟨_, _, fun_mk (st := s_Frac_add) q_l_m_add q_c_m_add q_k_m_add, ⟨q_a_m_add, q_i_m_add, q_k_m_add⟩, (fun_mk (st := s_Frac_add) q_l_m_add q_c_m_add q_k_m_add).binds (ps := ["self", "other"]) fun _ _ _ _ _ _ us hl => match us, hl with | [_, _], _ => rfl⟩
  have M_radd : MFun K C "__radd__" "Frac.__radd__" s_Frac_radd ["self", "other"] := ⟨_, _, fun_mk (st := s_Frac_radd) q_l_m_radd q_c_m_radd q_k_m_radd, ⟨q_a_m_radd, q_i_m_radd, q_k_m_radd⟩, (fun_mk (st := s_Frac_radd) q_l_m_radd q_c_m_radd q_k_m_radd).binds (ps := ["self", "other"]) fun _ _ _ _ _ _ us hl => match us, hl with | [_, _], _ => rfl⟩
  have M_sub : MFun K C "__sub__" "Frac.__sub__" s_Frac_sub ["self", "other"] := ⟨_, _, fun_mk (st := s_Frac_sub) q_l_m_sub q_c_m_sub q_k_m_sub, ⟨q_a_m_sub, q_i_m_sub, q_k_m_sub⟩, (fun_mk (st := s_Frac_sub) q_l_m_sub q_c_m_sub q_k_m_sub).binds (ps := ["self", "other"]) fun _ _ _ _ _ _ us hl => match us, hl with | [_, _], _ => rfl⟩
  have M_rsub : MFun K C "__rsub__" "Frac.__rsub__" s_Frac_rsub ["self", "other"] := ⟨_, _, fun_mk (st := s_Frac_rsub) q_l_m_rsub q_c_m_rsub q_k_m_rsub, ⟨q_a_m_rsub, q_i_m_rsub, q_k_m_rsub⟩, (fun_mk (st := s_Frac_rsub) q_l_m_rsub q_c_m_rsub q_k_m_rsub).binds (ps := ["self", "other"]) fun _ _ _ _ _ _ us hl => match us, hl with | [_, _], _ => rfl⟩
  have M_mul : MFun K C "__mul__" "Frac.__mul__" s_Frac_mul ["self", "other"] := ⟨_, _, fun_mk (st := s_Frac_mul) q_l_m_mul q_c_m_mul q_k_m_mul, ⟨q_a_m_mul, q_i_m_mul, q_k_m_mul⟩, (fun_mk (st := s_Frac_mul) q_l_m_mul q_c_m_mul q_k_m_mul).binds (ps := ["self", "other"]) fun _ _ _ _ _ _ us hl => match us, hl with | [_, _], _ => rfl⟩
  have M_rmul : MFun K C "__rmul__" "Frac.__rmul__" s_Frac_rmul ["self", "other"] := ⟨_, _, fun_mk (st := s_Frac_rmul) q_l_m_rmul q_c_m_rmul q_k_m_rmul, ⟨q_a_m_rmul, q_i_m_rmul, q_k_m_rmul⟩, (fun_mk (st := s_Frac_rmul) q_l_m_rmul q_c_m_rmul q_k_m_rmul).binds (ps := ["self", "other"]) fun _ _ _ _ _ _ us hl => match us, hl with | [_, _], _ => rfl⟩
  have M_floordiv : MFun K C "__floordiv__" "Frac.__floordiv__" s_Frac_floordiv ["self", "other"] := ⟨_, _, fun_mk (st := s_Frac_floordiv) q_l_m_floordiv q_c_m_floordiv q_k_m_floordiv, ⟨q_a_m_floordiv, q_i_m_floordiv, q_k_m_floordiv⟩, (fun_mk (st := s_Frac_floordiv) q_l_m_floordiv q_c_m_floordiv q_k_m_floordiv).binds (ps := ["self", "other"]) fun _ _ _ _ _ _ us hl => match us, hl with | [_, _], _ => rfl⟩
  have M_rfloordiv : MFun K C "__rfloordiv__" "Frac.__rfloordiv__" s_Frac_rfloordiv ["self", "other"] := ⟨_, _, fun_mk (st := s_Frac_rfloordiv) q_l_m_rfloordiv q_c_m_rfloordiv q_k_m_rfloordiv, ⟨q_a_m_rfloordiv, q_i_m_rfloordiv, q_k_m_rfloordiv⟩, (fun_mk (st := s_Frac_rfloordiv) q_l_m_rfloordiv q_c_m_rfloordiv q_k_m_rfloordiv).binds (ps := ["self", "other"]) fun _ _ _ _ _ _ us hl => match us, hl with | [_, _], _ => rfl⟩
  have M_mod : MFun K C "__mod__" "Frac.__mod__" s_Frac_mod ["self", "other"] := ⟨_, _, fun_mk (st := s_Frac_mod) q_l_m_mod q_c_m_mod q_k_m_mod, ⟨q_a_m_mod, q_i_m_mod, q_k_m_mod⟩, (fun_mk (st := s_Frac_mod) q_l_m_mod q_c_m_mod q_k_m_mod).binds (ps := ["self", "other"]) fun _ _ _ _ _ _ us hl => match us, hl with | [_, _], _ => rfl⟩
  have M_rmod : MFun K C "__rmod__" "Frac.__rmod__" s_Frac_rmod ["self", "other"] := ⟨_, _, fun_mk (st := s_Frac_rmod) q_l_m_rmod q_c_m_rmod q_k_m_rmod, ⟨q_a_m_rmod, q_i_m_rmod, q_k_m_rmod⟩, (fun_mk (st := s_Frac_rmod) q_l_m_rmod q_c_m_rmod q_k_m_rmod).binds (ps := ["self", "other"]) fun _ _ _ _ _ _ us hl => match us, hl with | [_, _], _ => rfl⟩
  have M_pow : MFun K C "__pow__" "Frac.__pow__" s_Frac_pow ["self", "other"] := ⟨_, _, fun_mk (st := s_Frac_pow) q_l_m_pow q_c_m_pow q_k_m_pow, ⟨q_a_m_pow, q_i_m_pow, q_k_m_pow⟩, (fun_mk (st := s_Frac_pow) q_l_m_pow q_c_m_pow q_k_m_pow).binds (ps := ["self", "other"]) fun _ _ _ _ _ _ us hl => match us, hl with | [_, _], _ => rfl⟩
  have M_eq : MFun K C "__eq__" "Frac.__eq__" s_Frac_eq ["self", "other"] := ⟨_, _, fun_mk (st := s_Frac_eq) q_l_m_eq q_c_m_eq q_k_m_eq, ⟨q_a_m_eq, q_i_m_eq, q_k_m_eq⟩, (fun_mk (st := s_Frac_eq) q_l_m_eq q_c_m_eq q_k_m_eq).binds (ps := ["self", "other"]) fun _ _ _ _ _ _ us hl => match us, hl with | [_, _], _ => rfl⟩
  have M_ne : MFun K C "__ne__" "Frac.__ne__" s_Frac_ne ["self", "other"] := ⟨_, _, fun_mk (st := s_Frac_ne) q_l_m_ne q_c_m_ne q_k_m_ne, ⟨q_a_m_ne, q_i_m_ne, q_k_m_ne⟩, (fun_mk (st := s_Frac_ne) q_l_m_ne q_c_m_ne q_k_m_ne).binds (ps := ["self", "other"]) fun _ _ _ _ _ _ us hl => match us, hl with | [_, _], _ => rfl⟩
  have M_lt : MFun K C "__lt__" "Frac.__lt__" s_Frac_lt ["self", "other"] := ⟨_, _, fun_mk (st := s_Frac_lt) q_l_m_lt q_c_m_lt q_k_m_lt, ⟨q_a_m_lt, q_i_m_lt, q_k_m_lt⟩, (fun_mk (st := s_Frac_lt) q_l_m_lt q_c_m_lt q_k_m_lt).binds (ps := ["self", "other"]) fun _ _ _ _ _ _ us hl => match us, hl with | [_, _], _ => rfl⟩
  have M_le : MFun K C "__le__" "Frac.__le__" s_Frac_le ["self", "other"] := ⟨_, _, fun_mk (st := s_Frac_le) q_l_m_le q_c_m_le q_k_m_le, ⟨q_a_m_le, q_i_m_le, q_k_m_le⟩, (fun_mk (st := s_Frac_le) q_l_m_le q_c_m_le q_k_m_le).binds (ps := ["self", "other"]) fun _ _ _ _ _ _ us hl => match us, hl with | [_, _], _ => rfl⟩
  have M_gt : MFun K C "__gt__" "Frac.__gt__" s_Frac_gt ["self", "other"] := ⟨_, _, fun_mk (st := s_Frac_gt) q_l_m_gt q_c_m_gt q_k_m_gt, ⟨q_a_m_gt, q_i_m_gt, q_k_m_gt⟩, (fun_mk (st := s_Frac_gt) q_l_m_gt q_c_m_gt q_k_m_gt).binds (ps := ["self", "other"]) fun _ _ _ _ _ _ us hl => match us, hl with | [_, _], _ => rfl⟩
  have M_ge : MFun K C "__ge__" "Frac.__ge__" s_Frac_ge ["self", "other"] := ⟨_, _, fun_mk (st := s_Frac_ge) q_l_m_ge q_c_m_ge q_k_m_ge, ⟨q_a_m_ge, q_i_m_ge, q_k_m_ge⟩, (fun_mk (st := s_Frac_ge) q_l_m_ge q_c_m_ge q_k_m_ge).binds (ps := ["self", "other"]) fun _ _ _ _ _ _ us hl => match us, hl with | [_, _], _ => rfl⟩
  have D_as_frac : GFun K mg "as_frac" s_as_frac ["number"] := ⟨_, _, fun_mk (st := s_as_frac) q_l_d_as_frac q_c_d_as_frac q_k_d_as_frac, PySem.W.mg_of X G q_a_d_as_frac, (fun_mk (st := s_as_frac) q_l_d_as_frac q_c_d_as_frac q_k_d_as_frac).binds (ps := ["number"]) fun _ _ _ _ _ _ us hl => match us, hl with | [_], _ => rfl⟩
  have D_gap : GFun K mg "gap" s_gap ["left", "right"] := ⟨_, _, fun_mk (st := s_gap) q_l_d_gap q_c_d_gap q_k_d_gap, PySem.W.mg_of X G q_a_d_gap, (fun_mk (st := s_gap) q_l_d_gap q_c_d_gap q_k_d_gap).binds (ps := ["left", "right"]) fun _ _ _ _ _ _ us hl => match us, hl with | [_, _], _ => rfl⟩
  have D_law_cell : GFun K mg "_law_cell" s_law_cell ["script", "k"] := ⟨_, _, fun_mk (st := s_law_cell) q_l_d_law_cell q_c_d_law_cell q_k_d_law_cell, PySem.W.mg_of X G q_a_d_law_cell, (fun_mk (st := s_law_cell) q_l_d_law_cell q_c_d_law_cell q_k_d_law_cell).binds (ps := ["script", "k"]) fun _ _ _ _ _ _ us hl => match us, hl with | [_, _], _ => rfl⟩
  have D_law_gcd : GFun K mg "_law_gcd" s_law_gcd ["first", "second"] := ⟨_, _, fun_mk (st := s_law_gcd) q_l_d_law_gcd q_c_d_law_gcd q_k_d_law_gcd, PySem.W.mg_of X G q_a_d_law_gcd, (fun_mk (st := s_law_gcd) q_l_d_law_gcd q_c_d_law_gcd q_k_d_law_gcd).binds (ps := ["first", "second"]) fun _ _ _ _ _ _ us hl => match us, hl with | [_, _], _ => rfl⟩
  have D_law_low : GFun K mg "_law_low" s_law_low ["num", "den"] := ⟨_, _, fun_mk (st := s_law_low) q_l_d_law_low q_c_d_law_low q_k_d_law_low, PySem.W.mg_of X G q_a_d_law_low, (fun_mk (st := s_law_low) q_l_d_law_low q_c_d_law_low q_k_d_law_low).binds (ps := ["num", "den"]) fun _ _ _ _ _ _ us hl => match us, hl with | [_, _], _ => rfl⟩
  have D_law_add : GFun K mg "_law_add" s_law_add ["first", "second"] := ⟨_, _, fun_mk (st := s_law_add) q_l_d_law_add q_c_d_law_add q_k_d_law_add, PySem.W.mg_of X G q_a_d_law_add, (fun_mk (st := s_law_add) q_l_d_law_add q_c_d_law_add q_k_d_law_add).binds (ps := ["first", "second"]) fun _ _ _ _ _ _ us hl => match us, hl with | [_, _], _ => rfl⟩
  have D_law_mul : GFun K mg "_law_mul" s_law_mul ["first", "second"] := ⟨_, _, fun_mk (st := s_law_mul) q_l_d_law_mul q_c_d_law_mul q_k_d_law_mul, PySem.W.mg_of X G q_a_d_law_mul, (fun_mk (st := s_law_mul) q_l_d_law_mul q_c_d_law_mul q_k_d_law_mul).binds (ps := ["first", "second"]) fun _ _ _ _ _ _ us hl => match us, hl with | [_, _], _ => rfl⟩
  have D_law_floor : GFun K mg "_law_floor" s_law_floor ["first", "second"] := ⟨_, _, fun_mk (st := s_law_floor) q_l_d_law_floor q_c_d_law_floor q_k_d_law_floor, PySem.W.mg_of X G q_a_d_law_floor, (fun_mk (st := s_law_floor) q_l_d_law_floor q_c_d_law_floor q_k_d_law_floor).binds (ps := ["first", "second"]) fun _ _ _ _ _ _ us hl => match us, hl with | [_, _], _ => rfl⟩
  have D_law_great : GFun K mg "_law_great" s_law_great ["script", "k"] := ⟨_, _, fun_mk (st := s_law_great) q_l_d_law_great q_c_d_law_great q_k_d_law_great, PySem.W.mg_of X G q_a_d_law_great, (fun_mk (st := s_law_great) q_l_d_law_great q_c_d_law_great q_k_d_law_great).binds (ps := ["script", "k"]) fun _ _ _ _ _ _ us hl => match us, hl with | [_, _], _ => rfl⟩
  have D_law_numerator : GFun K mg "_law_numerator" s_law_numerator ["script", "k"] := ⟨_, _, fun_mk (st := s_law_numerator) q_l_d_law_numerator q_c_d_law_numerator q_k_d_law_numerator, PySem.W.mg_of X G q_a_d_law_numerator, (fun_mk (st := s_law_numerator) q_l_d_law_numerator q_c_d_law_numerator q_k_d_law_numerator).binds (ps := ["script", "k"]) fun _ _ _ _ _ _ us hl => match us, hl with | [_, _], _ => rfl⟩
  have D_law_denominator : GFun K mg "_law_denominator" s_law_denominator ["script", "k"] := ⟨_, _, fun_mk (st := s_law_denominator) q_l_d_law_denominator q_c_d_law_denominator q_k_d_law_denominator, PySem.W.mg_of X G q_a_d_law_denominator, (fun_mk (st := s_law_denominator) q_l_d_law_denominator q_c_d_law_denominator q_k_d_law_denominator).binds (ps := ["script", "k"]) fun _ _ _ _ _ _ us hl => match us, hl with | [_, _], _ => rfl⟩
  have D_law_made : GFun K mg "_law_made" s_law_made ["value", "cell"] := ⟨_, _, fun_mk (st := s_law_made) q_l_d_law_made q_c_d_law_made q_k_d_law_made, PySem.W.mg_of X G q_a_d_law_made, (fun_mk (st := s_law_made) q_l_d_law_made q_c_d_law_made q_k_d_law_made).binds (ps := ["value", "cell"]) fun _ _ _ _ _ _ us hl => match us, hl with | [_, _], _ => rfl⟩
  have D_law_integer : GFun K mg "_law_integer" s_law_integer ["told", "due"] := ⟨_, _, fun_mk (st := s_law_integer) q_l_d_law_integer q_c_d_law_integer q_k_d_law_integer, PySem.W.mg_of X G q_a_d_law_integer, (fun_mk (st := s_law_integer) q_l_d_law_integer q_c_d_law_integer q_k_d_law_integer).binds (ps := ["told", "due"]) fun _ _ _ _ _ _ us hl => match us, hl with | [_, _], _ => rfl⟩
  have D_law_truth : GFun K mg "_law_truth" s_law_truth ["told", "due"] := ⟨_, _, fun_mk (st := s_law_truth) q_l_d_law_truth q_c_d_law_truth q_k_d_law_truth, PySem.W.mg_of X G q_a_d_law_truth, (fun_mk (st := s_law_truth) q_l_d_law_truth q_c_d_law_truth q_k_d_law_truth).binds (ps := ["told", "due"]) fun _ _ _ _ _ _ us hl => match us, hl with | [_, _], _ => rfl⟩
  have D_law_is : GFun K mg "_law_is" s_law_is ["told", "due"] := ⟨_, _, fun_mk (st := s_law_is) q_l_d_law_is q_c_d_law_is q_k_d_law_is, PySem.W.mg_of X G q_a_d_law_is, (fun_mk (st := s_law_is) q_l_d_law_is q_c_d_law_is q_k_d_law_is).binds (ps := ["told", "due"]) fun _ _ _ _ _ _ us hl => match us, hl with | [_, _], _ => rfl⟩
  have D_law_refused : GFun K mg "_law_refused" s_law_refused ["left", "right", "way"] := ⟨_, _, fun_mk (st := s_law_refused) q_l_d_law_refused q_c_d_law_refused q_k_d_law_refused, PySem.W.mg_of X G q_a_d_law_refused, (fun_mk (st := s_law_refused) q_l_d_law_refused q_c_d_law_refused q_k_d_law_refused).binds (ps := ["left", "right", "way"]) fun _ _ _ _ _ _ us hl => match us, hl with | [_, _, _], _ => rfl⟩
  have D_law_operators : GFun K mg "_law_operators" s_law_operators ["left", "right", "first", "second"] := ⟨_, _, fun_mk (st := s_law_operators) q_l_d_law_operators q_c_d_law_operators q_k_d_law_operators, PySem.W.mg_of X G q_a_d_law_operators, (fun_mk (st := s_law_operators) q_l_d_law_operators q_c_d_law_operators q_k_d_law_operators).binds (ps := ["left", "right", "first", "second"]) fun _ _ _ _ _ _ us hl => match us, hl with | [_, _, _, _], _ => rfl⟩
  have D_law_over : GFun K mg "_law_over" s_law_over ["left", "right", "first", "second"] := ⟨_, _, fun_mk (st := s_law_over) q_l_d_law_over q_c_d_law_over q_k_d_law_over, PySem.W.mg_of X G q_a_d_law_over, (fun_mk (st := s_law_over) q_l_d_law_over q_c_d_law_over q_k_d_law_over).binds (ps := ["left", "right", "first", "second"]) fun _ _ _ _ _ _ us hl => match us, hl with | [_, _, _, _], _ => rfl⟩
  have D_law_orders : GFun K mg "_law_orders" s_law_orders ["left", "right", "first", "second"] := ⟨_, _, fun_mk (st := s_law_orders) q_l_d_law_orders q_c_d_law_orders q_k_d_law_orders, PySem.W.mg_of X G q_a_d_law_orders, (fun_mk (st := s_law_orders) q_l_d_law_orders q_c_d_law_orders q_k_d_law_orders).binds (ps := ["left", "right", "first", "second"]) fun _ _ _ _ _ _ us hl => match us, hl with | [_, _, _, _], _ => rfl⟩
  have D_law_powers : GFun K mg "_law_powers" s_law_powers ["value", "due"] := ⟨_, _, fun_mk (st := s_law_powers) q_l_d_law_powers q_c_d_law_powers q_k_d_law_powers, PySem.W.mg_of X G q_a_d_law_powers, (fun_mk (st := s_law_powers) q_l_d_law_powers q_c_d_law_powers q_k_d_law_powers).binds (ps := ["value", "due"]) fun _ _ _ _ _ _ us hl => match us, hl with | [_, _], _ => rfl⟩
  have D_law_single : GFun K mg "_law_single" s_law_single ["value", "due"] := ⟨_, _, fun_mk (st := s_law_single) q_l_d_law_single q_c_d_law_single q_k_d_law_single, PySem.W.mg_of X G q_a_d_law_single, (fun_mk (st := s_law_single) q_l_d_law_single q_c_d_law_single q_k_d_law_single).binds (ps := ["value", "due"]) fun _ _ _ _ _ _ us hl => match us, hl with | [_, _], _ => rfl⟩
  have D_law_in_place : GFun K mg "_law_in_place" s_law_in_place ["kept", "right", "first", "second"] := ⟨_, _, fun_mk (st := s_law_in_place) q_l_d_law_in_place q_c_d_law_in_place q_k_d_law_in_place, PySem.W.mg_of X G q_a_d_law_in_place, (fun_mk (st := s_law_in_place) q_l_d_law_in_place q_c_d_law_in_place q_k_d_law_in_place).binds (ps := ["kept", "right", "first", "second"]) fun _ _ _ _ _ _ us hl => match us, hl with | [_, _, _, _], _ => rfl⟩
  have D_law_made_plain : GFun K mg "_law_made_plain" s_law_made_plain ["first"] := ⟨_, _, fun_mk (st := s_law_made_plain) q_l_d_law_made_plain q_c_d_law_made_plain q_k_d_law_made_plain, PySem.W.mg_of X G q_a_d_law_made_plain, (fun_mk (st := s_law_made_plain) q_l_d_law_made_plain q_c_d_law_made_plain q_k_d_law_made_plain).binds (ps := ["first"]) fun _ _ _ _ _ _ us hl => match us, hl with | [_], _ => rfl⟩
  have D_law : GFun K mg "law" s_law ["script"] := ⟨_, _, fun_mk (st := s_law) q_l_d_law q_c_d_law q_k_d_law, PySem.W.mg_of X G q_a_d_law, (fun_mk (st := s_law) q_l_d_law q_c_d_law q_k_d_law).binds (ps := ["script"]) fun _ _ _ _ _ _ us hl => match us, hl with | [_], _ => rfl⟩
  have W : PFun K C "is_whole" "Frac.is_whole" s_Frac_is_whole ["self"] := ⟨prw, _, _, fun_mk (st := s_Frac_is_whole) q_l_wh q_c_wh q_k_wh, ⟨q_a_wh, q_g_wh, q_t_wh, _, q_r_wh⟩, (fun_mk (st := s_Frac_is_whole) q_l_wh q_c_wh q_k_wh).binds (ps := ["self"]) fun _ _ _ _ _ _ us hl => match us, hl with | [_], _ => rfl⟩
  have I : FunD K "__init__" "Frac.__init__" (defArgs s_Frac_init) (defBody s_Frac_init) (defScope s_Frac_init) [.int 0, .int 1] [] f_init _ := ⟨⟨_, _, _, _, _, _, _, _, _, _, rfl, q_l_init, q_c_init, .inr ⟨by simp, TT, oT, [Value.int 0 t0, Value.int 1 t1], nT, rfl, q_lT, q_dT, .cons ⟨t0, rfl⟩ (.cons ⟨t1, rfl⟩ .nil)⟩, .inl rfl⟩, q_k_init⟩
  obtain ⟨ds3, v3, b3⟩ := FunD.binds1 (ps := ["self", "num", "den"]) I 3 2 (by simp) rfl fun T kV doc pm an cdv ct us its hl h2 => match us, hl, its, h2 with | [_, _, _], _, [_, _], _ => ⟨_, rfl, rfl⟩
  obtain ⟨ds2, v2, b2⟩ := FunD.binds1 (ps := ["self", "num", "den"]) I 2 1 (by simp) rfl fun T kV doc pm an cdv ct us its hl h2 => match us, hl, its, h2 with | [_, _], _, [_, _], _ => ⟨_, rfl, rfl⟩
  obtain ⟨ds1, v1, b1⟩ := FunD.binds1 (ps := ["self", "num", "den"]) I 1 0 (by simp) rfl fun T kV doc pm an cdv ct us its hl h2 => match us, hl, its, h2 with | [_], _, [_, _], _ => ⟨_, rfl, rfl⟩
  have O_pow : OpT K C "pow" := ⟨⟨_, q_o3_pow, .inl rfl⟩, ⟨_, q_o1_pow⟩, ⟨_, q_o2_pow⟩⟩
  have O_add : OpT K C "add" := ⟨⟨_, q_a_m_radd, .inr ⟨_, rfl⟩⟩, ⟨_, q_o1_add⟩, ⟨_, q_o2_add⟩⟩
  have O_sub : OpT K C "sub" := ⟨⟨_, q_a_m_rsub, .inr ⟨_, rfl⟩⟩, ⟨_, q_o1_sub⟩, ⟨_, q_o2_sub⟩⟩
  have O_mul : OpT K C "mul" := ⟨⟨_, q_a_m_rmul, .inr ⟨_, rfl⟩⟩, ⟨_, q_o1_mul⟩, ⟨_, q_o2_mul⟩⟩
  have O_floordiv : OpT K C "floordiv" := ⟨⟨_, q_a_m_rfloordiv, .inr ⟨_, rfl⟩⟩, ⟨_, q_o1_floordiv⟩, ⟨_, q_o2_floordiv⟩⟩
  have O_mod : OpT K C "mod" := ⟨⟨_, q_a_m_rmod, .inr ⟨_, rfl⟩⟩, ⟨_, q_o1_mod⟩, ⟨_, q_o2_mod⟩⟩
  have N : InTs K C := ⟨⟨⟨_, q_clC, q_mroC⟩, q_n1_add, q_n2_add⟩, ⟨⟨_, q_clC, q_mroC⟩, q_n1_sub, q_n2_sub⟩, ⟨⟨_, q_clC, q_mroC⟩, q_n1_mul, q_n2_mul⟩, ⟨⟨_, q_clC, q_mroC⟩, q_n1_floordiv, q_n2_floordiv⟩⟩
  refine ⟨PySem.W.fnOf "law" "law" (defArgs s_law) (defBody s_law) (defScope s_law) .none kV_d_law dc_d_law pm_d_law an_d_law cd_d_law ct_d_law, fun s v => .of_eq rfl, fun base _ _ => ?_⟩
  have mk : Mk K C f_init := ⟨q_mkC, q_a_init, q_i_init, q_kcC⟩
  have i2 : cI P w K mg base C Z [] := ⟨_, _, _, ds3, PySem.W.mg_of X G q_aC, mk, b3, v3, init_ok T I⟩
  have i1 : cI P w K mg base C Z [.int 1] := ⟨_, _, _, ds2, PySem.W.mg_of X G q_aC, mk, b2, v2, init_ok T I⟩
  have i0 : cI P w K mg base C Z [.int 0, .int 1] := ⟨_, _, _, ds1, PySem.W.mg_of X G q_aC, mk, b1, v1, init_ok T I⟩
  have A := d_as (w := w) (P := P) (base := base) T D_as_frac i1
  have gp := d_gap (w := w) (P := P) (base := base) T D_gap A
  have xover := d_over T M_over i2 A
  have xadd := d_add T M_add i2 A
  have xsub := d_sub T M_sub i2 A
  have xmul := d_mul T M_mul i2 A
  have xneg := d_neg T M_neg i2
  have xfloor := d_floor (P := P) (w := w) (base := base) T M_floor
  have xeq := d_eq T M_eq A
  have xeqN := n_eq (P := P) (w := w) (base := base) T M_eq
  have xfd := d_floordiv T M_floordiv xover xfloor
  have xmod := d_mod T M_mod O_sub xsub O_mul xmul O_floordiv xfd
  have D : FD P w K mg base C Z := {
    i2 := i2
    i1 := i1
    i0 := i0
    over := xover
    add := xadd
    radd := d_radd T M_radd O_add xadd
    sub := xsub
    rsub := d_rsub T M_rsub O_add xadd xneg
    mul := xmul
    rmul := d_rmul T M_rmul O_mul xmul
    fdiv := xfd
    rfdiv := d_rfloordiv T M_rfloordiv i1 O_floordiv xfd
    mod := xmod
    rmod := d_rmod T M_rmod i1 O_mod xmod
    pow := d_pow T B.range M_pow i2
    eq := xeq
    eqN := xeqN
    ne := d_ne T M_ne xeq xeqN
    lt := d_lt T M_lt gp
    le := d_le T M_le gp
    gt := d_gt T M_gt gp
    ge := d_ge T M_ge gp
    neg := xneg
    abs := d_abs T M_abs i2 B.abs
    floor := xfloor
    ceil := d_ceiling T M_ceiling
    bool := d_bool T M_bool B.bool
    whole := d_whole T W
    oadd := O_add
    osub := O_sub
    omul := O_mul
    ofdiv := O_floordiv
    omod := O_mod
    opow := O_pow }
  have lcell := d_cell (P := P) (w := w) (K := K) (base := base) B D_law_cell
  have lgcd := d_gcd (P := P) (w := w) (K := K) (base := base) B D_law_gcd
  have llow := d_low D_law_low lgcd
  have ladd := d_ladd D_law_add llow
  have lmul := d_lmul D_law_mul llow
  have lfl := d_lfloor (P := P) (w := w) (base := base) D_law_floor
  have lgr := d_great B D_law_great lcell
  have lnum := d_numer B D_law_numerator lcell lgr
  have lden := d_denom B D_law_denominator lcell lgr
  have lmade := d_made B D_law_made i2
  have lint := d_integer (P := P) (w := w) (base := base) B D_law_integer
  have ltru := d_truth (P := P) (w := w) (base := base) B D_law_truth
  have lis := d_is T B D_law_is lint
  have lref := d_refused T B R D D_law_refused
  have lops := d_operators T D lis ladd lmul lfl lref lint D_law_operators
  have lovr := d_lover T D lis llow lref D_law_over
  have lord := d_orders T B D ltru D_law_orders
  have lpow := d_powers T D lis D_law_powers
  have lsin := d_single T B D lis lint ltru D_law_single
  have linp := d_in_place T D N lis ladd lmul lfl lint D_law_in_place
  have lmpl := d_made_plain T D lis lref D_law_made_plain
  exact d_law T B lis llow lcell lnum lden lmade lmpl lovr lops lord lsin lpow linp (fun_mk (st := s_law) q_l_d_law q_c_d_law q_k_d_law)
theorem walk {l : PySem.W.OpenLaw} {q : Program} {loose : List Str} {XP : (Str → Option Value) → Heap → Prop} {YP : World → Heap → Prop} {d : DefRec} {K : Params → PySem.W.Frag} (hn : l.most = some 63) (hdf : d.params.defaults = [])
    (hY : ∀ (w : World) (h : Heap), YP w h → (K w.params).In h)
    (F : ∀ (w : World) (mg : Str → Option Value) (fa : Addr) (h : Heap), (K w.params).In h → h.Ns mainGlobals mg → mg d.name = some (.ref fa) →
      ∃ fd : FuncData, (∀ (s : Shared) (u : Value), BindsTo s fd ⟨[u], []⟩ [("script", u)]) ∧ ∀ base : Heap, (K w.params).In base → base.Ns mainGlobals mg → FnOk l.prog w (K w.params) mg base (L2.CX l.prog w) 10 fa fd ["script"] (spLaw (K w.params))) :
    PySem.W.WalkO q loose XP YP l.row.toRowW d [] (fun f vs => PySem.call f vs) :=
  L2.walk_of (n := 63) (k := 10) (x := "script") (CX := fun w => L2.CX l.prog w) (sp := fun w => spLaw (K w.params)) hn (by decide) hdf ⟨rfl, by decide, by decide⟩ hY F (fun _ _ a ns hl _ hS => ⟨a, ns, rfl, ⟨hS, hl⟩, fun _ => rfl⟩) fun _ _ _ _ _ ⟨_, _, _, _, _, _, _, _, _, _, _, _, z⟩ => z
end Bp

open PySem.W PyProof.Rows PySem
set_option maxHeartbeats 0 in
theorem PySem.Challenge.cw_bestpapers_k01_fraction_operators_holds : PySem.Challenge.rw_bestpapers_k01_fraction_operators.Holds := by
  w_on
  o_law
  k_head
  (case hw =>
    w_witness2)
  k_fill
  refine Bp.walk (l := PySem.Challenge.rw_bestpapers_k01_fraction_operators) rfl rfl (fun w h Y => PySem.W.kIn_of Y) ?F
  case F =>
    intro w mg fa h KX G hmg
    refine' Bp.all_mk KX G hmg ?aC ?aZ ?aE ?aB ?aG ?b_isinstance ?b_int ?b_NotImplemented ?b_len ?b_abs ?b_range ?b_bool ?b_str ?b_ValueError ?a_m_over ?i_m_over ?l_m_over ?c_m_over ?k_m_over ?a_m_floor ?i_m_floor ?l_m_floor ?c_m_floor ?k_m_floor ?a_m_ceiling ?i_m_ceiling ?l_m_ceiling ?c_m_ceiling ?k_m_ceiling ?a_m_bool ?i_m_bool ?l_m_bool ?c_m_bool ?k_m_bool ?a_m_neg ?i_m_neg ?l_m_neg ?c_m_neg ?k_m_neg ?a_m_abs ?i_m_abs ?l_m_abs ?c_m_abs ?k_m_abs ?a_m_add ?i_m_add ?l_m_add ?c_m_add ?k_m_add ?a_m_radd ?i_m_radd ?l_m_radd ?c_m_radd ?k_m_radd ?a_m_sub ?i_m_sub ?l_m_sub ?c_m_sub ?k_m_sub ?a_m_rsub ?i_m_rsub ?l_m_rsub ?c_m_rsub ?k_m_rsub ?a_m_mul ?i_m_mul ?l_m_mul ?c_m_mul ?k_m_mul ?a_m_rmul ?i_m_rmul ?l_m_rmul ?c_m_rmul ?k_m_rmul ?a_m_floordiv ?i_m_floordiv ?l_m_floordiv ?c_m_floordiv ?k_m_floordiv ?a_m_rfloordiv ?i_m_rfloordiv ?l_m_rfloordiv ?c_m_rfloordiv ?k_m_rfloordiv ?a_m_mod ?i_m_mod ?l_m_mod ?c_m_mod ?k_m_mod ?a_m_rmod ?i_m_rmod ?l_m_rmod ?c_m_rmod ?k_m_rmod ?a_m_pow ?i_m_pow ?l_m_pow ?c_m_pow ?k_m_pow ?a_m_eq ?i_m_eq ?l_m_eq ?c_m_eq ?k_m_eq ?a_m_ne ?i_m_ne ?l_m_ne ?c_m_ne ?k_m_ne ?a_m_lt ?i_m_lt ?l_m_lt ?c_m_lt ?k_m_lt ?a_m_le ?i_m_le ?l_m_le ?c_m_le ?k_m_le ?a_m_gt ?i_m_gt ?l_m_gt ?c_m_gt ?k_m_gt ?a_m_ge ?i_m_ge ?l_m_ge ?c_m_ge ?k_m_ge ?a_init ?i_init ?l_init ?c_init ?k_init ?lT ?dT ?a_wh ?g_wh ?t_wh ?r_wh ?l_wh ?c_wh ?k_wh ?a_d_as_frac ?l_d_as_frac ?c_d_as_frac ?k_d_as_frac ?a_d_gap ?l_d_gap ?c_d_gap ?k_d_gap ?a_d_law_cell ?l_d_law_cell ?c_d_law_cell ?k_d_law_cell ?a_d_law_gcd ?l_d_law_gcd ?c_d_law_gcd ?k_d_law_gcd ?a_d_law_low ?l_d_law_low ?c_d_law_low ?k_d_law_low ?a_d_law_add ?l_d_law_add ?c_d_law_add ?k_d_law_add ?a_d_law_mul ?l_d_law_mul ?c_d_law_mul ?k_d_law_mul ?a_d_law_floor ?l_d_law_floor ?c_d_law_floor ?k_d_law_floor ?a_d_law_great ?l_d_law_great ?c_d_law_great ?k_d_law_great ?a_d_law_numerator ?l_d_law_numerator ?c_d_law_numerator ?k_d_law_numerator ?a_d_law_denominator ?l_d_law_denominator ?c_d_law_denominator ?k_d_law_denominator ?a_d_law_made ?l_d_law_made ?c_d_law_made ?k_d_law_made ?a_d_law_integer ?l_d_law_integer ?c_d_law_integer ?k_d_law_integer ?a_d_law_truth ?l_d_law_truth ?c_d_law_truth ?k_d_law_truth ?a_d_law_is ?l_d_law_is ?c_d_law_is ?k_d_law_is ?a_d_law_refused ?l_d_law_refused ?c_d_law_refused ?k_d_law_refused ?a_d_law_operators ?l_d_law_operators ?c_d_law_operators ?k_d_law_operators ?a_d_law_over ?l_d_law_over ?c_d_law_over ?k_d_law_over ?a_d_law_orders ?l_d_law_orders ?c_d_law_orders ?k_d_law_orders ?a_d_law_powers ?l_d_law_powers ?c_d_law_powers ?k_d_law_powers ?a_d_law_single ?l_d_law_single ?c_d_law_single ?k_d_law_single ?a_d_law_in_place ?l_d_law_in_place ?c_d_law_in_place ?k_d_law_in_place ?a_d_law_made_plain ?l_d_law_made_plain ?c_d_law_made_plain ?k_d_law_made_plain ?a_d_law ?l_d_law ?c_d_law ?k_d_law ?pgC ?hdC ?poC ?saC ?mkC ?kcC ?nN ?nD ?self ?subI ?subN ?subS ?subC ?isC ?tyC ?ca ?cn ?ct ?cm ?xZ ?kZ ?bZ ?tZ ?zg ?zk ?zd ?za ?zm ?be1 ?be2 ?be3 ?be4 ?bn1 ?bn2 ?bn3 ?bn4 ?ve ?o1_add ?o2_add ?o1_sub ?o2_sub ?o1_mul ?o2_mul ?o1_floordiv ?o2_floordiv ?o1_mod ?o2_mod ?o1_pow ?o2_pow ?o3_pow ?n1_add ?n2_add ?n1_sub ?n2_sub ?n1_mul ?n2_mul ?n1_floordiv ?n2_floordiv ?clC ?mroC
    (case aC => k_is)
    (case aZ => k_is)
    (case aE => k_is)
    (case aB => k_is)
    (case aG => k_is)
    (case b_isinstance => k_is)
    (case b_int => k_is)
    (case b_NotImplemented => k_is)
    (case b_len => k_is)
    (case b_abs => k_is)
    (case b_range => k_is)
    (case b_bool => k_is)
    (case b_str => k_is)
    (case b_ValueError => k_is)
    (case a_m_over => k_is)
    (case i_m_over => k_is)
    (case l_m_over => k_is)
    (case c_m_over => k_is)
    (case k_m_over => k_is)
    (case a_m_floor => k_is)
    (case i_m_floor => k_is)
    (case l_m_floor => k_is)
    (case c_m_floor => k_is)
    (case k_m_floor => k_is)
    (case a_m_ceiling => k_is)
    (case i_m_ceiling => k_is)
    (case l_m_ceiling => k_is)
    (case c_m_ceiling => k_is)
    (case k_m_ceiling => k_is)
    (case a_m_bool => k_is)
    (case i_m_bool => k_is)
    (case l_m_bool => k_is)
    (case c_m_bool => k_is)
    (case k_m_bool => k_is)
    (case a_m_neg => k_is)
    (case i_m_neg => k_is)
    (case l_m_neg => k_is)
    (case c_m_neg => k_is)
    (case k_m_neg => k_is)
    (case a_m_abs => k_is)
    (case i_m_abs => k_is)
    (case l_m_abs => k_is)
    (case c_m_abs => k_is)
    (case k_m_abs => k_is)
    (case a_m_add => k_is)
    (case i_m_add => k_is)
    (case l_m_add => k_is)
    (case c_m_add => k_is)
    (case k_m_add => k_is)
    (case a_m_radd => k_is)
    (case i_m_radd => k_is)
    (case l_m_radd => k_is)
    (case c_m_radd => k_is)
    (case k_m_radd => k_is)
    (case a_m_sub => k_is)
    (case i_m_sub => k_is)
    (case l_m_sub => k_is)
    (case c_m_sub => k_is)
    (case k_m_sub => k_is)
    (case a_m_rsub => k_is)
    (case i_m_rsub => k_is)
    (case l_m_rsub => k_is)
    (case c_m_rsub => k_is)
    (case k_m_rsub => k_is)
    (case a_m_mul => k_is)
    (case i_m_mul => k_is)
    (case l_m_mul => k_is)
    (case c_m_mul => k_is)
    (case k_m_mul => k_is)
    (case a_m_rmul => k_is)
    (case i_m_rmul => k_is)
    (case l_m_rmul => k_is)
    (case c_m_rmul => k_is)
    (case k_m_rmul => k_is)
    (case a_m_floordiv => k_is)
    (case i_m_floordiv => k_is)
    (case l_m_floordiv => k_is)
    (case c_m_floordiv => k_is)
    (case k_m_floordiv => k_is)
    (case a_m_rfloordiv => k_is)
    (case i_m_rfloordiv => k_is)
    (case l_m_rfloordiv => k_is)
    (case c_m_rfloordiv => k_is)
    (case k_m_rfloordiv => k_is)
    (case a_m_mod => k_is)
    (case i_m_mod => k_is)
    (case l_m_mod => k_is)
    (case c_m_mod => k_is)
    (case k_m_mod => k_is)
    (case a_m_rmod => k_is)
    (case i_m_rmod => k_is)
    (case l_m_rmod => k_is)
    (case c_m_rmod => k_is)
    (case k_m_rmod => k_is)
    (case a_m_pow => k_is)
    (case i_m_pow => k_is)
    (case l_m_pow => k_is)
    (case c_m_pow => k_is)
    (case k_m_pow => k_is)
    (case a_m_eq => k_is)
    (case i_m_eq => k_is)
    (case l_m_eq => k_is)
    (case c_m_eq => k_is)
    (case k_m_eq => k_is)
    (case a_m_ne => k_is)
    (case i_m_ne => k_is)
    (case l_m_ne => k_is)
    (case c_m_ne => k_is)
    (case k_m_ne => k_is)
    (case a_m_lt => k_is)
    (case i_m_lt => k_is)
    (case l_m_lt => k_is)
    (case c_m_lt => k_is)
    (case k_m_lt => k_is)
    (case a_m_le => k_is)
    (case i_m_le => k_is)
    (case l_m_le => k_is)
    (case c_m_le => k_is)
    (case k_m_le => k_is)
    (case a_m_gt => k_is)
    (case i_m_gt => k_is)
    (case l_m_gt => k_is)
    (case c_m_gt => k_is)
    (case k_m_gt => k_is)
    (case a_m_ge => k_is)
    (case i_m_ge => k_is)
    (case l_m_ge => k_is)
    (case c_m_ge => k_is)
    (case k_m_ge => k_is)
    (case a_init => k_is)
    (case i_init => k_is)
    (case l_init => k_is)
    (case c_init => k_is)
    (case k_init => k_is)
    (case lT => k_is)
    (case dT => rfl)
    (case a_wh => k_is)
    (case g_wh => k_is)
    (case t_wh => k_is)
    (case r_wh => k_is)
    (case l_wh => k_is)
    (case c_wh => k_is)
    (case k_wh => k_is)
    (case a_d_as_frac => k_is)
    (case l_d_as_frac => k_is)
    (case c_d_as_frac => k_is)
    (case k_d_as_frac => k_is)
    (case a_d_gap => k_is)
    (case l_d_gap => k_is)
    (case c_d_gap => k_is)
    (case k_d_gap => k_is)
    (case a_d_law_cell => k_is)
    (case l_d_law_cell => k_is)
    (case c_d_law_cell => k_is)
    (case k_d_law_cell => k_is)
    (case a_d_law_gcd => k_is)
    (case l_d_law_gcd => k_is)
    (case c_d_law_gcd => k_is)
    (case k_d_law_gcd => k_is)
    (case a_d_law_low => k_is)
    (case l_d_law_low => k_is)
    (case c_d_law_low => k_is)
    (case k_d_law_low => k_is)
    (case a_d_law_add => k_is)
    (case l_d_law_add => k_is)
    (case c_d_law_add => k_is)
    (case k_d_law_add => k_is)
    (case a_d_law_mul => k_is)
    (case l_d_law_mul => k_is)
    (case c_d_law_mul => k_is)
    (case k_d_law_mul => k_is)
    (case a_d_law_floor => k_is)
    (case l_d_law_floor => k_is)
    (case c_d_law_floor => k_is)
    (case k_d_law_floor => k_is)
    (case a_d_law_great => k_is)
    (case l_d_law_great => k_is)
    (case c_d_law_great => k_is)
    (case k_d_law_great => k_is)
    (case a_d_law_numerator => k_is)
    (case l_d_law_numerator => k_is)
    (case c_d_law_numerator => k_is)
    (case k_d_law_numerator => k_is)
    (case a_d_law_denominator => k_is)
    (case l_d_law_denominator => k_is)
    (case c_d_law_denominator => k_is)
    (case k_d_law_denominator => k_is)
    (case a_d_law_made => k_is)
    (case l_d_law_made => k_is)
    (case c_d_law_made => k_is)
    (case k_d_law_made => k_is)
    (case a_d_law_integer => k_is)
    (case l_d_law_integer => k_is)
    (case c_d_law_integer => k_is)
    (case k_d_law_integer => k_is)
    (case a_d_law_truth => k_is)
    (case l_d_law_truth => k_is)
    (case c_d_law_truth => k_is)
    (case k_d_law_truth => k_is)
    (case a_d_law_is => k_is)
    (case l_d_law_is => k_is)
    (case c_d_law_is => k_is)
    (case k_d_law_is => k_is)
    (case a_d_law_refused => k_is)
    (case l_d_law_refused => k_is)
    (case c_d_law_refused => k_is)
    (case k_d_law_refused => k_is)
    (case a_d_law_operators => k_is)
    (case l_d_law_operators => k_is)
    (case c_d_law_operators => k_is)
    (case k_d_law_operators => k_is)
    (case a_d_law_over => k_is)
    (case l_d_law_over => k_is)
    (case c_d_law_over => k_is)
    (case k_d_law_over => k_is)
    (case a_d_law_orders => k_is)
    (case l_d_law_orders => k_is)
    (case c_d_law_orders => k_is)
    (case k_d_law_orders => k_is)
    (case a_d_law_powers => k_is)
    (case l_d_law_powers => k_is)
    (case c_d_law_powers => k_is)
    (case k_d_law_powers => k_is)
    (case a_d_law_single => k_is)
    (case l_d_law_single => k_is)
    (case c_d_law_single => k_is)
    (case k_d_law_single => k_is)
    (case a_d_law_in_place => k_is)
    (case l_d_law_in_place => k_is)
    (case c_d_law_in_place => k_is)
    (case k_d_law_in_place => k_is)
    (case a_d_law_made_plain => k_is)
    (case l_d_law_made_plain => k_is)
    (case c_d_law_made_plain => k_is)
    (case k_d_law_made_plain => k_is)
    (case a_d_law => k_is)
    (case l_d_law => k_is)
    (case c_d_law => k_is)
    (case k_d_law => k_is)
    (case pgC => k_is)
    (case hdC => k_is)
    (case poC => k_is)
    (case saC => k_is)
    (case mkC => k_is)
    (case kcC => k_is)
    (case nN => k_is)
    (case nD => k_is)
    (case self => k_is)
    (case subI => k_is)
    (case subN => k_is)
    (case subS => k_is)
    (case subC => k_is)
    (case isC => k_is)
    (case tyC => k_is)
    (case ca => k_is)
    (case cn => k_is)
    (case ct => k_is)
    (case cm => k_is)
    (case xZ => k_exc)
    (case kZ => k_is)
    (case bZ => k_is)
    (case tZ => k_is)
    (case zg => k_is)
    (case zk => k_is)
    (case zd => k_is)
    (case za => k_is)
    (case zm => k_is)
    (case be1 => k_is)
    (case be2 => k_is)
    (case be3 => k_is)
    (case be4 => k_is)
    (case bn1 => rfl)
    (case bn2 => k_is)
    (case bn3 => k_is)
    (case bn4 => k_is)
    (case ve => k_is)
    (case o1_add => k_is)
    (case o2_add => k_is)
    (case o1_sub => k_is)
    (case o2_sub => k_is)
    (case o1_mul => k_is)
    (case o2_mul => k_is)
    (case o1_floordiv => k_is)
    (case o2_floordiv => k_is)
    (case o1_mod => k_is)
    (case o2_mod => k_is)
    (case o1_pow => k_is)
    (case o2_pow => k_is)
    (case o3_pow => k_is)
    (case n1_add => k_is)
    (case n2_add => k_is)
    (case n1_sub => k_is)
    (case n2_sub => k_is)
    (case n1_mul => k_is)
    (case n2_mul => k_is)
    (case n1_floordiv => k_is)
    (case n2_floordiv => k_is)
    (case clC => k_is)
    (case mroC => rfl)
