import PyProof.Rows.All
import Wide.All
import OpenK.AllK
import Wide.FinOn
import KE.KStateDown
import HandS.Words
import PySem.Challenge.RW_bestpapers_k81_heights_or_ring
import HandS.Head0
import HandS.Head1
import HandS.Head2
import HandS.Head3
import HandS.HeadHook1
import HandS.HeadHook2
import HandS.HeadHook3
import HandS.Base
import HandS.Call
import HandS.More
import HandS.WordsExc
import HandS.Exc
import HandS.ExcInit
import HandS.Defaults
import HandS.HeadEnd
import KE.KSuper
import KE.KFromBytes
import HandS.SlotsOwn
import HandS.ForExc
import HandS.IsInst
import HandS.Property
import HandS.Gcd
import HandS.Wide
import HandS.List
import HandS.Ends
import HandS.ExcOwn
import HandS.ExcCtx
import HandS.TryMany
import HandS.OwnEq
import HandS.TupLe
import HandS.Comp
import HandS.Walk
import HandS.Zip
import HandS.ExcIs
import KE.KExcIs
import HandS.ExcField
import HandS.Text
import HandS.HotCalls
import HandS.ExcInitHot
import HandS.RaiseFrom
import KE.GoesRaise
import HandS.ClsMeth
import HandS.HeadNt
import HandS.StrMore
import HandS.FStr
import HandS.RaiseMore
import HandS.Codes
import PyProof.StrOps2
import PyProof.CallStr
import HandS.Dict
import HandS.DictComp
import HandS.Small
import HandS.Style
import HandS.AnyAll
import HandS.Nested
import HandS.MakeKwOnly
import HandS.Flow
import HandS.TupAny
import PyProof.EnumMake
import PyProof.Draws
import KE.GoesMore
import KE.GoesZip
import KE.KDictZip
import PyProof.ListNew
import HandS.GenList
import KE.KCallOwn
import KE.KOwnIter
import HandS.IterNext
import HandS.OwnIter
import KE.KListMore
import HandS.SetFor
import HandS.LawCells
import HandS.ForMost
set_option Elab.async false
set_option linter.all false
set_option maxRecDepth 100000
set_option maxHeartbeats 4000000
set_option exponentiation.threshold 10000
namespace Bp
open PySem.Spec PySem PyProof.Rows
open L2 hiding St
def top (i : Nat) : Stmt := PySem.Challenge.pw_bestpapers_k81_heights_or_ring.main.body.getD i (.Pass ⟨0, 0, 0, 0⟩)
abbrev s_lowered : Stmt := top 1
abbrev s_way_to : Stmt := top 2
abbrev s_ring_at : Stmt := top 3
abbrev s_BadCount_init : Stmt := inClass (top 6) 0
abbrev s_WrongWidth_init : Stmt := inClass (top 7) 0
abbrev s_check_count : Stmt := top 9
abbrev s_check_width : Stmt := top 10
abbrev s_NoPlace_init : Stmt := inClass (top 12) 0
abbrev s_BadEdge_init : Stmt := inClass (top 13) 0
abbrev s_BadSupply_init : Stmt := inClass (top 14) 0
abbrev s_Unbalanced_init : Stmt := inClass (top 15) 0
abbrev s_check_place : Stmt := top 21
abbrev s_is_amount : Stmt := top 22
abbrev s_is_edge : Stmt := top 23
abbrev s_check_edges : Stmt := top 24
abbrev s_check_supplies : Stmt := top 25
abbrev s_Web_init : Stmt := inClass (top 26) 0
abbrev s_heights : Stmt := top 28
abbrev s_law_cell : Stmt := top 30
abbrev s_law_edge : Stmt := top 31
abbrev s_law_ring : Stmt := top 32
abbrev s_law_recosted : Stmt := top 33
abbrev s_law_free : Stmt := top 34
abbrev s_law_ring_is : Stmt := top 35
abbrev s_law_heights_right : Stmt := top 36
abbrev s_law_integer_k81 : Stmt := top 37
abbrev s_law_made : Stmt := top 38
abbrev s_law_with : Stmt := top 39
abbrev s_law_edge_faults : Stmt := top 40
abbrev s_law_edges_asked : Stmt := top 41
abbrev s_law_supplies_asked : Stmt := top 42
abbrev s_law_counts_asked : Stmt := top 43
abbrev s_law_plain : Stmt := top 44
abbrev s_law_k81 : Stmt := top 45
end Bp

namespace JH
open PySem PySem.W PySem.Calls PySem.Spec PyProof.Rows
def refsR (o : Obj) : List Addr := match o.data with
  | .seq its _ => its.toList.flatMap He.refV
  | .dict es _ => es.toList.flatMap fun e => He.refV e.val
  | .func fd => He.refV fd.code ++ (He.refV fd.defaults ++ (He.refV fd.kwdefaults ++ fd.closure.map (·.2)))
  | .cls cd => [cd.ns]
  | .fields vs => vs.toList.flatMap He.refV
  | .cell (some v) => He.refV v
  | _ => []
def stepR (g : Addr → Option Obj) (as : List Addr) : List Addr := as.flatMap fun a => match g a with
  | some o => refsR o
  | none => []
def front (g : Addr → Option Obj) : Nat → List Addr → List Addr
  | 0, as => as
  | n + 1, as => as ++ front g n (stepR g as)
def frR (n : Nat) (g : Addr → Option Obj) : PySem.W.Frag := He.frG g (cStatics :: front g n [mainGlobals])
def hookK (n : Nat) {α : Type} (ob : PySem.W.Frag → α) (v : World → α) : PySem.W.Hook where
  α := α
  obs := fun s => ob (frR n s.heap.get?)
  val := v
  says := fun w h => ∃ K : PySem.W.Frag, K.In h ∧ ob K = v w
  of := fun _ _ e => ⟨_, He.frG_in, e⟩
  keeps := fun _ _ _ ⟨K, hK, c⟩ k => ⟨K, PySem.W.Frag.In.keeps hK k, c⟩
def obK (n : Nat) {α : Type} (ob : PySem.W.Frag → α) (s : PySem.W.SharedT) : α := ob (frR n (HandSHeadRun.getT s))
theorem obK_eq (n : Nat) {α : Type} (ob : PySem.W.Frag → α) (v : World → α) (s : PySem.W.SharedT) : obK n ob s = (hookK n ob v).obs s.abs := by
  have e : HandSHeadRun.getT s = s.abs.heap.get? := funext fun a => HandSHeadRun.getT_eq s a
  show ob (frR n (HandSHeadRun.getT s)) = ob (frR n s.abs.heap.get?)
  rw [e]
theorem map_pair2 {X : Type} {α β γ δ : Type} {x : Option X} {f : X → γ} {g : X → δ} {f1 : X → α} {f2 : X → β} {c : γ} {d : δ} {a : α} {b : β} (h1 : x.map (fun z => (f z, g z, f1 z)) = some (c, d, a)) (h2 : x.map (fun z => (f z, g z, f2 z)) = some (c, d, b)) : x.map (fun z => (f z, g z, (f1 z, f2 z))) = some (c, d, (a, b)) := by
  cases x with
  | none => cases h1
  | some z =>
    have e1 : (f z, g z, f1 z) = (c, d, a) := Option.some.inj h1
    have e2 : (f z, g z, f2 z) = (c, d, b) := Option.some.inj h2
    injection e1 with e3 e4
    injection e4 with e5 e6
    injection e2 with _ e7
    injection e7 with _ e8
    show some (f z, g z, (f1 z, f2 z)) = _
    rw [e3, e5, e6, e8]
theorem run_pair {r : OpenRow} {q : Program} {n M : Nat} {loose : List PySem.Str} {w : World} {α β : Type} {ob1 : PySem.W.Frag → α} {v1 : World → α} {ob2 : PySem.W.Frag → β} {v2 : World → β}
    (h1 : HandSHeadRun.RunEqI r q (hookK n ob1 v1) (obK n ob1) M loose w) (h2 : HandSHeadRun.RunEqI r q (hookK n ob2 v2) (obK n ob2) M loose w) :
    HandSHeadRun.RunEqI r q (hookK n (fun K => (ob1 K, ob2 K)) fun w => (v1 w, v2 w)) (obK n fun K => (ob1 K, ob2 K)) M loose w :=
  map_pair2 h1 h2
theorem pair_l {α β : Type} {a c : α} {b d : β} (e : (a, b) = (c, d)) : a = c := congrArg Prod.fst e
theorem pair_r {α β : Type} {a c : α} {b d : β} (e : (a, b) = (c, d)) : b = d := congrArg Prod.snd e
end JH

namespace JH
open PySem PySem.W PySem.Calls PySem.Spec PyProof.Rows
structure DefA where
  at_ : PySem.W.Frag → Addr
  name : Str
  qual : Str
  params : Arguments
  body : List Stmt
  scope : Scope
  clo : List Str := []
  dfl : List He.Dv := []
  kwd : List (Str × He.Dv) := []
abbrev FnA : Type := Option (Str × Str × Arguments × FuncBody × Scope × Addr × List Str × Addr)
def fdOf (K : PySem.W.Frag) (a : Addr) : FuncData := match K.lookup a with
  | some ⟨_, _, .func fd, _⟩ => fd
  | _ => default
def fnA (K : PySem.W.Frag) (a : Addr) : FnA := match K.lookup a with
  | some ⟨_, _, .func fd, _⟩ => some (fd.name, fd.qualname, fd.params, fd.body, fd.scope, fd.globals, fd.closure.map (·.1), fd.builtins)
  | _ => none
def DefA.val (d : DefA) : FnA := some (d.name, d.qual, d.params, .stmts d.body, d.scope, mainGlobals, d.clo, builtinsNs)
def DefA.dvs (K : PySem.W.Frag) (d : DefA) : List L2.V := d.dfl.map (He.Dv.v K)
def DefA.kws (K : PySem.W.Frag) (d : DefA) : List (Str × L2.V) := d.kwd.map fun q => (q.1, q.2.v K)
def DefA.ok (K : PySem.W.Frag) (d : DefA) : Bool := PySem.W.keepIn K (.ref (d.at_ K)) && (match K.lookup (d.at_ K) with
  | some ⟨_, _, .func fd, _⟩ => PySem.W.codeIn K fd.code d.qual && (He.dflB K fd.defaults (d.dvs K) && He.kwdB K fd.kwdefaults (d.kws K))
  | _ => false)
theorem DefA.all {K : PySem.W.Frag} {d : DefA} (e : fnA K (d.at_ K) = d.val) (c : d.ok K = true) :
    PySem.W.keepIn K (.ref (d.at_ K)) = true ∧ ∃ oc od osl clo dV kV doc pm an cdv ct, fdOf K (d.at_ K) = ⟨d.name, d.qual, d.params, .stmts d.body, d.scope, mainGlobals, clo, dV, kV, doc, pm, an, cdv, ct, builtinsNs⟩ ∧ K.lookup (d.at_ K) = some ⟨oc, od, .func (fdOf K (d.at_ K)), osl⟩ ∧
      clo.map (·.1) = d.clo ∧ PySem.W.codeIn K cdv d.qual = true ∧ L2.DflV K dV (d.dvs K) ∧ L2.KwdV K kV (d.kws K) ∧ He.dflB K dV (d.dvs K) = true := by
  obtain ⟨kp, c2⟩ := He.ba c
  unfold fnA at e
  cases q : K.lookup (d.at_ K) with
  | none =>
    rw [q] at c2
    cases c2
  | some o =>
    obtain ⟨oc, od, dt, osl⟩ := o
    rw [q] at c2 e
    cases dt with
    | func fd =>
      have ef : fdOf K (d.at_ K) = fd := by
        unfold fdOf
        rw [q]
      obtain ⟨n1, n2, n3, n4, n5, n6, n7, n8, n9, n10, n11, n12, n13, n14, n15⟩ := fd
      have e2 : (some (n1, n2, n3, n4, n5, n6, n7.map (·.1), n15) : FnA) = some (d.name, d.qual, d.params, .stmts d.body, d.scope, mainGlobals, d.clo, builtinsNs) := e
      simp only [Option.some.injEq, Prod.mk.injEq] at e2
      obtain ⟨h1, h2, h3, h4, h5, h6, h7, h8⟩ := e2
      subst h1 h2 h3 h4 h5 h6 h8
      have c3 : (PySem.W.codeIn K n13 d.qual && (He.dflB K n8 (d.dvs K) && He.kwdB K n9 (d.kws K))) = true := c2
      obtain ⟨k1, k2⟩ := He.ba c3
      obtain ⟨k3, k4⟩ := He.ba k2
      rw [ef]
      exact ⟨kp, oc, od, osl, n7, n8, n9, n10, n11, n12, n13, n14, rfl, rfl, h7, k1, He.dflB_ok k3, He.kwdB_ok k4, k3⟩
    | _ => cases c2
theorem fun_of {K : PySem.W.Frag} {at_ : PySem.W.Frag → Addr} {x qual : Str} {st : Stmt} (h : fnA K (at_ K) = (⟨at_, x, qual, L2.defArgs st, L2.defBody st, L2.defScope st, [], [], []⟩ : DefA).val ∧ (⟨at_, x, qual, L2.defArgs st, L2.defBody st, L2.defScope st, [], [], []⟩ : DefA).ok K = true) : L2.Fun K x qual st (at_ K) (fdOf K (at_ K)) := by
  obtain ⟨e, c⟩ := h
  obtain ⟨kp, oc, od, osl, clo, dV, kV, doc, pm, an, cdv, ct, e1, e2, e3, e4, e5, e6, e7⟩ := DefA.all e c
  have e3' : clo = [] := List.map_eq_nil_iff.mp e3
  have e8 : dV = .none := by
    cases dV with
    | none => rfl
    | _ => cases e7
  subst e3' e8
  exact ⟨⟨oc, od, kV, doc, pm, an, cdv, ct, osl, e1, e2, e4⟩, kp⟩
theorem bt_of {K : PySem.W.Frag} {x qual p : Str} {st : Stmt} {f : Addr} {fd : FuncData} (F : L2.Fun K x qual st f fd) (h : ∀ (kV doc pm : Value) (an : Option Addr) (cdv ct v : Value), bindArgs (PySem.W.fnOf x qual (L2.defArgs st) (L2.defBody st) (L2.defScope st) .none kV doc pm an cdv ct) ⟨[v], []⟩ = pure [(p, v)]) :
    ∀ (s : Shared) (v : Value), BindsTo s fd ⟨[v], []⟩ [(p, v)] := by
  obtain ⟨oc, od, kV, doc, pm, an, cdv, ct, osl, rfl, _, _⟩ := F.ex
  exact fun s v => .of_eq (h kV doc pm an cdv ct v)
abbrev AlA : Type := Bool × List FnA
def obA (ds : List DefA) (ex : PySem.W.Frag → Bool) (K : PySem.W.Frag) : AlA := ((ds.all fun d => d.ok K) && ex K, ds.map fun d => fnA K (d.at_ K))
def valA (ds : List DefA) (_ : World) : AlA := (true, ds.map DefA.val)
theorem obA_ex {ds : List DefA} {ex : PySem.W.Frag → Bool} {K : PySem.W.Frag} {w : World} (e : obA ds ex K = valA ds w) : ex K = true := (He.ba (show ((ds.all fun d => d.ok K) && ex K) = true from congrArg (fun z : AlA => z.1) e)).2
theorem obA_d {ds : List DefA} {ex : PySem.W.Frag → Bool} {K : PySem.W.Frag} {w : World} (e : obA ds ex K = valA ds w) (i : Nat) {d : DefA} (h : ds[i]? = some d := by rfl) : fnA K (d.at_ K) = d.val ∧ d.ok K = true := by
  have c2 := (He.ba (show ((ds.all fun d => d.ok K) && ex K) = true from congrArg (fun z : AlA => z.1) e)).1
  have e1 : ds.map (fun d => fnA K (d.at_ K)) = ds.map DefA.val := congrArg (fun z : AlA => z.2) e
  have e2 : (ds.map fun d => fnA K (d.at_ K))[i]? = (ds.map DefA.val)[i]? := by rw [e1]
  rw [List.getElem?_map, List.getElem?_map, h] at e2
  exact ⟨Option.some.inj e2, List.all_eq_true.mp c2 d (List.mem_of_getElem? h)⟩
def mroC (C : Addr) : List Value → Bool
  | .ref D :: bm => decide (D = C) && PySem.HandSPX.refsVE bm
  | _ => false
def slC : List (Option Value) → Bool
  | [_, _, _, _, some (.builtin z), _] => decide (z = "ValueError.__new__")
  | _ => false
theorem mroC_ok {C : Addr} {l : List Value} (h : mroC C l = true) : ∃ bm, l = .ref C :: bm ∧ PySem.HandSPX.refsVE bm = true := by
  unfold mroC at h
  split at h
  · obtain ⟨h1, h2⟩ := He.ba h
    have z := of_decide_eq_true h1
    subst z
    exact ⟨_, rfl, h2⟩
  · cases h
theorem slC_ok {l : List (Option Value)} (h : slC l = true) : ∃ k0 k1 k2 k3 k5, l = [k0, k1, k2, k3, some (.builtin "ValueError.__new__"), k5] := by
  unfold slC at h
  split at h
  · have z := of_decide_eq_true h
    subst z
    exact ⟨_, _, _, _, _, rfl⟩
  · cases h
def oexB (K : PySem.W.Frag) (C : Addr) : Bool := match K.lookup C with
  | some ⟨.type t, _, .cls cd, sl⟩ => decide (t = "type") && (cd.hasDict && (!cd.hasDel && (mroC C cd.mro && slC sl.toList)))
  | _ => false
theorem oex_of {K : PySem.W.Frag} {C : Addr} (h : oexB K C = true) : ∃ nm q N bs bm sn sub ab col dd k0 k1 k2 k3 k5, K.lookup C = some (excClassObj nm q C N bs bm true sn sub ab col dd k0 k1 k2 k3 k5 "ValueError.__new__") ∧ PySem.HandSPX.refsVE bm = true := by
  unfold oexB at h
  cases q : K.lookup C with
  | none =>
    rw [q] at h
    cases h
  | some o =>
    obtain ⟨oc, od, dt, ⟨sl⟩⟩ := o
    rw [q] at h
    cases oc with
    | type t =>
      cases dt with
      | cls cd =>
        obtain ⟨nm, bs, mro, N, qn, hd, sn, sub, ab, col, hdl⟩ := cd
        obtain ⟨h1, h⟩ := He.ba (show (decide (t = "type") && (hd && (!hdl && (mroC C mro && slC sl)))) = true from h)
        obtain ⟨h2, h⟩ := He.ba h
        obtain ⟨h3, h⟩ := He.ba h
        obtain ⟨h4, h5⟩ := He.ba h
        have e1 : t = "type" := of_decide_eq_true h1
        have e3 : hdl = false := by cases hdl with | false => rfl | true => cases h3
        have e2 : hd = true := h2
        obtain ⟨bm, e4, h7⟩ := mroC_ok h4
        obtain ⟨k0, k1, k2, k3, k5, e5⟩ := slC_ok h5
        subst e1 e2 e3 e4 e5
        exact ⟨nm, qn, N, bs, bm, sn, sub, ab, col, od, k0, k1, k2, k3, k5, rfl, h7⟩
      | _ => cases h
    | _ => cases dt <;> cases h
def intB (K : PySem.W.Frag) (x : Str) (n : Int) : Bool := match PySem.W.nsIn K mainGlobals x with
  | some (some (.int m _)) => decide (m = n)
  | _ => false
theorem int_of {K : PySem.W.Frag} {x : Str} {n : Int} (h : intB K x n = true) : ∃ t, PySem.W.nsIn K mainGlobals x = some (some (.int n t)) := by
  unfold intB at h
  split at h
  · rename_i m t e
    have z : m = n := of_decide_eq_true h
    subst z
    exact ⟨t, e⟩
  · cases h
def tupB (K : PySem.W.Frag) (T : Addr) (vs : List He.Dv) : Bool := match K.lookup T with
  | some ⟨.type c, _, .seq its _, _⟩ => decide (c = "tuple") && He.relAll (vs.map (He.Dv.v K)) its.toList
  | _ => false
theorem walk_ofE {l : PySem.W.OpenLaw} {n k : Nat} {q : Program} {loose : List Str} {XP : (Str → Option Value) → Heap → Prop} {YP : World → Heap → Prop} {d : DefRec} {CX : World → L2.CXT} {x : Str} (hn : l.most = some n) (hn2 : n ≤ sizeLine) (hdf : d.params.defaults = []) (hr : L2.Room k callerA)
    (F : ∀ (w : World) (mg : Str → Option Value) (fa : Addr) (h : Heap), YP w h → h.Ns mainGlobals mg → mg d.name = some (.ref fa) → ∃ (K : PySem.W.Frag) (fd : FuncData) (sp : L2.Sp), K.In h ∧ (∀ (s : Shared) (u : Value), BindsTo s fd ⟨[u], []⟩ [(x, u)]) ∧
      (∀ (H : L2.Hp) (a : Addr) (ns : List Int), ns.length ≤ n → L2.Only H → L2.SqL K H a (ns.map L2.V.int) → sp [.ref a] H (fun v _ => v = .bl true) fun _ _ _ => False) ∧ ∀ base : Heap, K.In base → base.Ns mainGlobals mg → L2.FnOk l.prog w K mg base (CX w) k fa fd [x] sp)
    (hCX : ∀ (w : World) (H : L2.Hp) (s : Shared) (e : Value) (s' : Shared), CX w [] H s (fun _ _ _ => False) e s' → False) : PySem.W.WalkO q loose XP YP l.row.toRowW d [] (fun f vs => PySem.call f vs) := by
  refine Att.attach_call hn hdf fun w s₀ s₁ mg mb fa o pm cd doc a vs ns G Y ho hd hcd hmg hobj hints hlen hg => ?_
  obtain ⟨K, fd, sp, KX, hb, hsp, hF⟩ := F w mg fa _ Y G.T.g hmg
  have hl := Nat.le_trans hlen hn2
  exact L2.law_call KX G.T.g G.T.b G.T.builtins G.T.nolimit hg hobj hints hl hr hF hb (fun H hO hS => hsp H a ns hlen hO hS) fun H e s' => hCX w H s₁ e s'
end JH

namespace JH
open PySem PySem.W PySem.Calls PySem.Spec PyProof.Rows
def LookE (r : OpenRow) (M : Nat) (w : World) : Prop :=
  (HandSHeadRun.wholeF (fun p => HandSHeadRun.stepQ (HandSHeadRun.denQ HandSHeadRun.tabQ) p w) HandSHeadRun.fenceQ M r.prog).map (fun x => HandSHeadRun.looksF r.prog x.1.heap x.2.abs) = some true
def SeenE (r : OpenRow) (q : Program) (M : Nat) (loose : List PySem.Str) (w : World) : Prop :=
  (HandSHeadRun.wholeF (fun p => HandSHeadRun.stepQ (HandSHeadRun.denQ HandSHeadRun.tabQ) p w) HandSHeadRun.fenceQ M r.prog).map (fun x => HandSHeadRun.seenQ q loose (importedModules r.prog.main.body) (fun s => xlAt q [] s && recOk r.toRowW.records s) x.2.abs) = some (openGood q loose)
def ObE (r : OpenRow) {α : Type} (ob : PySem.W.SharedT → α) (M : Nat) (v : α) (w : World) : Prop :=
  (HandSHeadRun.wholeF (fun p => HandSHeadRun.stepQ (HandSHeadRun.denQ HandSHeadRun.tabQ) p w) HandSHeadRun.fenceQ M r.prog).map (fun x => ob x.2) = some v
theorem map_two {X : Type} {α β : Type} {x : Option X} {f1 : X → α} {f2 : X → β} {a : α} {b : β} (h1 : x.map f1 = some a) (h2 : x.map f2 = some b) : x.map (fun z => (f1 z, f2 z)) = some (a, b) := by
  cases x with
  | none => cases h1
  | some z =>
    have e1 : f1 z = a := Option.some.inj h1
    have e2 : f2 z = b := Option.some.inj h2
    show some (f1 z, f2 z) = _
    rw [e1, e2]
theorem obE_pair {r : OpenRow} {n M : Nat} {w : World} {α β : Type} {ob1 : PySem.W.Frag → α} {v1 : α} {ob2 : PySem.W.Frag → β} {v2 : β} (h1 : ObE r (obK n ob1) M v1 w) (h2 : ObE r (obK n ob2) M v2 w) : ObE r (obK n fun K => (ob1 K, ob2 K)) M (v1, v2) w :=
  map_two h1 h2
theorem run_of {r : OpenRow} {q : Program} {n M : Nat} {loose : List PySem.Str} {w : World} {α : Type} {ob : PySem.W.Frag → α} {v : World → α} (h1 : LookE r M w) (h2 : SeenE r q M loose w) (h3 : ObE r (obK n ob) M (v w) w) :
    HandSHeadRun.RunEqI r q (hookK n ob v) (obK n ob) M loose w :=
  map_two h1 (map_two h2 h3)
end JH

namespace HR
open PySem PySem.W PySem.Calls PySem.Spec PyProof.Rows
open L2 hiding St
abbrev R : OpenRow := OpenLaw.row PySem.Challenge.rw_bestpapers_k81_heights_or_ring
abbrev qv : Program := view R.prog [45]
def n0 : List PySem.Str := ["lowered", "way_to", "ring_at", "BestError", "BadCount", "WrongWidth", "check_count", "check_width", "NoPlace", "BadEdge", "BadSupply", "Unbalanced", "LEAST_PLACES", "MOST_PLACES", "MOST_EDGES", "MOST_AMOUNT", "check_place", "is_amount", "is_edge", "check_edges", "check_supplies", "Web", "heights", "_law_cell", "_law_edge", "_law_ring", "_law_recosted", "_law_free", "_law_ring_is", "_law_heights_right"]
def n1 : List PySem.Str := ["_law_integer", "_law_made", "_law_with", "_law_edge_faults", "_law_edges_asked", "_law_supplies_asked", "_law_counts_asked", "_law_plain"]
def names : List PySem.Str := n0 ++ n1
def ds0 : List JH.DefA := [⟨fun K => He.ga K "_law_cell", "_law_cell", "_law_cell", defArgs Bp.s_law_cell, defBody Bp.s_law_cell, defScope Bp.s_law_cell, [], [], []⟩,
  ⟨fun K => He.ga K "_law_edge", "_law_edge", "_law_edge", defArgs Bp.s_law_edge, defBody Bp.s_law_edge, defScope Bp.s_law_edge, [], [], []⟩,
  ⟨fun K => He.ga K "_law_recosted", "_law_recosted", "_law_recosted", defArgs Bp.s_law_recosted, defBody Bp.s_law_recosted, defScope Bp.s_law_recosted, [], [], []⟩,
  ⟨fun K => He.ga K "_law_free", "_law_free", "_law_free", defArgs Bp.s_law_free, defBody Bp.s_law_free, defScope Bp.s_law_free, [], [], []⟩,
  ⟨fun K => He.ma K (He.ga K "BadCount") "__init__", "__init__", "BadCount.__init__", defArgs Bp.s_BadCount_init, defBody Bp.s_BadCount_init, defScope Bp.s_BadCount_init, [], [], []⟩,
  ⟨fun K => He.ga K "check_count", "check_count", "check_count", defArgs Bp.s_check_count, defBody Bp.s_check_count, defScope Bp.s_check_count, [], [], []⟩,
  ⟨fun K => He.ma K (He.ga K "NoPlace") "__init__", "__init__", "NoPlace.__init__", defArgs Bp.s_NoPlace_init, defBody Bp.s_NoPlace_init, defScope Bp.s_NoPlace_init, [], [], []⟩,
  ⟨fun K => He.ga K "check_place", "check_place", "check_place", defArgs Bp.s_check_place, defBody Bp.s_check_place, defScope Bp.s_check_place, [], [], []⟩,
  ⟨fun K => He.ga K "is_amount", "is_amount", "is_amount", defArgs Bp.s_is_amount, defBody Bp.s_is_amount, defScope Bp.s_is_amount, [], [], []⟩,
  ⟨fun K => He.ga K "is_edge", "is_edge", "is_edge", defArgs Bp.s_is_edge, defBody Bp.s_is_edge, defScope Bp.s_is_edge, [], [], []⟩,
  ⟨fun K => He.ma K (He.ga K "BadEdge") "__init__", "__init__", "BadEdge.__init__", defArgs Bp.s_BadEdge_init, defBody Bp.s_BadEdge_init, defScope Bp.s_BadEdge_init, [], [], []⟩,
  ⟨fun K => He.ga K "check_edges", "check_edges", "check_edges", defArgs Bp.s_check_edges, defBody Bp.s_check_edges, defScope Bp.s_check_edges, [], [], []⟩,
  ⟨fun K => He.ma K (He.ga K "WrongWidth") "__init__", "__init__", "WrongWidth.__init__", defArgs Bp.s_WrongWidth_init, defBody Bp.s_WrongWidth_init, defScope Bp.s_WrongWidth_init, [], [], []⟩,
  ⟨fun K => He.ga K "check_width", "check_width", "check_width", defArgs Bp.s_check_width, defBody Bp.s_check_width, defScope Bp.s_check_width, [], [], []⟩,
  ⟨fun K => He.ma K (He.ga K "BadSupply") "__init__", "__init__", "BadSupply.__init__", defArgs Bp.s_BadSupply_init, defBody Bp.s_BadSupply_init, defScope Bp.s_BadSupply_init, [], [], []⟩,
  ⟨fun K => He.ma K (He.ga K "Unbalanced") "__init__", "__init__", "Unbalanced.__init__", defArgs Bp.s_Unbalanced_init, defBody Bp.s_Unbalanced_init, defScope Bp.s_Unbalanced_init, [], [], []⟩,
  ⟨fun K => He.ga K "check_supplies", "check_supplies", "check_supplies", defArgs Bp.s_check_supplies, defBody Bp.s_check_supplies, defScope Bp.s_check_supplies, [], [], []⟩,
  ⟨fun K => He.ma K (He.ga K "Web") "__init__", "__init__", "Web.__init__", defArgs Bp.s_Web_init, defBody Bp.s_Web_init, defScope Bp.s_Web_init, [], [], []⟩,
  ⟨fun K => He.ga K "lowered", "lowered", "lowered", defArgs Bp.s_lowered, defBody Bp.s_lowered, defScope Bp.s_lowered, [], [], []⟩,
  ⟨fun K => He.ga K "way_to", "way_to", "way_to", defArgs Bp.s_way_to, defBody Bp.s_way_to, defScope Bp.s_way_to, [], [], []⟩,
  ⟨fun K => He.ga K "ring_at", "ring_at", "ring_at", defArgs Bp.s_ring_at, defBody Bp.s_ring_at, defScope Bp.s_ring_at, [], [], []⟩,
  ⟨fun K => He.ga K "heights", "heights", "heights", defArgs Bp.s_heights, defBody Bp.s_heights, defScope Bp.s_heights, [], [], []⟩,
  ⟨fun K => He.ga K "_law_ring", "_law_ring", "_law_ring", defArgs Bp.s_law_ring, defBody Bp.s_law_ring, defScope Bp.s_law_ring, [], [], []⟩,
  ⟨fun K => He.ga K "_law_ring_is", "_law_ring_is", "_law_ring_is", defArgs Bp.s_law_ring_is, defBody Bp.s_law_ring_is, defScope Bp.s_law_ring_is, [], [], []⟩,
  ⟨fun K => He.ga K "_law_heights_right", "_law_heights_right", "_law_heights_right", defArgs Bp.s_law_heights_right, defBody Bp.s_law_heights_right, defScope Bp.s_law_heights_right, [], [], []⟩,
  ⟨fun K => He.ga K "_law_edge_faults", "_law_edge_faults", "_law_edge_faults", defArgs Bp.s_law_edge_faults, defBody Bp.s_law_edge_faults, defScope Bp.s_law_edge_faults, [], [], []⟩,
  ⟨fun K => He.ga K "_law_with", "_law_with", "_law_with", defArgs Bp.s_law_with, defBody Bp.s_law_with, defScope Bp.s_law_with, [], [], []⟩,
  ⟨fun K => He.ga K "_law_integer", "_law_integer", "_law_integer", defArgs Bp.s_law_integer_k81, defBody Bp.s_law_integer_k81, defScope Bp.s_law_integer_k81, [], [], []⟩,
  ⟨fun K => He.ga K "_law_made", "_law_made", "_law_made", defArgs Bp.s_law_made, defBody Bp.s_law_made, defScope Bp.s_law_made, [], [], []⟩,
  ⟨fun K => He.ga K "_law_edges_asked", "_law_edges_asked", "_law_edges_asked", defArgs Bp.s_law_edges_asked, defBody Bp.s_law_edges_asked, defScope Bp.s_law_edges_asked, [], [], []⟩,
  ⟨fun K => He.ga K "_law_supplies_asked", "_law_supplies_asked", "_law_supplies_asked", defArgs Bp.s_law_supplies_asked, defBody Bp.s_law_supplies_asked, defScope Bp.s_law_supplies_asked, [], [], []⟩,
  ⟨fun K => He.ga K "_law_counts_asked", "_law_counts_asked", "_law_counts_asked", defArgs Bp.s_law_counts_asked, defBody Bp.s_law_counts_asked, defScope Bp.s_law_counts_asked, [], [], []⟩,
  ⟨fun K => He.ga K "_law_plain", "_law_plain", "_law_plain", defArgs Bp.s_law_plain, defBody Bp.s_law_plain, defScope Bp.s_law_plain, [], [], []⟩,
  ⟨fun K => He.ga K "law", "law", "law", defArgs Bp.s_law_k81, defBody Bp.s_law_k81, defScope Bp.s_law_k81, [], [], []⟩]
def ex0 (K : PySem.W.Frag) : Bool := true
set_option maxHeartbeats 0 in
theorem run0 (w : World) : JH.ObE R (JH.obK 5 (JH.obA ds0 ex0)) 20000 (JH.valA ds0 w) w := by
  unfold JH.ObE
  kernel_rfl
def ds1 : List JH.DefA := []
def ex1_0 (K : PySem.W.Frag) : Bool := decide (PySem.W.nsIn K mainGlobals "BestError" = some (some (.ref (He.ga K "BestError")))) && (
  decide (PySem.W.nsIn K mainGlobals "BadCount" = some (some (.ref (He.ga K "BadCount")))) && (
  decide (PySem.W.nsIn K mainGlobals "WrongWidth" = some (some (.ref (He.ga K "WrongWidth")))) && (
  decide (PySem.W.nsIn K mainGlobals "Web" = some (some (.ref (He.ga K "Web")))) && (
  decide (PySem.W.nsIn K mainGlobals "NoPlace" = some (some (.ref (He.ga K "NoPlace")))) && (
  decide (PySem.W.nsIn K mainGlobals "BadEdge" = some (some (.ref (He.ga K "BadEdge")))) && (
  decide (PySem.W.nsIn K mainGlobals "BadSupply" = some (some (.ref (He.ga K "BadSupply")))) && (
  decide (PySem.W.nsIn K mainGlobals "Unbalanced" = some (some (.ref (He.ga K "Unbalanced")))) && (
  decide (PySem.W.nsIn K mainGlobals "len" = some none) && (
  decide (PySem.W.nsIn K mainGlobals "int" = some none) && (
  decide (PySem.W.nsIn K mainGlobals "_law_cell" = some (some (.ref (He.ga K "_law_cell")))) && (
  decide (PySem.W.nsIn K mainGlobals "range" = some none) && (
  decide (PySem.W.nsIn K mainGlobals "_law_edge" = some (some (.ref (He.ga K "_law_edge")))) && (
  decide (PySem.W.nsIn K mainGlobals "abs" = some none) && (
  decide (PySem.W.nsIn K mainGlobals "_law_recosted" = some (some (.ref (He.ga K "_law_recosted")))) && (
  decide (PySem.W.nsIn K mainGlobals "sum" = some none) && (
  decide (PySem.W.nsIn K mainGlobals "_law_free" = some (some (.ref (He.ga K "_law_free")))) && (
  decide (PySem.W.nsIn K mainGlobals "list" = some none) && (
  JH.intB K "LEAST_PLACES" 2 && (
  JH.intB K "MOST_PLACES" 8 && (
  JH.oexB K (He.ga K "BadCount") && (
  decide (PySem.W.findIn K (.ref (He.ga K "BadCount")) "__setattr__" = some (some (.builtin "object.__setattr__"))) && (
  decide (PySem.W.subIn K (.ref (He.ga K "BadCount")) (.type "BaseException") = some true) && (
  decide (PySem.W.typeIn K (.ref (He.ga K "BadCount")) = some (.type "type")) && (
  decide (PySem.W.keepIn K (.ref (He.ga K "BadCount")) = true) && (
  decide (PySem.W.findIn K (.ref (He.ga K "BadCount")) "__init__" = some (some (.ref (He.ma K (He.ga K "BadCount") "__init__")))) && (
  decide (PySem.W.typeIn K (.ref (He.ma K (He.ga K "BadCount") "__init__")) = some (.type "function")) && (
  decide (PySem.W.findIn K (.ref (He.ga K "BadCount")) "what" = some none) && (
  decide (PySem.W.findIn K (.ref (He.ga K "BadCount")) "many" = some none) && (
  decide (PySem.W.nsIn K mainGlobals "check_count" = some (some (.ref (He.ga K "check_count")))) && (
  JH.intB K "MOST_EDGES" 16 && (
  decide (PySem.W.nsIn K mainGlobals "enumerate" = some none) && (
  JH.oexB K (He.ga K "NoPlace") && (
  decide (PySem.W.findIn K (.ref (He.ga K "NoPlace")) "__setattr__" = some (some (.builtin "object.__setattr__"))) && (
  decide (PySem.W.subIn K (.ref (He.ga K "NoPlace")) (.type "BaseException") = some true) && (
  decide (PySem.W.typeIn K (.ref (He.ga K "NoPlace")) = some (.type "type")) && (
  decide (PySem.W.keepIn K (.ref (He.ga K "NoPlace")) = true) && (
  decide (PySem.W.findIn K (.ref (He.ga K "NoPlace")) "__init__" = some (some (.ref (He.ma K (He.ga K "NoPlace") "__init__")))) && (
  decide (PySem.W.typeIn K (.ref (He.ma K (He.ga K "NoPlace") "__init__")) = some (.type "function")) && (
  decide (PySem.W.findIn K (.ref (He.ga K "NoPlace")) "place" = some none))))))))))))))))))))))))))))))))))))))))
def ex1_1 (K : PySem.W.Frag) : Bool := decide (PySem.W.nsIn K mainGlobals "check_place" = some (some (.ref (He.ga K "check_place")))) && (
  JH.intB K "MOST_AMOUNT" 1000 && (
  decide (PySem.W.nsIn K mainGlobals "is_amount" = some (some (.ref (He.ga K "is_amount")))) && (
  decide (PySem.W.nsIn K mainGlobals "is_edge" = some (some (.ref (He.ga K "is_edge")))) && (
  JH.oexB K (He.ga K "BadEdge") && (
  decide (PySem.W.findIn K (.ref (He.ga K "BadEdge")) "__setattr__" = some (some (.builtin "object.__setattr__"))) && (
  decide (PySem.W.subIn K (.ref (He.ga K "BadEdge")) (.type "BaseException") = some true) && (
  decide (PySem.W.typeIn K (.ref (He.ga K "BadEdge")) = some (.type "type")) && (
  decide (PySem.W.keepIn K (.ref (He.ga K "BadEdge")) = true) && (
  decide (PySem.W.findIn K (.ref (He.ga K "BadEdge")) "__init__" = some (some (.ref (He.ma K (He.ga K "BadEdge") "__init__")))) && (
  decide (PySem.W.typeIn K (.ref (He.ma K (He.ga K "BadEdge") "__init__")) = some (.type "function")) && (
  decide (PySem.W.findIn K (.ref (He.ga K "BadEdge")) "at" = some none) && (
  decide (PySem.W.nsIn K mainGlobals "check_edges" = some (some (.ref (He.ga K "check_edges")))) && (
  JH.oexB K (He.ga K "WrongWidth") && (
  decide (PySem.W.findIn K (.ref (He.ga K "WrongWidth")) "__setattr__" = some (some (.builtin "object.__setattr__"))) && (
  decide (PySem.W.subIn K (.ref (He.ga K "WrongWidth")) (.type "BaseException") = some true) && (
  decide (PySem.W.typeIn K (.ref (He.ga K "WrongWidth")) = some (.type "type")) && (
  decide (PySem.W.keepIn K (.ref (He.ga K "WrongWidth")) = true) && (
  decide (PySem.W.findIn K (.ref (He.ga K "WrongWidth")) "__init__" = some (some (.ref (He.ma K (He.ga K "WrongWidth") "__init__")))) && (
  decide (PySem.W.typeIn K (.ref (He.ma K (He.ga K "WrongWidth") "__init__")) = some (.type "function")) && (
  decide (PySem.W.findIn K (.ref (He.ga K "WrongWidth")) "have" = some none) && (
  decide (PySem.W.findIn K (.ref (He.ga K "WrongWidth")) "need" = some none) && (
  decide (PySem.W.nsIn K mainGlobals "check_width" = some (some (.ref (He.ga K "check_width")))) && (
  JH.oexB K (He.ga K "BadSupply") && (
  decide (PySem.W.findIn K (.ref (He.ga K "BadSupply")) "__setattr__" = some (some (.builtin "object.__setattr__"))) && (
  decide (PySem.W.subIn K (.ref (He.ga K "BadSupply")) (.type "BaseException") = some true) && (
  decide (PySem.W.typeIn K (.ref (He.ga K "BadSupply")) = some (.type "type")) && (
  decide (PySem.W.keepIn K (.ref (He.ga K "BadSupply")) = true) && (
  decide (PySem.W.findIn K (.ref (He.ga K "BadSupply")) "__init__" = some (some (.ref (He.ma K (He.ga K "BadSupply") "__init__")))) && (
  decide (PySem.W.typeIn K (.ref (He.ma K (He.ga K "BadSupply") "__init__")) = some (.type "function")) && (
  decide (PySem.W.findIn K (.ref (He.ga K "BadSupply")) "place" = some none) && (
  JH.oexB K (He.ga K "Unbalanced") && (
  decide (PySem.W.findIn K (.ref (He.ga K "Unbalanced")) "__setattr__" = some (some (.builtin "object.__setattr__"))) && (
  decide (PySem.W.subIn K (.ref (He.ga K "Unbalanced")) (.type "BaseException") = some true) && (
  decide (PySem.W.typeIn K (.ref (He.ga K "Unbalanced")) = some (.type "type")) && (
  decide (PySem.W.keepIn K (.ref (He.ga K "Unbalanced")) = true) && (
  decide (PySem.W.findIn K (.ref (He.ga K "Unbalanced")) "__init__" = some (some (.ref (He.ma K (He.ga K "Unbalanced") "__init__")))) && (
  decide (PySem.W.typeIn K (.ref (He.ma K (He.ga K "Unbalanced") "__init__")) = some (.type "function")) && (
  decide (PySem.W.findIn K (.ref (He.ga K "Unbalanced")) "total" = some none) && (
  decide (PySem.W.nsIn K mainGlobals "check_supplies" = some (some (.ref (He.ga K "check_supplies")))))))))))))))))))))))))))))))))))))))))))
def ex1_2 (K : PySem.W.Frag) : Bool := decide (PySem.W.plainGet K (He.ga K "Web") Str.empty = true) && (
  decide (PySem.W.hasDictIn K (He.ga K "Web") = true) && (
  decide (PySem.W.plainOver K (He.ga K "Web") = true) && (
  decide (PySem.W.findIn K (.ref (He.ga K "Web")) "__setattr__" = some (some (.builtin "object.__setattr__"))) && (
  decide (PySem.W.findIn K (.ref (He.ga K "Web")) "places" = some none) && (
  decide (PySem.W.nsIn K mainGlobals "tuple" = some none) && (
  decide (PySem.W.findIn K (.ref (He.ga K "Web")) "edges" = some none) && (
  decide (PySem.W.findIn K (.ref (He.ga K "Web")) "supplies" = some none) && (
  decide (PySem.W.makesIn K (He.ga K "Web") = true) && (
  decide (PySem.W.findIn K (.ref (He.ga K "Web")) "__init__" = some (some (.ref (He.ma K (He.ga K "Web") "__init__")))) && (
  decide (PySem.W.isFn K (.ref (He.ma K (He.ga K "Web") "__init__")) = true) && (
  decide (PySem.W.keepIn K (.ref (He.ga K "Web")) = true) && (
  decide (PySem.W.nsIn K mainGlobals "lowered" = some (some (.ref (He.ga K "lowered")))) && (
  decide (PySem.W.nsIn K mainGlobals "way_to" = some (some (.ref (He.ga K "way_to")))) && (
  decide (PySem.W.nsIn K mainGlobals "ring_at" = some (some (.ref (He.ga K "ring_at")))) && (
  decide (PySem.W.nsIn K mainGlobals "heights" = some (some (.ref (He.ga K "heights")))) && (
  decide (PySem.W.nsIn K mainGlobals "isinstance" = some none) && (
  decide (PySem.W.nsIn K mainGlobals "bool" = some none) && (
  decide (PySem.W.nsIn K mainGlobals "_law_ring" = some (some (.ref (He.ga K "_law_ring")))) && (
  decide (PySem.W.nsIn K mainGlobals "_law_ring_is" = some (some (.ref (He.ga K "_law_ring_is")))) && (
  decide (PySem.W.nsIn K mainGlobals "_law_heights_right" = some (some (.ref (He.ga K "_law_heights_right")))) && (
  decide (PySem.W.nsIn K mainGlobals "_law_edge_faults" = some (some (.ref (He.ga K "_law_edge_faults")))) && (
  decide (PySem.W.nsIn K mainGlobals "_law_with" = some (some (.ref (He.ga K "_law_with")))) && (
  decide (PySem.W.subIn K (.ref (He.ga K "BestError")) (.type "BaseException") = some true) && (
  decide (PySem.W.hasDictIn K (He.ga K "BestError") = true) && (
  decide (PySem.W.typeIn K (.ref (He.ga K "BestError")) = some (.type "type")) && (
  decide (PySem.W.subIn K (.ref (He.ga K "BadCount")) (.ref (He.ga K "BestError")) = some true) && (
  decide (PySem.W.subIn K (.ref (He.ga K "WrongWidth")) (.ref (He.ga K "BestError")) = some true) && (
  decide (PySem.W.subIn K (.ref (He.ga K "NoPlace")) (.ref (He.ga K "BestError")) = some true) && (
  decide (PySem.W.subIn K (.ref (He.ga K "BadEdge")) (.ref (He.ga K "BestError")) = some true) && (
  decide (PySem.W.subIn K (.ref (He.ga K "BadSupply")) (.ref (He.ga K "BestError")) = some true) && (
  decide (PySem.W.subIn K (.ref (He.ga K "Unbalanced")) (.ref (He.ga K "BestError")) = some true) && (
  decide (PySem.W.findIn K (.ref (He.ga K "BadCount")) "__getattribute__" = some (some (.builtin "BaseException.__getattribute__"))) && (
  decide (PySem.W.findIn K (.ref (He.ga K "BadCount")) "__getattr__" = some none) && (
  decide (PySem.W.hasDictIn K (He.ga K "BadCount") = true) && (
  decide (PySem.W.findIn K (.ref (He.ga K "BadCount")) "__class__" = some (some (.builtin "object.__class__"))) && (
  decide (PySem.W.specialIn K (.builtin "object.__class__") "__get__" = some (some (.builtin "getset_descriptor.__get__"))) && (
  decide (PySem.W.takesIn K (.builtin "object.__class__") = some true) && (
  decide (PySem.W.mroIn K (He.ga K "BadCount") (.type "object") = some true) && (
  decide (PySem.W.findIn K (.ref (He.ga K "WrongWidth")) "__getattribute__" = some (some (.builtin "BaseException.__getattribute__"))))))))))))))))))))))))))))))))))))))))))
def ex1_3 (K : PySem.W.Frag) : Bool := decide (PySem.W.findIn K (.ref (He.ga K "WrongWidth")) "__getattr__" = some none) && (
  decide (PySem.W.hasDictIn K (He.ga K "WrongWidth") = true) && (
  decide (PySem.W.findIn K (.ref (He.ga K "WrongWidth")) "__class__" = some (some (.builtin "object.__class__"))) && (
  decide (PySem.W.mroIn K (He.ga K "WrongWidth") (.type "object") = some true) && (
  decide ((((.ref (He.ga K "WrongWidth")) : Value) == (.ref (He.ga K "BadCount"))) = false) && (
  decide (PySem.W.isClsIn K (He.ga K "BadCount") = true) && (
  decide (PySem.W.subIn K (.ref (He.ga K "WrongWidth")) (.ref (He.ga K "BadCount")) = some false) && (
  decide (PySem.W.findIn K (.ref (He.ga K "NoPlace")) "__getattribute__" = some (some (.builtin "BaseException.__getattribute__"))) && (
  decide (PySem.W.findIn K (.ref (He.ga K "NoPlace")) "__getattr__" = some none) && (
  decide (PySem.W.hasDictIn K (He.ga K "NoPlace") = true) && (
  decide (PySem.W.findIn K (.ref (He.ga K "NoPlace")) "__class__" = some (some (.builtin "object.__class__"))) && (
  decide (PySem.W.mroIn K (He.ga K "NoPlace") (.type "object") = some true) && (
  decide ((((.ref (He.ga K "NoPlace")) : Value) == (.ref (He.ga K "BadCount"))) = false) && (
  decide (PySem.W.subIn K (.ref (He.ga K "NoPlace")) (.ref (He.ga K "BadCount")) = some false) && (
  decide (PySem.W.findIn K (.ref (He.ga K "BadEdge")) "__getattribute__" = some (some (.builtin "BaseException.__getattribute__"))) && (
  decide (PySem.W.findIn K (.ref (He.ga K "BadEdge")) "__getattr__" = some none) && (
  decide (PySem.W.hasDictIn K (He.ga K "BadEdge") = true) && (
  decide (PySem.W.findIn K (.ref (He.ga K "BadEdge")) "__class__" = some (some (.builtin "object.__class__"))) && (
  decide (PySem.W.mroIn K (He.ga K "BadEdge") (.type "object") = some true) && (
  decide ((((.ref (He.ga K "BadEdge")) : Value) == (.ref (He.ga K "BadCount"))) = false) && (
  decide (PySem.W.subIn K (.ref (He.ga K "BadEdge")) (.ref (He.ga K "BadCount")) = some false) && (
  decide (PySem.W.findIn K (.ref (He.ga K "BadSupply")) "__getattribute__" = some (some (.builtin "BaseException.__getattribute__"))) && (
  decide (PySem.W.findIn K (.ref (He.ga K "BadSupply")) "__getattr__" = some none) && (
  decide (PySem.W.hasDictIn K (He.ga K "BadSupply") = true) && (
  decide (PySem.W.findIn K (.ref (He.ga K "BadSupply")) "__class__" = some (some (.builtin "object.__class__"))) && (
  decide (PySem.W.mroIn K (He.ga K "BadSupply") (.type "object") = some true) && (
  decide ((((.ref (He.ga K "BadSupply")) : Value) == (.ref (He.ga K "BadCount"))) = false) && (
  decide (PySem.W.subIn K (.ref (He.ga K "BadSupply")) (.ref (He.ga K "BadCount")) = some false) && (
  decide (PySem.W.findIn K (.ref (He.ga K "Unbalanced")) "__getattribute__" = some (some (.builtin "BaseException.__getattribute__"))) && (
  decide (PySem.W.findIn K (.ref (He.ga K "Unbalanced")) "__getattr__" = some none) && (
  decide (PySem.W.hasDictIn K (He.ga K "Unbalanced") = true) && (
  decide (PySem.W.findIn K (.ref (He.ga K "Unbalanced")) "__class__" = some (some (.builtin "object.__class__"))) && (
  decide (PySem.W.mroIn K (He.ga K "Unbalanced") (.type "object") = some true) && (
  decide ((((.ref (He.ga K "Unbalanced")) : Value) == (.ref (He.ga K "BadCount"))) = false) && (
  decide (PySem.W.subIn K (.ref (He.ga K "Unbalanced")) (.ref (He.ga K "BadCount")) = some false) && (
  decide ((((.ref (He.ga K "BadCount")) : Value) == (.ref (He.ga K "NoPlace"))) = false) && (
  decide (PySem.W.isClsIn K (He.ga K "NoPlace") = true) && (
  decide (PySem.W.subIn K (.ref (He.ga K "BadCount")) (.ref (He.ga K "NoPlace")) = some false) && (
  decide ((((.ref (He.ga K "WrongWidth")) : Value) == (.ref (He.ga K "NoPlace"))) = false) && (
  decide (PySem.W.subIn K (.ref (He.ga K "WrongWidth")) (.ref (He.ga K "NoPlace")) = some false))))))))))))))))))))))))))))))))))))))))
def ex1_4 (K : PySem.W.Frag) : Bool := decide ((((.ref (He.ga K "BadEdge")) : Value) == (.ref (He.ga K "NoPlace"))) = false) && (
  decide (PySem.W.subIn K (.ref (He.ga K "BadEdge")) (.ref (He.ga K "NoPlace")) = some false) && (
  decide ((((.ref (He.ga K "BadSupply")) : Value) == (.ref (He.ga K "NoPlace"))) = false) && (
  decide (PySem.W.subIn K (.ref (He.ga K "BadSupply")) (.ref (He.ga K "NoPlace")) = some false) && (
  decide ((((.ref (He.ga K "Unbalanced")) : Value) == (.ref (He.ga K "NoPlace"))) = false) && (
  decide (PySem.W.subIn K (.ref (He.ga K "Unbalanced")) (.ref (He.ga K "NoPlace")) = some false) && (
  decide ((((.ref (He.ga K "BadCount")) : Value) == (.ref (He.ga K "BadEdge"))) = false) && (
  decide (PySem.W.isClsIn K (He.ga K "BadEdge") = true) && (
  decide (PySem.W.subIn K (.ref (He.ga K "BadCount")) (.ref (He.ga K "BadEdge")) = some false) && (
  decide ((((.ref (He.ga K "WrongWidth")) : Value) == (.ref (He.ga K "BadEdge"))) = false) && (
  decide (PySem.W.subIn K (.ref (He.ga K "WrongWidth")) (.ref (He.ga K "BadEdge")) = some false) && (
  decide ((((.ref (He.ga K "NoPlace")) : Value) == (.ref (He.ga K "BadEdge"))) = false) && (
  decide (PySem.W.subIn K (.ref (He.ga K "NoPlace")) (.ref (He.ga K "BadEdge")) = some false) && (
  decide ((((.ref (He.ga K "BadSupply")) : Value) == (.ref (He.ga K "BadEdge"))) = false) && (
  decide (PySem.W.subIn K (.ref (He.ga K "BadSupply")) (.ref (He.ga K "BadEdge")) = some false) && (
  decide ((((.ref (He.ga K "Unbalanced")) : Value) == (.ref (He.ga K "BadEdge"))) = false) && (
  decide (PySem.W.subIn K (.ref (He.ga K "Unbalanced")) (.ref (He.ga K "BadEdge")) = some false) && (
  decide ((((.ref (He.ga K "BadCount")) : Value) == (.ref (He.ga K "WrongWidth"))) = false) && (
  decide (PySem.W.isClsIn K (He.ga K "WrongWidth") = true) && (
  decide (PySem.W.subIn K (.ref (He.ga K "BadCount")) (.ref (He.ga K "WrongWidth")) = some false) && (
  decide ((((.ref (He.ga K "NoPlace")) : Value) == (.ref (He.ga K "WrongWidth"))) = false) && (
  decide (PySem.W.subIn K (.ref (He.ga K "NoPlace")) (.ref (He.ga K "WrongWidth")) = some false) && (
  decide ((((.ref (He.ga K "BadEdge")) : Value) == (.ref (He.ga K "WrongWidth"))) = false) && (
  decide (PySem.W.subIn K (.ref (He.ga K "BadEdge")) (.ref (He.ga K "WrongWidth")) = some false) && (
  decide ((((.ref (He.ga K "BadSupply")) : Value) == (.ref (He.ga K "WrongWidth"))) = false) && (
  decide (PySem.W.subIn K (.ref (He.ga K "BadSupply")) (.ref (He.ga K "WrongWidth")) = some false) && (
  decide ((((.ref (He.ga K "Unbalanced")) : Value) == (.ref (He.ga K "WrongWidth"))) = false) && (
  decide (PySem.W.subIn K (.ref (He.ga K "Unbalanced")) (.ref (He.ga K "WrongWidth")) = some false) && (
  decide ((((.ref (He.ga K "BadCount")) : Value) == (.ref (He.ga K "BadSupply"))) = false) && (
  decide (PySem.W.isClsIn K (He.ga K "BadSupply") = true) && (
  decide (PySem.W.subIn K (.ref (He.ga K "BadCount")) (.ref (He.ga K "BadSupply")) = some false) && (
  decide ((((.ref (He.ga K "WrongWidth")) : Value) == (.ref (He.ga K "BadSupply"))) = false) && (
  decide (PySem.W.subIn K (.ref (He.ga K "WrongWidth")) (.ref (He.ga K "BadSupply")) = some false) && (
  decide ((((.ref (He.ga K "NoPlace")) : Value) == (.ref (He.ga K "BadSupply"))) = false) && (
  decide (PySem.W.subIn K (.ref (He.ga K "NoPlace")) (.ref (He.ga K "BadSupply")) = some false) && (
  decide ((((.ref (He.ga K "BadEdge")) : Value) == (.ref (He.ga K "BadSupply"))) = false) && (
  decide (PySem.W.subIn K (.ref (He.ga K "BadEdge")) (.ref (He.ga K "BadSupply")) = some false) && (
  decide ((((.ref (He.ga K "Unbalanced")) : Value) == (.ref (He.ga K "BadSupply"))) = false) && (
  decide (PySem.W.subIn K (.ref (He.ga K "Unbalanced")) (.ref (He.ga K "BadSupply")) = some false) && (
  decide ((((.ref (He.ga K "BadCount")) : Value) == (.ref (He.ga K "Unbalanced"))) = false))))))))))))))))))))))))))))))))))))))))
def ex1_5 (K : PySem.W.Frag) : Bool := decide (PySem.W.isClsIn K (He.ga K "Unbalanced") = true) && (
  decide (PySem.W.subIn K (.ref (He.ga K "BadCount")) (.ref (He.ga K "Unbalanced")) = some false) && (
  decide ((((.ref (He.ga K "WrongWidth")) : Value) == (.ref (He.ga K "Unbalanced"))) = false) && (
  decide (PySem.W.subIn K (.ref (He.ga K "WrongWidth")) (.ref (He.ga K "Unbalanced")) = some false) && (
  decide ((((.ref (He.ga K "NoPlace")) : Value) == (.ref (He.ga K "Unbalanced"))) = false) && (
  decide (PySem.W.subIn K (.ref (He.ga K "NoPlace")) (.ref (He.ga K "Unbalanced")) = some false) && (
  decide ((((.ref (He.ga K "BadEdge")) : Value) == (.ref (He.ga K "Unbalanced"))) = false) && (
  decide (PySem.W.subIn K (.ref (He.ga K "BadEdge")) (.ref (He.ga K "Unbalanced")) = some false) && (
  decide ((((.ref (He.ga K "BadSupply")) : Value) == (.ref (He.ga K "Unbalanced"))) = false) && (
  decide (PySem.W.subIn K (.ref (He.ga K "BadSupply")) (.ref (He.ga K "Unbalanced")) = some false) && (
  decide (PySem.W.nsIn K mainGlobals "ValueError" = some none) && (
  decide (PySem.W.subIn K (.ref (He.ga K "BadCount")) (.type "ValueError") = some true) && (
  decide (PySem.W.subIn K (.ref (He.ga K "WrongWidth")) (.type "ValueError") = some true) && (
  decide (PySem.W.subIn K (.ref (He.ga K "NoPlace")) (.type "ValueError") = some true) && (
  decide (PySem.W.subIn K (.ref (He.ga K "BadEdge")) (.type "ValueError") = some true) && (
  decide (PySem.W.subIn K (.ref (He.ga K "BadSupply")) (.type "ValueError") = some true) && (
  decide (PySem.W.subIn K (.ref (He.ga K "Unbalanced")) (.type "ValueError") = some true) && (
  decide (PySem.W.nsIn K mainGlobals "_law_integer" = some (some (.ref (He.ga K "_law_integer")))) && (
  decide (PySem.W.nsIn K mainGlobals "_law_made" = some (some (.ref (He.ga K "_law_made")))) && (
  decide (PySem.W.nsIn K mainGlobals "_law_edges_asked" = some (some (.ref (He.ga K "_law_edges_asked")))) && (
  decide (PySem.W.nsIn K mainGlobals "_law_supplies_asked" = some (some (.ref (He.ga K "_law_supplies_asked")))) && (
  decide (PySem.W.nsIn K mainGlobals "_law_counts_asked" = some (some (.ref (He.ga K "_law_counts_asked")))) && (
  decide (PySem.W.nsIn K mainGlobals "_law_plain" = some (some (.ref (He.ga K "_law_plain")))) && (
  decide (PySem.W.nsIn K mainGlobals "law" = some (some (.ref (He.ga K "law")))))))))))))))))))))))))))
def ex1 (K : PySem.W.Frag) : Bool := ex1_0 K && (ex1_1 K && (ex1_2 K && (ex1_3 K && (ex1_4 K && (ex1_5 K)))))
set_option maxHeartbeats 0 in
theorem run1 (w : World) : JH.ObE R (JH.obK 5 (JH.obA ds1 ex1)) 20000 (JH.valA ds1 w) w := by
  unfold JH.ObE
  kernel_rfl
abbrev obAll : PySem.W.Frag → (JH.AlA × JH.AlA) := (fun K => ((JH.obA ds0 ex0) K, JH.obA ds1 ex1 K))
abbrev vlAll : World → (JH.AlA × JH.AlA) := (fun w => ((JH.valA ds0) w, JH.valA ds1 w))
set_option maxHeartbeats 0 in
theorem look (w : World) : JH.LookE R 20000 w := by
  unfold JH.LookE
  kernel_rfl
set_option maxHeartbeats 0 in
theorem seen (w : World) : JH.SeenE R qv 20000 names w := by
  unfold JH.SeenE
  kernel_rfl
set_option maxHeartbeats 0 in
theorem runs (w : World) : HandSHeadRun.RunEqI R qv (JH.hookK 5 obAll vlAll) (JH.obK 5 obAll) 20000 names w := JH.run_of (ob := obAll) (v := vlAll) (look w) (seen w) (JH.obE_pair (ob1 := (JH.obA ds0 ex0)) (v1 := (JH.valA ds0) w) (ob2 := JH.obA ds1 ex1) (v2 := JH.valA ds1 w) (run0 w) (run1 w))
end HR

namespace Bp
open PySem.Spec PySem PyProof.Rows L2 PySem.W

section
variable {prog : Program} {w : World} {A : Around} {E : Value → Shared → Prop} {s : Shared} {C dx p : Addr} {Q : Value → Shared → Prop} {i : Int} {t : Tok}
abbrev Got (Q : Value → Shared → Prop) (r : Option Value) (s' : Shared) : Prop := ∃ v, r = some v ∧ Q v s'
section
variable {K : Frag} {f g : Addr} {ox : Obj} {od : Option Obj} {nm T : String} {b : Value} {x : Addr} {fo ro rc : Option Value}
theorem own1_same (X : K.In s.heap) (I : InstAt s.heap x ox C od) (hb : Looks (model prog w) s.heap (typeOf b) (.ref C)) (hc : selfFirst K C = true)
    (hs : findIn K (.ref C) (PySem.dunder nm) = some (some (.ref f))) (hf : isFn K (.ref f) = true)
    (h : wpAny (model prog w) A (call (.ref f) [.ref x, b]) (PySem.W.CmpBack Q) E s) : wpAny (model prog w) A (binaryOp1 nm (.ref x) b) (Got Q) E s := by
  have k1 := ksp_try X I hs hf h
  obtain ⟨cd, rest, hcd, hm⟩ := ksp_first hc
  obtain ⟨hh, gg, d, tt, os⟩ := s
  have e1 : Looks (model prog w) hh (typeOf (.ref x)) (.ref C) := I.type
  have e3 : Looks (model prog w) hh (fillsNumberSlot (.ref C) nm) true := fills_K X hcd hm hs
  unfold binaryOp1
  refine wpAny_bind (e1.at (wpAny_bind (hb.at (wpAny_bind (e3.at ?_)))))
  simp only [beq_self_eq_true, if_true]
  ksp_lk
  refine wpAny_mono k1 (fun r s' q => ?_) fun _ _ e => e
  obtain ⟨v, rfl, q⟩ := q
  ksp_lk
  exact ⟨v, rfl, q⟩
theorem own1_base (X : K.In s.heap) (I : InstAt s.heap x ox C od) (hb : typeOf b = pure (.type T)) (hc : selfFirst K C = true)
    (hs : findIn K (.ref C) (PySem.dunder nm) = some (some (.ref f))) (hf : isFn K (.ref f) = true) (hr : findIn K (.ref C) (dunderR nm) = some rc) (hp : rc = none ∨ ∃ g : Addr, rc = some (.ref g))
    (h1 : findIn K (.type T) (PySem.dunder nm) = some fo) (h2 : findIn K (.type T) (dunderR nm) = some ro) (hsub : subIn K (.type T) (.ref C) = some false)
    (h : wpAny (model prog w) A (call (.ref f) [.ref x, b]) (PySem.W.CmpBack Q) E s) : wpAny (model prog w) A (binaryOp1 nm (.ref x) b) (Got Q) E s := by
  have k1 := ksp_try X I hs hf h
  obtain ⟨cd, rest, hcd, hm⟩ := ksp_first hc
  obtain ⟨hh, gg, d, tt, os⟩ := s
  have e1 : Looks (model prog w) hh (typeOf (.ref x)) (.ref C) := I.type
  have e2 : Looks (model prog w) hh (typeOf b) (.type T) := .of_pure hb
  have e3 : Looks (model prog w) hh (fillsNumberSlot (.ref C) nm) true := fills_K X hcd hm hs
  have e4 : Looks (model prog w) hh (fillsNumberSlot (.type T) nm) _ := ksp_fillsT X h1 h2
  have e5 : Looks (model prog w) hh (isSubtype (.type T) (.ref C)) false := looks_subIn X hsub
  have e6 : Looks (model prog w) hh (numberSlotInPython (.ref C) nm) true := ksp_inPy X hs hr hp
  have e7 : Looks (model prog w) hh (numberSlotInPython (.type T) nm) false := .of_pure rfl
  have e8 : Looks (model prog w) hh (typeLookup (.type T) (dunderR nm)) ro := looks_findIn X h2
  generalize ((fo.isSome && !isSeqSlot fo) || (ro.isSome && !isSeqSlot ro)) = right at e4
  have ne : (Value.ref C == Value.type T) = false := Bool.eq_false_iff.mpr fun q => by cases beq_iff_eq.mp q
  unfold binaryOp1
  refine wpAny_bind (e1.at (wpAny_bind (e2.at (wpAny_bind (e3.at ?_)))))
  simp only [ne, Bool.false_eq_true, if_false]
  cases right <;>
  · ksp_lk
    refine wpAny_mono k1 (fun r s' q => ?_) fun _ _ e => e
    obtain ⟨v, rfl, q⟩ := q
    ksp_lk
    exact ⟨v, rfl, q⟩
end
end
end Bp

namespace Bp
open PySem.Spec PySem PyProof.Rows
open L2 hiding St Takes XE CX takes_of PMk MkP ps_raise mk_of ps_try_as ps_try_many pmk_own passAt passes_call takes0 passL
open L2N hiding St

theorem passL {X : Cx} : Passes (L2N.CX X.prog X.w) X E0 := fun _ _ _ _ _ _ _ h => by
  obtain ⟨_, _, _, _, _, _, _, _, _, _, _, _, z⟩ := h
  exact z.elim
theorem takes0 {X : Cx} : Takes X (fun _ _ _ _ => False) := fun _ _ x => by
  obtain ⟨_, _, _, _, _, _, _, _, _, _, _, _, _, _, _, _, z⟩ := x
  exact z.elim
abbrev R2S := L2.St → R2
def OpS (X : Cx) (f : Value → Value → Sem Value) (r : R2S) : Prop :=
  ∀ (pins : List (Addr × Obj)) (s : Shared) (σ : L2.St) (H : Hp) (x y : V) (v u : Value) (Q : VK), Inv X pins σ H s → RelV x v → RelV y u → r σ x y H Q → wpAny (model X.prog X.w) X.A (f v u) (EP X pins σ Q) X.xe s
def tOpS (r : R2S) (ta tb : TE) : TE := fun σ H Q => ta σ H fun x H1 => tb σ H1 fun y H2 => r σ x y H2 Q
section
variable {X : Cx} {a b : Expr} {ta tb : TE} {pos : Pos} {r r' : R2S}
theorem OpS.or {f : Value → Value → Sem Value} (h : OpS X f r) (h' : OpS X f r') : OpS X f (fun σ x y H Q => r σ x y H Q ∨ r' σ x y H Q) := by
  intro pins s σ H x y v u Q I rx ry q
  exact q.elim (fun q => h pins s σ H x y v u Q I rx ry q) (fun q => h' pins s σ H x y v u Q I rx ry q)
theorem OpS.of {f : Value → Value → Sem Value} {r : R2} (h : OpR X f r) : OpS X f (fun _ => r) := fun pins s σ H x y v u Q I rx ry q => h pins s σ H x y v u Q I rx ry q
theorem OpS.imp {f : Value → Value → Sem Value} (h : OpS X f r) (k : ∀ σ x y H Q, r' σ x y H Q → r σ x y H Q) : OpS X f r' := fun pins s σ H x y v u Q I rx ry q => h pins s σ H x y v u Q I rx ry (k _ _ _ _ _ q)
theorem pe_opS {op : Operator} (ho : OpS X (binaryOp op) r) (ha : PE X a ta) (hb : PE X b tb) : PE X (.BinOp a op b pos) (tOpS r ta tb) := by
  refine ⟨fun pins s σ H Q I h => wpAny_BinOp (binT ha hb I h fun v u s2 x y H2 I2 rx ry q => ?_)⟩
  exact ho pins s2 σ H2 x y v u Q I2 rx ry q
theorem pe_cmpS {op : CmpOp} (ho : OpS X (compareOp op) r) (ha : PE X a ta) (hb : PE X b tb) (hm : behindInMarks op b = false) : PE X (.Compare a [op] [b] pos) (tOpS r ta tb) := by
  refine ⟨fun pins s σ H Q I h => wpAny_Compare1 (binT ha hb I h fun v u s2 x y H2 I2 rx ry q => ?_) hm⟩
  exact ho pins s2 σ H2 x y v u Q I2 rx ry q
theorem pt_cmpS {op : CmpOp} (ho : OpS X (compareOp op) r) (ha : PE X a ta) (hb : PE X b tb) (hm : behindInMarks op b = false) : PT X (.Compare a [op] [b] pos) (tTest (tOpS r ta tb)) := by
  refine ⟨fun pins s σ H Q I h => ?_⟩
  refine wpAny_isTrue_Compare1 (thn (ha.run pins s σ H _ I h) fun v s1 ⟨x, H1, I1, r1, q1⟩ => thn (hb.run pins s1 σ H1 _ I1 q1) fun u s2 ⟨y, H2, I2, r2, q2⟩ => ?_) hm
  refine thn (ho pins s2 σ H2 x y v u _ I2 r1 r2 q2) fun c s3 ⟨z, H3, I3, r3, k, e, q3⟩ => ?_
  subst e
  cases r3
  exact wpAny_truthy_bool ⟨H3, I3, q3⟩
def tAugS1 (i : Nat) (te : TE) (r : R2S) : TS := fun D σ H => ∃ x, σ[i]? = some (some x) ∧ te σ H fun y H1 => r σ x y H1 fun z H2 => D.nx (σ.set i (some z)) H2
end

def IsI (C : Addr) (H : Hp) (y : V) : Prop := ∃ b dx fs, y = .ref b ∧ H b = some (.ins C dx fs)
theorem inst_of {X : Cx} {pins : List (Addr × Obj)} {σ : L2.St} {H : Hp} {s : Shared} {C b dx : Addr} {fs : List (Str × V)} (I : Inv X pins σ H s) (h : H b = some (.ins C dx fs)) :
    s.heap.get? b = some (PySem.W.instObj C dx) ∧ ∃ od, PySem.W.InstAt s.heap b (PySem.W.instObj C dx) C (some od) := by
  obtain ⟨mA, O, _, _, _, _⟩ := ins_get I.hok h
  obtain ⟨od, J, _⟩ := O.look
  exact ⟨O.obj, od, J⟩
structure BinT (K : PySem.W.Frag) (C f : Addr) (nm : String) : Prop where
  hc : PySem.W.selfFirst K C = true
  hs : PySem.W.findIn K (.ref C) (PySem.dunder nm) = some (some (.ref f))
  hf : PySem.W.isFn K (.ref f) = true
  hr : ∃ rc, PySem.W.findIn K (.ref C) (dunderR nm) = some rc ∧ (rc = none ∨ ∃ g : Addr, rc = some (.ref g))
  h1 : ∃ fo, PySem.W.findIn K (.type "int") (PySem.dunder nm) = some fo
  h2 : ∃ ro, PySem.W.findIn K (.type "int") (dunderR nm) = some ro
  sub : PySem.W.subIn K (.type "int") (.ref C) = some false
  subC : PySem.W.subIn K (.ref C) (.type "int") = some false
section
variable {X : Cx} {CX : CXT} {k : Nat} {C f g : Addr} {fd : FuncData} {ps : List Str} {sp : Sp} {E : L2.St → XK}
def rOwn (C : Addr) (sp : Sp) (E : L2.St → XK) : R2S := fun σ x y H Q => IsI C H x ∧ (IsI C H y ∨ ∃ j, y = .int j) ∧ sp [x, y] H Q (E σ)
def rRef (C : Addr) (sp : Sp) (E : L2.St → XK) : R2S := fun σ x y H Q => (∃ i, x = .int i) ∧ IsI C H y ∧ sp [y, x] H Q (E σ)
theorem ownback {pins : List (Addr × Obj)} {σ : L2.St} {Q : VK} {v : Value} {s' : Shared} (h : EP X pins σ Q v s') : PySem.W.CmpBack (EP X pins σ Q) v s' := by
  have h' := h
  obtain ⟨z, H', I, rz, q⟩ := h
  cases z with
  | non => cases (show v = Value.none from rz); exact h'
  | bl b => cases (show v = Value.bool b from rz); exact h'
  | int i => obtain ⟨t, rfl⟩ := (show ∃ t, v = Value.int i t from rz); exact h'
  | str x => obtain ⟨t, rfl⟩ := (show ∃ t, v = Value.str x t from rz); exact h'
  | byt b => obtain ⟨t, rfl⟩ := (show ∃ t, v = Value.bytes b t from rz); exact h'
  | flt b => obtain ⟨t, rfl⟩ := (show ∃ t, v = Value.float b t from rz); exact h'
  | ref a => cases (show v = Value.ref a from rz); exact h'
  | ty n => cases (show v = Value.type n from rz); exact h'
theorem callBack {pins : List (Addr × Obj)} {σ : L2.St} {H : Hp} {s : Shared} {Q : VK} {us : List Value} {vs : List V} (F : FnOk X.prog X.w X.K X.mg X.base CX k f fd ps sp) (hr : Room k X.A) (hb : Binds X.K fd ps []) (hx : ∀ σ, PassesAt CX X σ (E σ))
    (I : Inv X pins σ H s) (r : Vals vs us) (h : sp vs H Q (E σ)) : wpAny (model X.prog X.w) X.A (call (.ref f) us) (PySem.W.CmpBack (EP X pins σ Q)) X.xe s :=
  thn (run_fnS F hr hb (hx σ) I r h) fun _ _ q => ownback q
theorem own1 {nm : String} {pins : List (Addr × Obj)} {s : Shared} {σ : L2.St} {H : Hp} {x y : V} {v u : Value} {Q : VK} (B : BinT X.K C f nm) (F : FnOk X.prog X.w X.K X.mg X.base CX k f fd ps sp) (hr : Room k X.A) (hb : Binds X.K fd ps [])
    (hx : ∀ σ, PassesAt CX X σ (E σ)) (I : Inv X pins σ H s) (rx : RelV x v) (ry : RelV y u) (h : rOwn C sp E σ x y H Q) : wpAny (model X.prog X.w) X.A (binaryOp1 nm v u) (Got (EP X pins σ Q)) X.xe s := by
  obtain ⟨⟨a, dx, fs, rfl, ha⟩, hy, q⟩ := h
  cases (show v = Value.ref a from rx)
  obtain ⟨_, od, J⟩ := inst_of I ha
  rcases hy with ⟨b, dy, gs, rfl, hb'⟩ | ⟨j, rfl⟩
  · cases (show u = Value.ref b from ry)
    obtain ⟨_, od', J'⟩ := inst_of I hb'
    exact own1_same I.kIn J J'.type B.hc B.hs B.hf (callBack (us := [.ref a, .ref b]) (vs := [.ref a, .ref b]) F hr hb hx I (.cons rfl (.cons rfl .nil)) q)
  · obtain ⟨t, rfl⟩ := (show ∃ t, u = Value.int j t from ry)
    obtain ⟨rc, hrc, hp⟩ := B.hr
    obtain ⟨fo, h1⟩ := B.h1
    obtain ⟨ro, h2⟩ := B.h2
    exact own1_base I.kIn J rfl B.hc B.hs B.hf hrc hp h1 h2 B.sub (callBack (us := [.ref a, .int j t]) (vs := [.ref a, .int j]) F hr hb hx I (.cons rfl (.cons ⟨t, rfl⟩ .nil)) q)
structure IntT (nm : String) (idl : String) : Prop where
  fl : fillsNumberSlot (.type "int") nm = pure true
  slot : Slot "int" (PySem.dunder nm) idl
  dec : ∀ {prog : Program} {w : World} {A : Around} {E : Value → Shared → Prop} {s : Shared} {C dx p : Addr} {Q : Value → Shared → Prop} {i : Int} {t : Tok}, s.heap.get? p = some (PySem.W.instObj C dx) → Q .notImplemented s →
    wpAny (model prog w) A (call (.builtin idl) [.int i t, .ref p]) Q E s
theorem ps_augOwn {i : Nat} {x : Str} {e : Expr} {te : TE} {op : Operator} {r : R2S} {pos pos' : Pos} (hN : X.N.Nodup) (hi : X.N[i]? = some x) (hx : X.env.scope.names.lookup x = some .local) (he : PE X e te) (ho : OpS X (inplaceOp op) r) :
    PS X (.AugAssign (.Name x pos') op e pos) (tAugS1 i te r) := by
  refine ⟨fun pins s σ H D I h => ?_⟩
  obtain ⟨v, e1, h⟩ := h
  obtain ⟨m, hn, hl⟩ := I.loc
  obtain ⟨u, ru, l⟩ := hl i x v hi e1 (.inl hx)
  have go : wpAny (model X.prog X.w) X.A (eval e X.env) (fun w' s1 => wpAny (model X.prog X.w) X.A (inplaceOp op u w') (fun z s2 => wpAny (model X.prog X.w) X.A (storeName X.env x z) (fun _ => SP X pins D .next) X.xe s2) X.xe s1) X.xe s := by
    refine thn (he.run pins s σ H _ I h) fun w' s1 ⟨y, H1, I1, r1, q1⟩ => thn (ho pins s1 σ H1 v y u w' _ I1 ru r1 q1) fun z s2 ⟨zv, H2, I2, r2, q2⟩ => ?_
    exact store_ok I2 hN hi (.inl hx) r2 (fun s3 I3 => ⟨_, H2, I3, q2⟩) (.inr hx)
  refine wpAny_AugAssign_Name ?_
  rcases l with ⟨hk, hm⟩ | ⟨hk, _⟩
  · exact wpAny_loadName_local I.ok.kind hk hn hm go
  · have z : X.env.scope.names.lookup x = some .cell ∨ X.env.scope.names.lookup x = some .free := hk
    rw [hx] at z
    rcases z with z | z <;> cases z
structure IntC (op : CmpOp) (idl : String) : Prop where
  slot : Slot "int" (cmpInfo op).2.1 idl
  dec : ∀ {prog : Program} {w : World} {A : Around} {E : Value → Shared → Prop} {s : Shared} {C dx p : Addr} {Q : Value → Shared → Prop} {i : Int} {t : Tok}, s.heap.get? p = some (PySem.W.instObj C dx) → Q .notImplemented s →
    wpAny (model prog w) A (call (.builtin idl) [.int i t, .ref p]) Q E s
end
section
variable {X : Cx} {C : Addr} {bmB : List Value} {B newId initId : String}
end
end Bp

namespace Bp
open PySem.Spec PySem PyProof.Rows
open L2 hiding St Takes XE CX takes_of PMk MkP ps_raise mk_of ps_try_as ps_try_many pmk_own passAt passes_call takes0 passL
open L2N hiding St

def NIback (outer : List Env) (P : Program) (w : World) (H : Hp) (s : Shared) (r : Result) (s' : Shared) : Prop :=
  match r with
  | .ok (.ret u) => u = .notImplemented ∧ ∃ H', s'.os = s.os ∧ AllBare s'.gens ∧ Un (frs outer) [] H H' s.heap s'.heap ∧ HOk P w H' s'.heap ∧ Same H H'
  | _ => False
structure FnNI (P : Program) (w : World) (K : PySem.W.Frag) (mg : Str → Option Value) (base : Heap) (k : Nat) (f : Addr) (fd : FuncData) (ps : List Str) (pre : List V → Hp → Prop) : Prop where
  len : ∀ vs H, pre vs H → vs.length = ps.length
  run : ∀ (A : Around) (outer : List Env) (s : Shared) (H : Hp) (args : Args) (us : List Value) (vs : List V), Room k A → Env0 P w K mg base A outer s H → BindsTo s fd args (ps.zip us) → Vals vs us → pre vs H →
    codeAny (model P w) A (.call (.ref f) args) (NIback outer P w H s) s
section
variable {prog : Program} {w : World} {A : Around} {E : Value → Shared → Prop} {s : Shared} {C dx p : Addr} {Q : Value → Shared → Prop}
end
section
variable {X : Cx} {k : Nat} {C f : Addr} {fd : FuncData} {ps : List Str} {pre : List V → Hp → Prop}
def NoNum (y : V) : Prop := y = .non ∨ ∃ x, y = .str x
def rDecl (C : Addr) (pre : List V → Hp → Prop) : R2S := fun _ x y H Q => IsI C H x ∧ NoNum y ∧ pre [x, y] H ∧ ∀ H', Same H H' → Q (.bl false) H'
end
end Bp

namespace Bp
def Sm (b : Nat) (r : Rat) : Prop := r.num.natAbs < 2 ^ b ∧ r.den < 2 ^ b
theorem pow_le {a b : Nat} (h : a ≤ b) : 2 ^ a ≤ 2 ^ b := Nat.pow_le_pow_right (by decide) h
theorem Sm.mono {a b : Nat} {r : Rat} (h : Sm a r) (k : a ≤ b) : Sm b r := ⟨Nat.lt_of_lt_of_le h.1 (pow_le k), Nat.lt_of_lt_of_le h.2 (pow_le k)⟩
theorem Sm.neg {b : Nat} {r : Rat} (h : Sm b r) : Sm b (-r) := ⟨by rw [Rat.neg_num, Int.natAbs_neg]; exact h.1, h.2⟩
theorem mul_lt {a b x y : Nat} (hx : x < 2 ^ a) (hy : y < 2 ^ b) : x * y < 2 ^ (a + b) := by
  rw [Nat.pow_add]
  exact Nat.mul_lt_mul'' hx hy
theorem imul_lt {a b : Nat} {x y : Int} (hx : x.natAbs < 2 ^ a) (hy : y.natAbs < 2 ^ b) : (x * y).natAbs < 2 ^ (a + b) := by
  rw [Int.natAbs_mul]
  exact mul_lt hx hy
def com (n d : Int) : Int := if d < 0 then -((Nat.gcd n.natAbs d.natAbs : Nat) : Int) else ((Nat.gcd n.natAbs d.natAbs : Nat) : Int)
theorem gcd_pos {n d : Int} (h : d ≠ 0) : 0 < Nat.gcd n.natAbs d.natAbs := Nat.gcd_pos_of_pos_right _ (by omega)
theorem com_ne {n d : Int} (h : d ≠ 0) : com n d ≠ 0 := by
  have := gcd_pos (n := n) h
  unfold com
  split <;> omega
theorem com_abs (n d : Int) : (com n d).natAbs = Nat.gcd n.natAbs d.natAbs := by
  unfold com
  split
  · rw [Int.natAbs_neg]
    rfl
  · rfl
theorem com_le {n d : Int} (h : d ≠ 0) : (com n d).natAbs ≤ d.natAbs := by
  rw [com_abs]
  exact Nat.gcd_le_right _ (by omega)
theorem fdiv_mul {c m : Int} (h : c ≠ 0) : (c * m).fdiv c = m := Int.mul_fdiv_cancel_left _ h
theorem num_com {n d : Int} (h : d ≠ 0) : n.fdiv (com n d) = (Rat.divInt n d).num := by
  have hg := gcd_pos (n := n) h
  obtain ⟨k, hk⟩ : ((Nat.gcd n.natAbs d.natAbs : Nat) : Int) ∣ n := Int.ofNat_dvd_left.mpr (Nat.gcd_dvd_left _ _)
  have e : (d.gcd n : Nat) = Nat.gcd n.natAbs d.natAbs := Nat.gcd_comm _ _
  rw [Rat.num_divInt, e]
  unfold com
  have gz : ((Nat.gcd n.natAbs d.natAbs : Nat) : Int) ≠ 0 := by omega
  generalize hG : ((Nat.gcd n.natAbs d.natAbs : Nat) : Int) = G at *
  split
  · rename_i hd
    rw [Int.sign_eq_neg_one_of_neg hd, hk]
    have a1 : (G * k).fdiv (-G) = -k := by
      have : G * k = (-G) * (-k) := by rw [Int.neg_mul_neg]
      rw [this, fdiv_mul (by omega)]
    have a2 : -1 * (G * k) / G = -k := by
      have : -1 * (G * k) = G * (-k) := by rw [Int.mul_neg, Int.neg_mul, Int.one_mul]
      rw [this, Int.mul_ediv_cancel_left _ gz]
    rw [a1, a2]
  · rename_i hd
    rw [Int.sign_eq_one_of_pos (by omega), hk, fdiv_mul gz, Int.one_mul, Int.mul_ediv_cancel_left _ gz]
theorem den_com {n d : Int} (h : d ≠ 0) : d.fdiv (com n d) = ((Rat.divInt n d).den : Int) := by
  have hg := gcd_pos (n := n) h
  obtain ⟨k, hk⟩ : ((Nat.gcd n.natAbs d.natAbs : Nat) : Int) ∣ d := Int.ofNat_dvd_left.mpr (Nat.gcd_dvd_right _ _)
  have e : (d.gcd n : Nat) = Nat.gcd n.natAbs d.natAbs := Nat.gcd_comm _ _
  rw [Rat.den_divInt, if_neg h, e, Int.natCast_ediv]
  unfold com
  have gz : ((Nat.gcd n.natAbs d.natAbs : Nat) : Int) ≠ 0 := by omega
  have gp : 0 < ((Nat.gcd n.natAbs d.natAbs : Nat) : Int) := by omega
  generalize hG : ((Nat.gcd n.natAbs d.natAbs : Nat) : Int) = G at *
  split
  · rename_i hd
    have z : ((d.natAbs : Nat) : Int) = -d := by omega
    rw [z]
    have a1 : d.fdiv (-G) = -k := by
      have : d = (-G) * (-k) := by rw [Int.neg_mul_neg]; exact hk
      rw [this, fdiv_mul (by omega)]
    have a2 : -d / G = -k := by
      have : -d = G * (-k) := by rw [Int.mul_neg, ← hk]
      rw [this, Int.mul_ediv_cancel_left _ gz]
    rw [a1, a2]
  · rename_i hd
    have z : ((d.natAbs : Nat) : Int) = d := by omega
    rw [z]
    have a1 : d.fdiv G = k := by
      rw [hk, fdiv_mul gz]
    have a2 : d / G = k := by
      rw [hk, Int.mul_ediv_cancel_left _ gz]
    rw [a1, a2]
theorem divInt_num_le (n d : Int) : (Rat.divInt n d).num.natAbs ≤ n.natAbs := by
  rw [Rat.num_divInt]
  refine Nat.le_trans (Int.natAbs_ediv_le_natAbs _ _) ?_
  rw [Int.natAbs_mul]
  have := Int.natAbs_sign d
  by_cases h : d = 0
  · subst h
    simp
  · have : d.sign.natAbs = 1 := Int.natAbs_sign_of_ne_zero h
    rw [this, Nat.one_mul]
    exact Nat.le_refl _
theorem divInt_den_le {n d : Int} (h : d ≠ 0) : (Rat.divInt n d).den ≤ d.natAbs := by
  rw [Rat.den_divInt, if_neg h]
  exact Nat.div_le_self _ _
theorem sm_divInt {n d : Int} {b : Nat} (h : d ≠ 0) (hn : n.natAbs < 2 ^ b) (hd : d.natAbs < 2 ^ b) : Sm b (Rat.divInt n d) := ⟨Nat.lt_of_le_of_lt (divInt_num_le n d) hn, Nat.lt_of_le_of_lt (divInt_den_le h) hd⟩
end Bp

namespace Bp
open PySem.Spec PySem PyProof.Rows
open L2 hiding St Takes XE CX takes_of PMk MkP ps_raise mk_of ps_try_as ps_try_many pmk_own passAt passes_call takes0 passL
open L2N hiding St

theorem _root_.L2.Same.new {H : Hp} {p : Addr} {o : HO} (h : H p = none) : Same H (upd H p o) := fun b q e => by
  rw [upd_ne (ne_of_none e h)]
  exact e
theorem _root_.L2.Same.at {H H' : Hp} {p : Addr} {o : HO} (s : Same H H') (h : H p = some o) : H' p = some o := s p o h

structure GFun (K : PySem.W.Frag) (mg : Str → Option Value) (x : Str) (st : Stmt) (ps : List Str) : Prop where
  ex : ∃ f fd, L2.Fun K x x st f fd ∧ mg x = some (.ref f) ∧ L2.Binds K fd ps []
structure MFun (K : PySem.W.Frag) (C : Addr) (m qual : Str) (st : Stmt) (ps : List Str) : Prop where
  ex : ∃ f fd, L2.Fun K m qual st f fd ∧ Meth K C m f ∧ L2.Binds K fd ps []
section
variable {P : Program} {w : World} {K : PySem.W.Frag} {mg : Str → Option Value} {base : Heap} {CXt : CXT}
theorem okN {x qual : Str} {st : Stmt} {f : Addr} {fd : FuncData} {N ps : List Str} {k : Nat} {sp : Sp} (D : L2.Fun K x qual st f fd) (sc : FnScope N ps (defScope st)) (ln : ∀ vs H Q E, sp vs H Q E → vs.length = ps.length)
    (hb : ∀ (cdv : Value) (A : Around) (outer : List Env) (s : Shared) (H : Hp) (vs : List V) (Q : VK) (E : XK), Room k (A.deeper (envOfC qual (defScope st) s.heap.objs.size f cdv)) → sp vs H Q E →
      ∃ t, PSs (cxOf CXt P w K mg base N qual (defScope st) f cdv A outer s H E) (defBody st) t ∧ t { nx := fun _ H' => Q .non H', rt := Q } (start N vs) H) : FnOk P w K mg base CXt (k + 1) f fd ps sp := by
  obtain ⟨_, _, _, _, _, _, c, _, _, e, hk, hc⟩ := D.ex
  subst e
  exact fn_of hk hc sc ln fun A outer s H vs Q E hr h => hb c A outer s H vs Q E hr h
end
structure Def (P : Program) (w : World) (K : PySem.W.Frag) (mg : Str → Option Value) (base : Heap) (k : Nat) (x : Str) (ps : List Str) (sp : Sp) : Prop where
  ex : ∃ f fd, mg x = some (.ref f) ∧ PySem.W.keepIn K (.ref f) = true ∧ L2.Binds K fd ps [] ∧ FnOk P w K mg base (L2N.CX P w) k f fd ps sp
structure MDef (P : Program) (w : World) (K : PySem.W.Frag) (mg : Str → Option Value) (base : Heap) (k : Nat) (C : Addr) (m : Str) (ps : List Str) (sp : Sp) : Prop where
  ex : ∃ f fd, Meth K C m f ∧ L2.Binds K fd ps [] ∧ FnOk P w K mg base (L2N.CX P w) k f fd ps sp
section
variable {P : Program} {w : World} {K : PySem.W.Frag} {mg : Str → Option Value} {base : Heap}
theorem GFun.ok {x : Str} {st : Stmt} {ps N : List Str} {k : Nat} {sp : Sp} (F : GFun K mg x st ps) (S : FnScope N ps (defScope st)) (len : ∀ vs H Q E, sp vs H Q E → vs.length = ps.length)
    (hbody : ∀ (f : Addr) (cdv : Value) (A : Around) (outer : List Env) (s : Shared) (H : Hp) (vs : List V) (Q : VK) (E : XK), Room k (A.deeper (envOfC x (defScope st) s.heap.objs.size f cdv)) → sp vs H Q E →
      ∃ t, PSs (cxOf (L2N.CX P w) P w K mg base N x (defScope st) f cdv A outer s H E) (defBody st) t ∧ t { nx := fun _ H' => Q .non H', rt := Q } (start N vs) H) : Def P w K mg base (k + 1) x ps sp := by
  obtain ⟨f, fd, Fn, g, b⟩ := F.ex
  exact ⟨f, fd, g, Fn.kp, b, okN Fn S len (hbody f)⟩
theorem MFun.ok {m qual : Str} {C : Addr} {st : Stmt} {ps N : List Str} {k : Nat} {sp : Sp} (F : MFun K C m qual st ps) (S : FnScope N ps (defScope st)) (len : ∀ vs H Q E, sp vs H Q E → vs.length = ps.length)
    (hbody : ∀ (f : Addr) (cdv : Value) (A : Around) (outer : List Env) (s : Shared) (H : Hp) (vs : List V) (Q : VK) (E : XK), Room k (A.deeper (envOfC qual (defScope st) s.heap.objs.size f cdv)) → sp vs H Q E →
      ∃ t, PSs (cxOf (L2N.CX P w) P w K mg base N qual (defScope st) f cdv A outer s H E) (defBody st) t ∧ t { nx := fun _ H' => Q .non H', rt := Q } (start N vs) H) : MDef P w K mg base (k + 1) C m ps sp := by
  obtain ⟨f, fd, Fn, g, b⟩ := F.ex
  exact ⟨f, fd, g, b, okN Fn S len (hbody f)⟩
theorem Def.mono {j k : Nat} {x : Str} {ps : List Str} {sp : Sp} (D : Def P w K mg base j x ps sp) (h : j ≤ k) : Def P w K mg base k x ps sp := by
  obtain ⟨f, fd, g, kp, b, F⟩ := D.ex
  exact ⟨f, fd, g, kp, b, F.mono h⟩
theorem MDef.mono {j k : Nat} {C : Addr} {m : Str} {ps : List Str} {sp : Sp} (D : MDef P w K mg base j C m ps sp) (h : j ≤ k) : MDef P w K mg base k C m ps sp := by
  obtain ⟨f, fd, g, b, F⟩ := D.ex
  exact ⟨f, fd, g, b, F.mono h⟩
end
section
variable {X : Cx} {k : Nat} {C : Addr} {x m : Str} {ps : List Str} {sp : Sp} {W : WX} {p pos apos : Pos} {e o : Expr} {es : List Expr} {ta : TE} {t : TA}
theorem pe_callD (D : Def X.prog X.w X.K X.mg X.base k x ps sp) (hr : Room k X.A) (tk : Takes X W) (ha : PA X (e :: es) t) (hg : Gl X x := by rfl) (hdb : (x == ("__debug__" : Str)) = false := by decide)
    (he : starEach (e :: es) X.env = (false, eval e X.env) :: starEach es X.env := by rfl) (hpl : (backTo pos (starEach es X.env)).any (·.1) = false := by rfl) :
    PE X (.Call (.Name x p) (e :: es) [] pos) (tCallS sp (WE W) t) := by
  obtain ⟨f, fd, g, kp, b, F⟩ := D.ex
  exact pe_callS F hr hg g kp b (fun σ => passAt tk σ) ha hdb he hpl
structure CDef (P : Program) (w : World) (K : PySem.W.Frag) (mg : Str → Option Value) (base : Heap) (k : Nat) (x : Str) (C : Addr) (sp : Sp) (dvs : List V) : Prop where
  ex : ∃ f fd ps ds, mg x = some (.ref C) ∧ Mk K C f ∧ L2.Binds K fd ps ds ∧ Vals dvs ds ∧ FnOk P w K mg base (L2N.CX P w) k f fd ps sp
def tMakeS (C : Addr) (sp : Sp) (dvs : List V) (E : L2.St → XK) (t : TA) : TE := fun σ H Q => t σ H fun vs H1 => ∀ x dx, H1 x = none → H1 dx = none → dx ≠ x →
  sp (.ref x :: (vs ++ dvs)) (upd (upd H1 dx (.own x)) x (.ins C dx [])) (fun v H2 => v = .non ∧ Q (.ref x) H2) (E σ)
theorem run_makeS {CX : CXT} {f : Addr} {fd : FuncData} {E : XK} {pins : List (Addr × Obj)} {σ : L2.St} {H : Hp} {s : Shared} {Q : VK} {us ds : List Value} {vs dvs : List V} (M : Mk X.K C f) (F : FnOk X.prog X.w X.K X.mg X.base CX k f fd ps sp) (hr : Room (k + 1) X.A)
    (hb : L2.Binds X.K fd ps ds) (hd : Vals dvs ds) (hx : PassesAt CX X σ E) (I : Inv X pins σ H s) (r : Vals vs us)
    (h : ∀ x dx, H x = none → H dx = none → dx ≠ x → sp (.ref x :: (vs ++ dvs)) (upd (upd H dx (.own x)) x (.ins C dx [])) (fun v H2 => v = .non ∧ Q (.ref x) H2) E) :
    wpAny (model X.prog X.w) X.A (call (.ref C) us) (EP X pins σ Q) X.xe s := by
  have n1 := I.hok.fresh (Nat.le_succ s.heap.objs.size)
  have n2 := I.hok.fresh (Nat.le_refl s.heap.objs.size)
  have hq := h _ _ n1 n2 (Nat.ne_of_lt (Nat.lt_succ_self _))
  have J := Inv.made (C := C) I
  have rr : Vals (V.ref (s.heap.objs.size + 1) :: (vs ++ dvs)) (Value.ref (s.heap.objs.size + 1) :: (us ++ ds)) := .cons rfl (r.append hd)
  have hl : (Value.ref (s.heap.objs.size + 1) :: us ++ ds).length = ps.length := rr.length.symm.trans (F.len _ _ _ _ hq)
  have body := F.run _ X.stack _ _ ⟨Value.ref (s.heap.objs.size + 1) :: us, []⟩ _ _ _ E (hr.make C us []) (J.env0.make C us []) (hb _ (Value.ref (s.heap.objs.size + 1) :: us) J.kIn hl) rr hq
  refine wpAny_call (make_map (f := f) I.kIn M.makes M.init (beq_iff_eq.mp M.fn) (codeAny_mono body fun r s' z => ?_))
  cases r with
  | error e => exact hx pins _ _ e s' J z
  | ok fl =>
    cases fl with
    | ret u =>
      obtain ⟨v, H', I3, rv, ev, q3⟩ := J.after z
      subst ev
      exact ⟨rv, V.ref (s.heap.objs.size + 1), H', I3, rfl, q3⟩
    | next => exact z.elim
    | brk => exact z.elim
    | cont => exact z.elim
theorem pe_makeD {dvs : List V} (D : CDef X.prog X.w X.K X.mg X.base k x C sp dvs) (hr : Room (k + 1) X.A) (tk : Takes X W) (ha : PA X (e :: es) t) (hg : Gl X x := by rfl) (hdb : (x == ("__debug__" : Str)) = false := by decide)
    (he : starEach (e :: es) X.env = (false, eval e X.env) :: starEach es X.env := by rfl) (hpl : (backTo pos (starEach es X.env)).any (·.1) = false := by rfl) :
    PE X (.Call (.Name x p) (e :: es) [] pos) (tMakeS C sp dvs (WE W) t) := by
  obtain ⟨f, fd, ps, ds, hm, M, hb, hd, F⟩ := D.ex
  refine ⟨fun pins s σ H Q I h => wpAny_Call_Name_kw (ld_glob I hg hm ?_ hdb)⟩
  refine PySem.W.callWith_K (h₀ := X.base) I.ok.mod.kin M.kp (thn (ha.run pos pins s σ H _ I h) fun us s1 ⟨vs, H1, I1, r, q⟩ => ⟨I1.kIn, ?_⟩) he hpl
  exact run_makeS M F hr hb hd (passAt tk σ) I1 r q
end
theorem kit_base {K : PySem.W.Frag} {t : Value} {T : String} {b : Bool} (ne : (t == Value.type T) = false) (hm : PySem.W.kitMeta T = true) (hs : PySem.W.subIn K t (.type T) = some b) : PySem.W.kitOne K t (.type T) = some b := by
  show (if (t == Value.type T) = true then some true else if PySem.W.kitMeta T = true then PySem.W.subIn K t (.type T) else none) = some b
  rw [ne, if_neg Bool.false_ne_true, if_pos hm, hs]
theorem kit_same {K : PySem.W.Frag} {t : Value} : PySem.W.kitOne K t t = some true := by
  unfold PySem.W.kitOne
  rw [beq_self_eq_true, if_pos rfl]
theorem kit_cls {K : PySem.W.Frag} {t : Value} {C : Addr} {b : Bool} (ne : (t == Value.ref C) = false) (h1 : PySem.W.isClsIn K C = true) (h2 : PySem.W.typeIn K (.ref C) = some (.type "type")) (hs : PySem.W.subIn K t (.ref C) = some b) : PySem.W.kitOne K t (.ref C) = some b := by
  have h1' : (PySem.W.clsIn K C).isSome = true := h1
  show (if (t == Value.ref C) = true then some true else if ((PySem.W.clsIn K C).isSome && PySem.W.typeIn K (.ref C) == some (.type "type")) = true then PySem.W.subIn K t (.ref C) else none) = some b
  rw [ne, if_neg Bool.false_ne_true, h1', h2, hs]
  rfl
end Bp

namespace Bp
open PySem.Spec PySem PyProof.Rows
open L2 hiding St Takes XE CX takes_of PMk MkP ps_raise mk_of ps_try_as ps_try_many pmk_own passAt passes_call takes0 passL
open L2N hiding St

abbrev VP := V → Hp → Prop
def Ge (te : TE) (σ : L2.St) (H : Hp) (P : VP) : Prop := ∀ H1, Same H H1 → ∀ Q : VK, (∀ v H2, Same H1 H2 → P v H2 → Q v H2) → te σ H1 Q
def GeT (tt : TT) (σ : L2.St) (H : Hp) (b : Bool) : Prop := ∀ H1, Same H H1 → ∀ Q : Bool → Hp → Prop, (∀ H2, Same H1 H2 → Q b H2) → tt σ H1 Q
abbrev Is (v : V) : VP := fun x _ => x = v
def Up (P : VP) : Prop := ∀ v H H', P v H → Same H H' → P v H'
theorem Up.is (v : V) : Up (Is v) := fun _ _ _ h _ => h
section
variable {σ : L2.St} {H : Hp} {i : Nat} {v x y : V} {ta tb te : TE} {tA : TA} {t u : TT} {P PA PB : VP} {K : PySem.W.Frag} {b c : Bool}
theorem Ge.mono {H' : Hp} (h : Ge te σ H P) (s : Same H H') : Ge te σ H' P := fun H1 s1 => h H1 (s.trans s1)
theorem Ge.imp {P' : VP} (h : Ge te σ H P) (k : ∀ v H1, Same H H1 → P v H1 → P' v H1) : Ge te σ H P' := fun H1 s1 Q q => h H1 s1 Q fun v H2 s2 p => q v H2 s2 (k v H2 (s1.trans s2) p)
theorem GeT.mono {H' : Hp} (h : GeT t σ H b) (s : Same H H') : GeT t σ H' b := fun H1 s1 => h H1 (s.trans s1)
theorem GeT.to {b' : Bool} (h : GeT t σ H b) (e : b = b') : GeT t σ H b' := e ▸ h
variable {D : Ends} {t1 t2 : TS}
theorem sq (h : t1 { D with nx := t2 D } σ H) : tSeq t1 t2 D σ H := h
end
end Bp

namespace Bp
open PySem.Spec PySem PyProof.Rows
open L2 hiding St Takes XE CX takes_of PMk MkP ps_raise mk_of ps_try_as ps_try_many pmk_own passAt passes_call takes0 passL
open L2N hiding St
section
variable {prog : Program} {w : World} {A : Around} {E : Value → Shared → Prop} {s : Shared} {K : PySem.W.Frag} {x C f : Addr} {ox : Obj} {od : Option Obj} {Q : Value → Shared → Prop}
end
section
variable {X : Cx} {k : Nat} {C : Addr} {ps : List Str} {sp : Sp}
end
end Bp

namespace Bp
section
open PySem.Spec PySem PyProof.Rows L2 PySem.W
variable {prog : Program} {w : World} {A : Around} {E : Value → Shared → Prop} {s : Shared} {Q : Value → Shared → Prop}
variable {K : Frag} {f f2 C C2 : Addr} {ox oy : Obj} {od od2 : Option Obj} {nm : String} {x y : Addr} {rc rc2 : Option Value}
end
section
open PySem.Spec PySem PyProof.Rows
open L2 hiding St Takes XE CX takes_of PMk MkP ps_raise mk_of ps_try_as ps_try_many pmk_own passAt passes_call takes0 passL
open L2N hiding St
variable {X : Cx} {CX : CXT} {k : Nat} {C C2 f f2 : Addr} {fd : FuncData} {ps : List Str} {sp : Sp} {E : L2.St → XK}
structure BinO (K : PySem.W.Frag) (C C2 f : Addr) (nm : String) : Prop where
  hc : PySem.W.selfFirst K C = true
  hc2 : PySem.W.selfFirst K C2 = true
  hs : PySem.W.findIn K (.ref C) (PySem.dunder nm) = some (some (.ref f))
  hf : PySem.W.isFn K (.ref f) = true
  hr : ∃ rc, PySem.W.findIn K (.ref C) (dunderR nm) = some rc ∧ (rc = none ∨ ∃ g : Addr, rc = some (.ref g))
  hs2 : ∃ f2 : Addr, PySem.W.findIn K (.ref C2) (PySem.dunder nm) = some (some (.ref f2))
  hr2 : ∃ rc, PySem.W.findIn K (.ref C2) (dunderR nm) = some rc ∧ (rc = none ∨ ∃ g : Addr, rc = some (.ref g))
  ne : C ≠ C2
  sub : PySem.W.subIn K (.ref C2) (.ref C) = some false
def rOth (C C2 : Addr) (sp : Sp) (E : L2.St → XK) : R2S := fun σ x y H Q => IsI C H x ∧ IsI C2 H y ∧ sp [x, y] H Q (E σ)
def rORf (C C2 : Addr) (pre : List V → Hp → Prop) (sp : Sp) (E : L2.St → XK) : R2S := fun σ x y H Q => IsI C H x ∧ IsI C2 H y ∧ pre [x, y] H ∧ ∀ H', Same H H' → sp [y, x] H' Q (E σ)
end
end Bp

namespace Bp
open PySem PySem.SeqAt
open PySem.MeetsSeq3 PySem.MeetsSeq2 PySem.MeetsSeq
open AutoSeq1 (wpAny_loadPart')
section
variable {prog : Program} {w : World} {A : Around} {R : Result → Shared → Prop}

end
section
variable {prog : Program} {w : World} {A : Around} {E : Value → Shared → Prop} {s : Shared}
end
end Bp

namespace Bp
open PySem.Spec PySem PyProof.Rows
open L2 hiding St Takes XE CX takes_of PMk MkP ps_raise mk_of ps_try_as ps_try_many pmk_own passAt passes_call takes0 passL
open L2N hiding St
abbrev DB := V → V → Bool → Hp → Prop
def RcB (X : Cx) (op : CmpOp) (n : Nat) (D : DB) : Prop := ∀ (A : Around) (pins : List (Addr × Obj)) (s : Shared) (σ : L2.St) (H : Hp) (x y : V) (u v : Value) (r : Bool), Sub X n A → Inv X pins σ H s → RelV x u → RelV y v → D x y r H →
  wpAny (model X.prog X.w) A (richCompare op u v) (fun z s2 => z = .bool r ∧ ∃ H2, Inv X pins σ H2 s2 ∧ Same H H2) X.xe s
def EqB (X : Cx) (n : Nat) (D : DB) : Prop := ∀ (A : Around) (pins : List (Addr × Obj)) (s : Shared) (σ : L2.St) (H : Hp) (x y : V) (u v : Value) (r : Bool), Sub X n A → Inv X pins σ H s → RelV x u → RelV y v → D x y r H →
  wpAny (model X.prog X.w) A (eqBool u v) (fun z s2 => z = r ∧ ∃ H2, Inv X pins σ H2 s2 ∧ Same H H2) X.xe s
section
variable {X : Cx} {n k : Nat} {D DE DO : DB} {C f : Addr} {fd : FuncData} {ps : List Str} {sp : Sp} {op : CmpOp}
theorem RcB.mono {m : Nat} (h : RcB X op n D) (hm : n ≤ m) : RcB X op m D := fun A pins s σ H x y u v r sb => h A pins s σ H x y u v r (sb.mono hm)
theorem EqB.mono {m : Nat} (h : EqB X n D) (hm : n ≤ m) : EqB X m D := fun A pins s σ H x y u v r sb => h A pins s σ H x y u v r (sb.mono hm)
theorem RcB.imp {D' : DB} (h : RcB X op n D) (k : ∀ x y r H, D' x y r H → D x y r H) : RcB X op n D' := fun A pins s σ H x y u v r sb I rx ry d => h A pins s σ H x y u v r sb I rx ry (k _ _ _ _ d)
structure Items2 (K : PySem.W.Frag) (DE DO : DB) (e o : Nat → Bool) (x y : V) (na nb : Nat) (H : Hp) : Prop where
  ex : ∃ a b xs ys, x = .ref a ∧ y = .ref b ∧ SqT K H a xs ∧ SqT K H b ys ∧ xs.length = na ∧ ys.length = nb ∧ (∀ (i : Nat) p q, xs[i]? = some p → ys[i]? = some q → DE p q (e i) H) ∧ ∀ (i : Nat) p q, xs[i]? = some p → ys[i]? = some q → e i = false → DO p q (o i) H
end
end Bp

namespace Bp
open PySem.Spec PySem PyProof.Rows
open L2 hiding St Takes XE CX takes_of PMk MkP ps_raise mk_of ps_try_as ps_try_many pmk_own passAt passes_call takes0 passL
open L2N hiding St
open RZ
theorem seqT {K : PySem.W.Frag} {H H' : Hp} {a : Addr} {xs : List V} (e : Same H H') (h : SqT K H a xs) : SqT K H' a xs := SqT.ext h e
def UpL (P : VP) : Prop := ∀ (v : V) (H : Hp) (l : Addr) (xs ys : List V), H l = some (.lst xs) → P v H → P v (upd H l (.lst ys))
theorem UpL.is (v : V) : UpL (Is v) := fun _ _ _ _ _ _ h => h
section
variable {K : PySem.W.Frag} {σ : L2.St} {H : Hp} {te tl : TE} {a b : Addr} {xs ys : List V}
end
end Bp

namespace J
open PySem.Spec PySem PyProof.Rows
open L2 hiding St Takes XE CX takes_of PMk MkP ps_raise mk_of ps_try_as ps_try_many pmk_own passAt passes_call takes0 passL
open L2N hiding St

inductive PV where
  | non | bl (b : Bool) | int (i : Int) | str (x : Str) | fr (r : Rat)
  | tup (l : List PV) | lst (l : List PV) | obj (c : Nat) (fs : List (Str × PV)) | cls (c : Nat) | typ (n : String) | dic (kvs : List (L2.Key × PV))
inductive R (α : Type) where
  | ok (a : α) | er (c : Nat) (fs : List (Str × PV)) | bad
def R.bind {α β : Type} (r : R α) (k : α → R β) : R β := match r with | .ok a => k a | .er c fs => .er c fs | .bad => .bad
@[simp] theorem R.bind_ok {α β : Type} (a : α) (k : α → R β) : (R.ok a).bind k = k a := rfl
@[simp] theorem R.bind_er {α β : Type} (c : Nat) (fs : List (Str × PV)) (k : α → R β) : (R.er c fs).bind k = .er c fs := rfl
@[simp] theorem R.bind_bad {α β : Type} (k : α → R β) : (R.bad).bind k = .bad := rfl
inductive Sl where
  | no | val (p : PV) | own (l : List PV) | oob (c : Nat) (fs : List (Str × PV)) | slf (c : Nat) (fs : List (Str × PV)) | exc (c : Nat) (fs : List (Str × PV)) | ownD (kvs : List (L2.Key × PV)) | iol (l : List PV) | io2 (l : List PV) | par (l : List (PV ⊕ Bool))
def Sl.isOwn : Sl → Bool | .own _ => true | .oob _ _ => true | .ownD _ => true | .iol _ => true | .io2 _ => true | _ => false
abbrev Env := List Sl
inductive F where
  | nx (e : Env) | rt (p : PV) | er (e : Env) (c : Nat) (fs : List (Str × PV)) | bk (e : Env) | ct (e : Env) | bad

structure Gb where
  K : PySem.W.Frag
  cm : Nat → Addr
abbrev Gb.C (G : Gb) : Addr := G.cm 0
structure Ga extends Gb where
  xi : Option (Addr × Value × Option Addr) := none
  sa : Option Addr := none
  sb : Option Addr := none
instance : CoeOut Ga Gb := ⟨Ga.toGb⟩
def frF (r : Rat) : List (Str × V) := [("num", .int r.num), ("den", .int (r.den : Int))]
mutual
inductive Rep (G : Gb) (H : Hp) : PV → V → Prop
  | non : Rep G H .non .non
  | bl (b : Bool) : Rep G H (.bl b) (.bl b)
  | int (i : Int) : Rep G H (.int i) (.int i)
  | str (x : Str) : Rep G H (.str x) (.str x)
  | fr {r : Rat} {a dx : Addr} : H a = some (.ins G.C dx (frF r)) → Rep G H (.fr r) (.ref a)
  | tup {l : List PV} {a : Addr} {vs : List V} : SqT G.K H a vs → Reps G H l vs → Rep G H (.tup l) (.ref a)
  | lst {l : List PV} {a : Addr} {vs : List V} : SqL G.K H a vs → Reps G H l vs → Rep G H (.lst l) (.ref a)
  | obj {c : Nat} {fs : List (Str × PV)} {a dx : Addr} {vfs : List (Str × V)} : H a = some (.ins (G.cm c) dx vfs) → RepF G H fs vfs → Rep G H (.obj c fs) (.ref a)
  | cls (c : Nat) : Rep G H (.cls c) (.ref (G.cm c))
  | typ (n : String) : Rep G H (.typ n) (.ty n)
  | dic {kvs : List (L2.Key × PV)} {a : Addr} {vs : List (L2.Key × V)} : H a = some (.dK vs) → RepK G H kvs vs → Rep G H (.dic kvs) (.ref a)
inductive Reps (G : Gb) (H : Hp) : List PV → List V → Prop
  | nil : Reps G H [] []
  | cons {p : PV} {v : V} {l : List PV} {vs : List V} : Rep G H p v → Reps G H l vs → Reps G H (p :: l) (v :: vs)
inductive RepF (G : Gb) (H : Hp) : List (Str × PV) → List (Str × V) → Prop
  | nil : RepF G H [] []
  | cons {f : Str} {p : PV} {v : V} {l : List (Str × PV)} {vs : List (Str × V)} : Rep G H p v → RepF G H l vs → RepF G H ((f, p) :: l) ((f, v) :: vs)
inductive RepK (G : Gb) (H : Hp) : List (L2.Key × PV) → List (L2.Key × V) → Prop
  | nil : RepK G H [] []
  | cons {k : L2.Key} {p : PV} {v : V} {l : List (L2.Key × PV)} {vs : List (L2.Key × V)} : Rep G H p v → RepK G H l vs → RepK G H ((k, p) :: l) ((k, v) :: vs)
end
section
variable {G : Gb} {H H' : Hp}
mutual
theorem Rep.mono (s : Same H H') : ∀ {p : PV} {v : V}, Rep G H p v → Rep G H' p v
  | _, _, .non => .non
  | _, _, .bl b => .bl b
  | _, _, .int i => .int i
  | _, _, .str x => .str x
  | _, _, .fr h => .fr (s _ _ h)
  | _, _, .tup h r => .tup (Bp.seqT s h) (Reps.mono s r)
  | _, _, .lst h r => .lst (s.seq h) (Reps.mono s r)
  | _, _, .obj h r => .obj (s _ _ h) (RepF.mono s r)
  | _, _, .cls c => .cls c
  | _, _, .typ n => .typ n
  | _, _, .dic h r => .dic (s _ _ h) (RepK.mono s r)
theorem Reps.mono (s : Same H H') : ∀ {l : List PV} {vs : List V}, Reps G H l vs → Reps G H' l vs
  | _, _, .nil => .nil
  | _, _, .cons h r => .cons (Rep.mono s h) (Reps.mono s r)
theorem RepF.mono (s : Same H H') : ∀ {l : List (Str × PV)} {vs : List (Str × V)}, RepF G H l vs → RepF G H' l vs
  | _, _, .nil => .nil
  | _, _, .cons h r => .cons (Rep.mono s h) (RepF.mono s r)
theorem RepK.mono (s : Same H H') : ∀ {l : List (L2.Key × PV)} {vs : List (L2.Key × V)}, RepK G H l vs → RepK G H' l vs
  | _, _, .nil => .nil
  | _, _, .cons h r => .cons (Rep.mono s h) (RepK.mono s r)
end
theorem Reps.length : ∀ {l : List PV} {vs : List V}, Reps G H l vs → l.length = vs.length
  | _, _, .nil => rfl
  | _, _, .cons _ r => by simp [Reps.length r]
theorem Reps.get : ∀ {l : List PV} {vs : List V} {i : Nat} {p : PV}, Reps G H l vs → l[i]? = some p → ∃ v, vs[i]? = some v ∧ Rep G H p v
  | _, _, i, p, .nil, e => by simp at e
  | _, _, 0, p, .cons (v := v) h _, e => ⟨v, rfl, by cases (Option.some.inj (show some _ = some p from e)); exact h⟩
  | _, _, i + 1, p, .cons _ r, e => Reps.get (i := i) r e
theorem Reps.get' : ∀ {l : List PV} {vs : List V} {i : Nat} {v : V}, Reps G H l vs → vs[i]? = some v → ∃ p, l[i]? = some p ∧ Rep G H p v
  | _, _, i, p, .nil, e => by simp at e
  | _, _, 0, v, .cons (p := p) h _, e => ⟨p, rfl, by cases (Option.some.inj (show some _ = some v from e)); exact h⟩
  | _, _, i + 1, p, .cons _ r, e => Reps.get' (i := i) r e
theorem Reps.append : ∀ {l m : List PV} {vs ws : List V}, Reps G H l vs → Reps G H m ws → Reps G H (l ++ m) (vs ++ ws)
  | _, _, _, _, .nil, s => s
  | _, _, _, _, .cons h r, s => .cons h (Reps.append r s)
theorem Reps.take : ∀ {l : List PV} {vs : List V} (n : Nat), Reps G H l vs → Reps G H (l.take n) (vs.take n)
  | _, _, 0, _ => .nil
  | _, _, _ + 1, .nil => .nil
  | _, _, n + 1, .cons h r => .cons h (Reps.take n r)
theorem Reps.drop : ∀ {l : List PV} {vs : List V} (n : Nat), Reps G H l vs → Reps G H (l.drop n) (vs.drop n)
  | _, _, 0, r => r
  | _, _, _ + 1, .nil => .nil
  | _, _, n + 1, .cons _ r => Reps.drop n r
theorem Reps.set {p : PV} {v : V} (h : Rep G H p v) : ∀ {l : List PV} {vs : List V} (i : Nat), Reps G H l vs → Reps G H (l.set i p) (vs.set i v)
  | _, _, _, .nil => .nil
  | _, _, 0, .cons _ t => .cons h t
  | _, _, i + 1, .cons q t => .cons q (Reps.set h i t)
theorem RepF.length : ∀ {l : List (Str × PV)} {vs : List (Str × V)}, RepF G H l vs → l.length = vs.length
  | _, _, .nil => rfl
  | _, _, .cons _ r => by simp [RepF.length r]
theorem RepF.lookup {f : Str} {p : PV} : ∀ {l : List (Str × PV)} {vs : List (Str × V)}, RepF G H l vs → l.lookup f = some p → ∃ v, vs.lookup f = some v ∧ Rep G H p v
  | _, _, .nil, e => by simp at e
  | _, _, .cons (f := g) (v := v) (p := q) h r, e => by
    by_cases hg : f == g
    · refine ⟨v, by simp [List.lookup, hg], ?_⟩
      simp only [List.lookup, hg, Option.some.injEq] at e
      exact e ▸ h
    · have hg' : (f == g) = false := by simpa using hg
      simp only [List.lookup, hg'] at e
      obtain ⟨w, e1, e2⟩ := RepF.lookup r e
      exact ⟨w, by simp only [List.lookup, hg', e1], e2⟩
def putP (f : Str) (p : PV) : List (Str × PV) → List (Str × PV)
  | [] => [(f, p)]
  | (g, x) :: r => if g = f then (g, p) :: r else (g, x) :: putP f p r
theorem RepF.put {f : Str} {p : PV} {v : V} (h : Rep G H p v) : ∀ {l : List (Str × PV)} {vs : List (Str × V)}, RepF G H l vs → RepF G H (putP f p l) (putF f v vs)
  | _, _, .nil => .cons h .nil
  | _, _, .cons (f := g) q r => by
    unfold putP putF
    by_cases e : g = f
    · rw [if_pos e, if_pos e]
      exact .cons h r
    · rw [if_neg e, if_neg e]
      exact .cons q (RepF.put h r)
def valD (kvs : List (L2.Key × PV)) (k : L2.Key) : Option PV := (kvs.find? fun kv => decide (kv.1 = k)).map (·.2)
def putD (kvs : List (L2.Key × PV)) (k : L2.Key) (p : PV) : List (L2.Key × PV) :=
  if (kvs.any fun kv => decide (kv.1 = k)) = true then kvs.map (fun kv => if kv.1 = k then (kv.1, p) else kv) else kvs ++ [(k, p)]
theorem RepK.length : ∀ {l : List (L2.Key × PV)} {vs : List (L2.Key × V)}, RepK G H l vs → l.length = vs.length
  | _, _, .nil => rfl
  | _, _, .cons _ r => by simp [RepK.length r]
theorem RepK.val {k : L2.Key} : ∀ {l : List (L2.Key × PV)} {vs : List (L2.Key × V)}, RepK G H l vs → (valD l k = none ∧ L2.valV vs k = none) ∨ ∃ p v, valD l k = some p ∧ L2.valV vs k = some v ∧ Rep G H p v
  | _, _, .nil => .inl ⟨rfl, rfl⟩
  | _, _, .cons (k := j) (p := p) (v := v) h r => by
    by_cases e : j = k
    · exact .inr ⟨p, v, by simp [valD, e], by simp [L2.valV, e], h⟩
    · rcases RepK.val (k := k) r with ⟨a, b⟩ | ⟨q, u, a, b, c⟩
      · exact .inl ⟨by simpa [valD, e] using a, by simpa [L2.valV, e] using b⟩
      · exact .inr ⟨q, u, by simpa [valD, e] using a, by simpa [L2.valV, e] using b, c⟩
theorem RepK.any {k : L2.Key} : ∀ {l : List (L2.Key × PV)} {vs : List (L2.Key × V)}, RepK G H l vs → (l.any fun kv => decide (kv.1 = k)) = (vs.any fun kv => decide (kv.1 = k))
  | _, _, .nil => rfl
  | _, _, .cons _ r => by rw [List.any_cons, List.any_cons, RepK.any r]
theorem RepK.repl {k : L2.Key} {p : PV} {v : V} (h : Rep G H p v) : ∀ {l : List (L2.Key × PV)} {vs : List (L2.Key × V)}, RepK G H l vs → RepK G H (l.map fun kv => if kv.1 = k then (kv.1, p) else kv) (vs.map fun kv => if kv.1 = k then (kv.1, v) else kv)
  | _, _, .nil => .nil
  | _, _, .cons (k := j) g r => by
    rw [List.map_cons, List.map_cons]
    by_cases e : j = k
    · rw [if_pos e, if_pos e]; exact .cons h (RepK.repl h r)
    · rw [if_neg e, if_neg e]; exact .cons g (RepK.repl h r)
theorem RepK.app : ∀ {l m : List (L2.Key × PV)} {vs ws : List (L2.Key × V)}, RepK G H l vs → RepK G H m ws → RepK G H (l ++ m) (vs ++ ws)
  | _, _, _, _, .nil, h => h
  | _, _, _, _, .cons h r, s => .cons h (RepK.app r s)
theorem RepK.put {k : L2.Key} {p : PV} {v : V} {l : List (L2.Key × PV)} {vs : List (L2.Key × V)} (r : RepK G H l vs) (h : Rep G H p v) : RepK G H (putD l k p) (L2.putK vs k v) := by
  unfold putD L2.putK
  rw [r.any]
  split
  · exact RepK.repl h r
  · exact RepK.app r (.cons h .nil)
def keyP (p : PV) : Option L2.Key := match p with | .int i => some (.inl i) | .str x => some (.inr x) | _ => none
theorem keyP_rep {p : PV} {v : V} {k : L2.Key} (h : keyP p = some k) (r : Rep G H p v) : v = L2.kV k := by
  cases r with
  | int i => cases h; rfl
  | str x => cases h; rfl
  | _ => cases h
theorem Rep.of_int {i : Int} {v : V} (h : Rep G H (.int i) v) : v = .int i := by cases h; rfl
end

structure Gr (Hf H Hf' H' : Hp) : Prop where
  fz : Same Hf Hf'
  hp : Same H H'
  sub : Same Hf' H'
  new : ∀ a o, Hf' a = some o → Hf a = some o ∨ H a = none
theorem none_back {H H' : Hp} (s : Same H H') {a : Addr} (h : H' a = none) : H a = none := by
  cases e : H a with
  | none => rfl
  | some o => rw [s a o e] at h; cases h
theorem Gr.refl {Hf H : Hp} (s : Same Hf H) : Gr Hf H Hf H := ⟨fun _ _ h => h, fun _ _ h => h, s, fun _ _ h => .inl h⟩
theorem Gr.trans {A B C D E F : Hp} (x : Gr A B C D) (y : Gr C D E F) : Gr A B E F := ⟨x.fz.trans y.fz, x.hp.trans y.hp, y.sub, fun a o h => (y.new a o h).elim (fun h => x.new a o h) fun h => .inr (none_back x.hp h)⟩
theorem Gr.up {Hf H H' : Hp} (s : Same Hf H) (h : Same H H') : Gr Hf H Hf H' := ⟨fun _ _ h => h, h, s.trans h, fun _ _ h => .inl h⟩
theorem Gr.one {Hf H : Hp} {a : Addr} {o : HO} (s : Same Hf H) (n : H a = none) : Gr Hf H (upd Hf a o) (upd H a o) := by
  have nf : Hf a = none := none_back s n
  refine ⟨Same.new nf, Same.new n, fun b u h => ?_, fun b u h => ?_⟩
  · by_cases e : b = a
    · subst e
      rw [upd_same] at h ⊢
      exact h
    · rw [upd_ne e] at h ⊢
      exact s _ _ h
  · by_cases e : b = a
    · subst e
      exact .inr n
    · rw [upd_ne e] at h
      exact .inl h
theorem Gr.frz {Hf0 H0 Hf H : Hp} {a : Addr} {o : HO} (g : Gr Hf0 H0 Hf H) (n0 : H0 a = none) (nf : Hf a = none) (h : H a = some o) : Gr Hf0 H0 (upd Hf a o) H := by
  refine ⟨g.fz.trans (Same.new nf), g.hp, fun b u hb => ?_, fun b u hb => ?_⟩
  · by_cases e : b = a
    · subst e
      rw [upd_same] at hb
      rw [← hb]
      exact h
    · rw [upd_ne e] at hb
      exact g.sub _ _ hb
  · by_cases e : b = a
    · subst e
      exact .inr n0
    · rw [upd_ne e] at hb
      exact g.new _ _ hb

def ErD (G : Gb) (Hf H : Hp) (fs : List (Str × PV)) (d : Option Addr) : Prop := match fs with
  | [] => d = none
  | _ :: _ => ∃ a vfs, d = some a ∧ H a = some (.xd vfs) ∧ RepF G Hf fs vfs
inductive Kids (G : Gb) (sa sb : Option Addr) (Hf : Hp) : List (PV ⊕ Bool) → List V → Prop
  | nil : Kids G sa sb Hf [] []
  | val {p : PV} {v : V} {l : List (PV ⊕ Bool)} {vs : List V} : Rep G Hf p v → Kids G sa sb Hf l vs → Kids G sa sb Hf (.inl p :: l) (v :: vs)
  | ka {b : Addr} {l : List (PV ⊕ Bool)} {vs : List V} : sa = some b → Kids G sa sb Hf l vs → Kids G sa sb Hf (.inr false :: l) (.ref b :: vs)
  | kb {b : Addr} {l : List (PV ⊕ Bool)} {vs : List V} : sb = some b → Kids G sa sb Hf l vs → Kids G sa sb Hf (.inr true :: l) (.ref b :: vs)
theorem Kids.mono {G : Gb} {sa sb : Option Addr} {Hf Hf' : Hp} (s : Same Hf Hf') {l : List (PV ⊕ Bool)} {vs : List V} (h : Kids G sa sb Hf l vs) : Kids G sa sb Hf' l vs := by
  induction h with
  | nil => exact .nil
  | val r _ ih => exact .val (r.mono s) ih
  | ka e _ ih => exact .ka e ih
  | kb e _ ih => exact .kb e ih
def ParOk (G : Gb) (sa sb : Option Addr) (Hf : Hp) (l : List (PV ⊕ Bool)) (a : Addr) : Prop := ∃ vs, Hf a = some (.lst vs) ∧ Kids G sa sb Hf l vs
theorem ParOk.mono {G : Gb} {sa sb : Option Addr} {Hf Hf' : Hp} {l : List (PV ⊕ Bool)} {a : Addr} (h : ParOk G sa sb Hf l a) (s : Same Hf Hf') : ParOk G sa sb Hf' l a := by
  obtain ⟨vs, e, k⟩ := h
  exact ⟨vs, s _ _ e, k.mono s⟩
def SlOk (G : Ga) (H0 Hf H : Hp) (s : Sl) (o : Option (Option V)) : Prop := match s with
  | .no => True
  | .val p => ∃ v, o = some (some v) ∧ Rep G Hf p v
  | .own l => ∃ a vs, o = some (some (.ref a)) ∧ H0 a = none ∧ Hf a = none ∧ H a = some (.lst vs) ∧ Reps G Hf l vs
  | .slf c fs => ∃ a, o = some (some (.ref a)) ∧ (∀ b, G.sa = some b → a = b) ∧ Rep G Hf (.obj c fs) (.ref a)
  | .oob c fs => ∃ a dx vfs, o = some (some (.ref a)) ∧ (∀ b, G.sa = some b → a = b) ∧ H0 a = none ∧ Hf a = none ∧ H a = some (.ins (G.cm c) dx vfs) ∧ RepF G Hf fs vfs
  | .exc c fs => ∃ a d, o = some (some (.ref a)) ∧ G.xi = some (a, .ref (G.cm c), d) ∧ ErD G Hf H fs d
  | .ownD kvs => ∃ a vs, o = some (some (.ref a)) ∧ H0 a = none ∧ Hf a = none ∧ H a = some (.dK vs) ∧ RepK G Hf kvs vs
  | .iol l => ∃ a vs, o = some (some (.ref a)) ∧ (∀ b, G.sa = some b → a = b) ∧ H0 a = none ∧ Hf a = none ∧ H a = some (.lst vs) ∧ Reps G Hf l vs
  | .io2 l => ∃ a vs, o = some (some (.ref a)) ∧ (∀ b, G.sb = some b → a = b) ∧ H0 a = none ∧ Hf a = none ∧ H a = some (.lst vs) ∧ Reps G Hf l vs
  | .par l => ∃ a, o = some (some (.ref a)) ∧ ParOk G.toGb G.sa G.sb Hf l a
def Env.at (e : Env) (i : Nat) : Sl := e.getD i .no
structure EnvOk (G : Ga) (H0 Hf H : Hp) (env : Env) (σ : L2.St) : Prop where
  len : env.length = σ.length
  get : ∀ i, SlOk G H0 Hf H (env.at i) σ[i]?
  dis : ∀ i j a, (env.at i).isOwn = true → (env.at j).isOwn = true → σ[i]? = some (some (.ref a)) → σ[j]? = some (some (.ref a)) → i = j
section
variable {G : Ga} {H0 Hf H Hf' H' : Hp} {env : Env} {σ : L2.St}
theorem ErD.grow {G : Gb} {fs : List (Str × PV)} {d : Option Addr} (h : ErD G Hf H fs d) (s1 : Same Hf Hf') (s2 : Same H H') : ErD G Hf' H' fs d := by
  cases fs with
  | nil => exact h
  | cons x r =>
    obtain ⟨a, vfs, e, ha, hr⟩ := h
    exact ⟨a, vfs, e, s2 _ _ ha, hr.mono s1⟩
theorem SlOk.grow {s : Sl} {o : Option (Option V)} (h : SlOk G H0 Hf H s o) (g : Gr Hf H Hf' H') : SlOk G H0 Hf' H' s o := by
  have away : ∀ {a : Addr} {u : HO}, Hf a = none → H a = some u → Hf' a = none := fun {a u} h1 h2 => by
    cases e : Hf' a with
    | none => rfl
    | some w =>
      rcases g.new a w e with q | q
      · rw [h1] at q; cases q
      · rw [h2] at q; cases q
  cases s with
  | no => trivial
  | val p =>
    obtain ⟨v, e, r⟩ := h
    exact ⟨v, e, r.mono g.fz⟩
  | own l =>
    obtain ⟨a, vs, e, h0, hf, hh, r⟩ := h
    exact ⟨a, vs, e, h0, away hf hh, g.hp _ _ hh, r.mono g.fz⟩
  | oob c fs =>
    obtain ⟨a, dx, vfs, e, z, h0, hf, hh, r⟩ := h
    exact ⟨a, dx, vfs, e, z, h0, away hf hh, g.hp _ _ hh, r.mono g.fz⟩
  | slf c fs =>
    obtain ⟨a, e, z, r⟩ := h
    exact ⟨a, e, z, r.mono g.fz⟩
  | par l =>
    obtain ⟨a, e, r⟩ := h
    exact ⟨a, e, r.mono g.fz⟩
  | exc c fs =>
    obtain ⟨a, d, e, x, r⟩ := h
    exact ⟨a, d, e, x, r.grow g.fz g.hp⟩
  | ownD kvs =>
    obtain ⟨a, vs, e, h0, hf, hh, r⟩ := h
    exact ⟨a, vs, e, h0, away hf hh, g.hp _ _ hh, r.mono g.fz⟩
  | iol kvs =>
    obtain ⟨a, vs, e, z, h0, hf, hh, r⟩ := h
    exact ⟨a, vs, e, z, h0, away hf hh, g.hp _ _ hh, r.mono g.fz⟩
  | io2 kvs =>
    obtain ⟨a, vs, e, z, h0, hf, hh, r⟩ := h
    exact ⟨a, vs, e, z, h0, away hf hh, g.hp _ _ hh, r.mono g.fz⟩
theorem EnvOk.grow (h : EnvOk G H0 Hf H env σ) (g : Gr Hf H Hf' H') : EnvOk G H0 Hf' H' env σ := ⟨h.len, fun i => (h.get i).grow g, h.dis⟩
theorem Env.at_set {e : Env} {i j : Nat} {s : Sl} : Env.at (e.set i s) j = if i = j ∧ j < e.length then s else e.at j := by
  unfold Env.at
  rw [List.getD_eq_getElem?_getD, List.getD_eq_getElem?_getD, List.getElem?_set]
  by_cases h : i = j
  · subst h
    by_cases h2 : i < e.length
    · simp [h2]
    · have : e[i]? = none := by simp; omega
      simp [h2, this]
  · simp [h]
theorem EnvOk.set {i : Nat} {s : Sl} {v : V} (h : EnvOk G H0 Hf H env σ) (hs : SlOk G H0 Hf H s (some (some v)))
    (fresh : s.isOwn = true → ∀ j, j ≠ i → (env.at j).isOwn = true → σ[j]? ≠ some (some v)) : EnvOk G H0 Hf H (env.set i s) (σ.set i (some v)) := by
  refine ⟨by simp [h.len], fun j => ?_, fun j k a hj hk ej ek => ?_⟩
  · rw [Env.at_set]
    by_cases e : i = j ∧ j < env.length
    · obtain ⟨rfl, l⟩ := e
      rw [if_pos ⟨rfl, l⟩, List.getElem?_set, if_pos rfl, if_pos (by rw [← h.len]; exact l)]
      exact hs
    · rw [if_neg e, List.getElem?_set]
      by_cases e2 : i = j
      · subst e2
        have l : ¬ i < σ.length := fun z => e ⟨rfl, by rw [h.len]; exact z⟩
        rw [if_pos rfl, if_neg l]
        have q := h.get i
        have : env.at i = .no := by
          unfold Env.at
          rw [List.getD_eq_getElem?_getD, List.getElem?_eq_none (by rw [h.len]; omega)]
          rfl
        rw [this]
        trivial
      · rw [if_neg e2]
        exact h.get j
  · rw [Env.at_set] at hj hk
    rw [List.getElem?_set] at ej ek
    by_cases e1 : i = j
    · by_cases e2 : i = k
      · omega
      · subst e1
        rw [if_neg e2] at ek
        rw [if_neg (fun z => e2 z.1)] at hk
        by_cases l : i < σ.length
        · rw [if_pos rfl, if_pos l] at ej
          rw [if_pos ⟨rfl, by rw [h.len]; exact l⟩] at hj
          cases ej
          exact absurd ek (fresh hj k (fun z => e2 z.symm) hk)
        · rw [if_pos rfl, if_neg l] at ej
          cases ej
    · rw [if_neg e1] at ej
      rw [if_neg (fun z => e1 z.1)] at hj
      by_cases e2 : i = k
      · subst e2
        by_cases l : i < σ.length
        · rw [if_pos rfl, if_pos l] at ek
          rw [if_pos ⟨rfl, by rw [h.len]; exact l⟩] at hk
          cases ek
          exact absurd ej (fresh hk j (fun z => e1 z.symm) hj)
        · rw [if_pos rfl, if_neg l] at ek
          cases ek
      · rw [if_neg e2] at ek
        rw [if_neg (fun z => e2 z.1)] at hk
        exact h.dis j k a hj hk ej ek
theorem EnvOk.setV {i : Nat} {p : PV} {v : V} (h : EnvOk G H0 Hf H env σ) (r : Rep G Hf p v) : EnvOk G H0 Hf H (env.set i (.val p)) (σ.set i (some v)) := h.set ⟨v, rfl, r⟩ fun z => nomatch z
theorem EnvOk.forget {i : Nat} (h : EnvOk G H0 Hf H env σ) : EnvOk G H0 Hf H (env.set i .no) σ := by
  have at' : ∀ j, Env.at (env.set i .no) j = env.at j ∨ Env.at (env.set i .no) j = .no := fun j => by
    rw [Env.at_set]
    by_cases e : i = j ∧ j < env.length
    · rw [if_pos e]; exact .inr rfl
    · rw [if_neg e]; exact .inl rfl
  refine ⟨by simp [h.len], fun j => ?_, fun j k a hj hk => ?_⟩
  · rcases at' j with e | e
    · rw [e]; exact h.get j
    · rw [e]; trivial
  · rcases at' j with e | e
    · rcases at' k with e' | e'
      · rw [e] at hj; rw [e'] at hk; exact h.dis j k a hj hk
      · rw [e'] at hk; cases hk
    · rw [e] at hj; cases hj
theorem EnvOk.val {i : Nat} {p : PV} (h : EnvOk G H0 Hf H env σ) (e : env.at i = .val p) : ∃ v, σ[i]? = some (some v) ∧ Rep G Hf p v := by
  have q := h.get i
  rw [e] at q
  exact q
end

def PostG (G : Gb) (W : WX) {α β : Type} (Rl : Hp → α → β → Prop) (Hf H : Hp) (σ : L2.St) (r : R α) (Q : β → Hp → Prop) : Prop := match r with
  | .ok a => ∀ v Hf' H', Gr Hf H Hf' H' → Rl Hf' a v → Q v H'
  | .er c fs => ∀ Hf' H' d, Gr Hf H Hf' H' → ErD G Hf' H' fs d → W (.ref (G.cm c)) d σ H'
  | .bad => False
abbrev Post (G : Gb) (W : WX) (Hf H : Hp) (σ : L2.St) (r : R PV) (Q : VK) : Prop := PostG G W (fun Hf p v => Rep G Hf p v) Hf H σ r Q
abbrev PostL (G : Gb) (W : WX) (Hf H : Hp) (σ : L2.St) (r : R (List PV)) (Q : List V → Hp → Prop) : Prop := PostG G W (fun Hf p v => Reps G Hf p v) Hf H σ r Q
abbrev PostT (G : Gb) (W : WX) (Hf H : Hp) (σ : L2.St) (r : R Bool) (Q : Bool → Hp → Prop) : Prop := PostG G W (fun _ a b => b = a) Hf H σ r Q
section
variable {G : Gb} {W : WX} {α β γ δ : Type} {Rl : Hp → α → β → Prop} {Rm : Hp → γ → δ → Prop} {H0 Hf H Hf' H' : Hp} {σ : L2.St}
theorem PostG.grow {r : R α} {Q : β → Hp → Prop} (h : PostG G W Rl Hf H σ r Q) (g : Gr Hf H Hf' H') : PostG G W Rl Hf' H' σ r Q := by
  cases r with
  | ok a => exact fun v A B g2 rr => h v A B (g.trans g2) rr
  | er c fs => exact fun A B d g2 e => h A B d (g.trans g2) e
  | bad => exact h
theorem PostG.bind {r : R γ} {k : γ → R α} {Q : β → Hp → Prop} {Q' : δ → Hp → Prop} (h : PostG G W Rl Hf H σ (r.bind k) Q)
    (c : ∀ a v Hf' H', r = .ok a → Gr Hf H Hf' H' → Rm Hf' a v → PostG G W Rl Hf' H' σ (k a) Q → Q' v H') : PostG G W Rm Hf H σ r Q' := by
  cases r with
  | ok a => exact fun v A B g rr => c a v A B rfl g rr (PostG.grow h g)
  | er c fs => exact h
  | bad => exact h
end

def TJ (G : Ga) (W : WX) (te : TE) (d : Env → R PV) : Prop := ∀ (H0 Hf H : Hp) (env : Env) (σ : L2.St) (Q : VK), Same Hf H → EnvOk G H0 Hf H env σ → Post G W Hf H σ (d env) Q → te σ H Q
def TJA (G : Ga) (W : WX) (ta : TA) (d : Env → R (List PV)) : Prop := ∀ (H0 Hf H : Hp) (env : Env) (σ : L2.St) (Q : List V → Hp → Prop), Same Hf H → EnvOk G H0 Hf H env σ → PostL G W Hf H σ (d env) Q → ta σ H Q
def TJT (G : Ga) (W : WX) (tt : TT) (d : Env → R Bool) : Prop := ∀ (H0 Hf H : Hp) (env : Env) (σ : L2.St) (Q : Bool → Hp → Prop), Same Hf H → EnvOk G H0 Hf H env σ → PostT G W Hf H σ (d env) Q → tt σ H Q
structure JE (G : Ga) (X : Cx) (W : WX) (e : Expr) (d : Env → R PV) : Prop where
  ex : ∃ te, PE X e te ∧ TJ G W te d
structure JA (G : Ga) (X : Cx) (W : WX) (es : List Expr) (d : Env → R (List PV)) : Prop where
  ex : ∃ ta, PA X es ta ∧ TJA G W ta d
structure JT (G : Ga) (X : Cx) (W : WX) (e : Expr) (d : Env → R Bool) : Prop where
  ex : ∃ tt, PT X e tt ∧ TJT G W tt d
structure JW (G : Ga) (X : Cx) (W : WX) (e : Expr) (d : Env → R Bool) : Prop where
  ex : ∃ tt, PW X e tt ∧ TJT G W tt d
structure StOk (G : Ga) (Hf0 H0 Hf H : Hp) (env : Env) (σ : L2.St) : Prop where
  gr : Gr Hf0 H0 Hf H
  env : EnvOk G H0 Hf H env σ
def PostS (G : Ga) (W : WX) (D : Ends) (Hf0 H0 Hf : Hp) (f : F) : Prop := match f with
  | .nx e => ∀ σ' Hf' H', StOk G Hf0 H0 Hf' H' e σ' → Same Hf Hf' → D.nx σ' H'
  | .ct e => ∀ σ' Hf' H', StOk G Hf0 H0 Hf' H' e σ' → Same Hf Hf' → D.ct σ' H'
  | .bk e => ∀ σ' Hf' H', StOk G Hf0 H0 Hf' H' e σ' → Same Hf Hf' → D.bk σ' H'
  | .rt p => ∀ v Hf' H', Gr Hf0 H0 Hf' H' → Same Hf Hf' → Rep G Hf' p v → D.rt v H'
  | .er e c fs => ∀ σ' Hf' H' d, StOk G Hf0 H0 Hf' H' e σ' → Same Hf Hf' → ErD G Hf' H' fs d → W (.ref (G.cm c)) d σ' H'
  | .bad => False
def TSJ (G : Ga) (W : WX) (ts : TS) (d : Env → F) : Prop := ∀ (Hf0 H0 Hf H : Hp) (env : Env) (σ : L2.St) (D : Ends), StOk G Hf0 H0 Hf H env σ → PostS G W D Hf0 H0 Hf (d env) → ts D σ H
structure JS (G : Ga) (X : Cx) (W : WX) (st : Stmt) (d : Env → F) : Prop where
  ex : ∃ ts, PS X st ts ∧ TSJ G W ts d
structure JSs (G : Ga) (X : Cx) (W : WX) (st : List Stmt) (d : Env → F) : Prop where
  ex : ∃ ts, PSs X st ts ∧ TSJ G W ts d
section
variable {G : Ga} {W : WX} {Hf0 H0 Hf H Hf' H' : Hp} {env : Env} {σ : L2.St} {D : Ends}
theorem StOk.grow (h : StOk G Hf0 H0 Hf H env σ) (g : Gr Hf H Hf' H') : StOk G Hf0 H0 Hf' H' env σ := ⟨h.gr.trans g, h.env.grow g⟩
theorem PostS.step {f : F} (h : PostS G W D Hf0 H0 Hf f) (s : Same Hf Hf') : PostS G W D Hf0 H0 Hf' f := by
  cases f with
  | nx e => exact fun a b c x y => h a b c x (s.trans y)
  | ct e => exact fun a b c x y => h a b c x (s.trans y)
  | bk e => exact fun a b c x y => h a b c x (s.trans y)
  | rt p => exact fun a b c x y z => h a b c x (s.trans y) z
  | er e c fs => exact fun a b c d x y z => h a b c d x (s.trans y) z
  | bad => exact h
end
end J

namespace J
open PySem.Spec PySem PyProof.Rows
open L2 hiding St Takes XE CX takes_of PMk MkP ps_raise mk_of ps_try_as ps_try_many pmk_own passAt passes_call takes0 passL
open L2N hiding St
open Bp (OpS R2S tOpS pe_opS pe_cmpS pt_cmpS)

structure Bd (n : Nat) (i : Int) : Prop where
  lt : i.natAbs < 2 ^ n
theorem Bd.log {n : Nat} {i : Int} (h : Bd n i) (hn : 0 < n) : i.natAbs.log2 < n := PySem.Flt.log2_lt_of hn h.lt
theorem Bd.mono {n m : Nat} {i : Int} (h : Bd n i) (l : n ≤ m) : Bd m i := ⟨Nat.lt_of_lt_of_le h.lt (Nat.pow_le_pow_right (by decide) l)⟩
noncomputable instance (n : Nat) (i : Int) : Decidable (Bd n i) := Classical.propDecidable _

section
variable {G : Ga} {X : Cx} {W : WX} {α β : Type} {Rl : Hp → α → β → Prop} {H0 Hf H Hf' H' : Hp} {env : Env} {σ : L2.St} {i : Nat} {x : Str} {pos : Pos} {e a b c : Expr} {d da db dc : Env → R PV} {es : List Expr}
def rdV (i : Nat) (env : Env) : R PV := match env.at i with | .val p => .ok p | .slf c fs => .ok (.obj c fs) | _ => .bad
theorem je_var {pos : Pos} (i : Nat) (hN : X.N[i]? = some x := by rfl) (hv : Vis X.env.scope x := by first | exact Or.inl rfl | exact Or.inr (Or.inl rfl) | exact Or.inr (Or.inr rfl)) (hd : (x == ("__debug__" : Str)) = false := by decide) (hcd : (x == ("__classdict__" : Str)) = false := by decide) :
    JE G X W (.Name x pos) (rdV i) := ⟨_, pe_var hN hv hd hcd, fun H0 Hf H env σ Q s E h => by
  unfold rdV at h
  cases e : env.at i with
  | val p =>
    rw [e] at h
    obtain ⟨v, ev, r⟩ := E.val e
    exact ⟨v, ev, h v Hf H (Gr.refl s) r⟩
  | slf c fs =>
    rw [e] at h
    have q := E.get i
    rw [e] at q
    obtain ⟨a, ea, _, r⟩ := q
    exact ⟨_, ea, h _ Hf H (Gr.refl s) r⟩
  | _ => rw [e] at h; exact h.elim⟩
theorem je_const {v : V} {p : PV} (h : PE X e (tC v)) (r : ∀ Hf, Rep G Hf p v) : JE G X W e (fun _ => .ok p) := ⟨_, h, fun H0 Hf H env σ Q s E k => k v Hf H (Gr.refl s) (r Hf)⟩
theorem je_int {i j pos} : JE G X W (.Constant (.int i) j pos) (fun _ => .ok (.int i)) := je_const pe_int fun _ => .int i
theorem je_bl {b j pos} : JE G X W (.Constant (.bool b) j pos) (fun _ => .ok (.bl b)) := je_const pe_bl fun _ => .bl b
theorem je_non {j pos} : JE G X W (.Constant .none j pos) (fun _ => .ok .non) := je_const pe_non fun _ => .non
theorem je_str {x j pos} : JE G X W (.Constant (.str x) j pos) (fun _ => .ok (.str x)) := je_const pe_str fun _ => .str x
theorem je_glob {x : Str} {v : V} {u : Value} {p : PV} {pos : Pos} (hm : X.mg x = some u) (r : RelV v u) (rp : ∀ Hf, Rep G Hf p v) (hg : Gl X x := by rfl) (hd : (x == ("__debug__" : Str)) = false := by decide) : JE G X W (.Name x pos) (fun _ => .ok p) := je_const (pe_glob hg hm r hd) rp
def OpJ (G : Gb) (X : Cx) (W : WX) (g : Value → Value → Sem Value) (f : PV → PV → R PV) : Prop :=
  ∃ r : R2S, OpS X g r ∧ ∀ (Hf H : Hp) (σ : L2.St) (x y : V) (a b : PV) (Q : VK), Same Hf H → Rep G Hf a x → Rep G Hf b y → Post G W Hf H σ (f a b) Q → r σ x y H Q
def bin2 (f : PV → PV → R PV) (da db : Env → R PV) (env : Env) : R PV := (da env).bind fun a => (db env).bind fun b => f a b
theorem tj_bin {ta tb : TE} {r : R2S} {f : PV → PV → R PV} (ha : TJ G W ta da) (hb : TJ G W tb db) (k : ∀ (Hf H : Hp) (σ : L2.St) (x y : V) (a b : PV) (Q : VK), Same Hf H → Rep G Hf a x → Rep G Hf b y → Post G W Hf H σ (f a b) Q → r σ x y H Q) :
    TJ G W (tOpS r ta tb) (bin2 f da db) := fun H0 Hf H env σ Q s E h => by
  refine ha H0 Hf H env σ _ s E (PostG.bind h fun a x Hf1 H1 _ g1 r1 h1 => ?_)
  refine hb H0 Hf1 H1 env σ _ g1.sub (E.grow g1) (PostG.bind h1 fun b y Hf2 H2 _ g2 r2 h2 => ?_)
  exact k Hf2 H2 σ x y a b Q g2.sub (r1.mono g2.fz) r2 h2
theorem je_op {op : Operator} {f : PV → PV → R PV} (ho : OpJ G X W (binaryOp op) f) (ha : JE G X W a da) (hb : JE G X W b db) : JE G X W (.BinOp a op b pos) (bin2 f da db) := by
  obtain ⟨r, o, k⟩ := ho
  obtain ⟨ta, pa, ja⟩ := ha
  obtain ⟨tb, pb, jb⟩ := hb
  exact ⟨_, pe_opS o pa pb, tj_bin ja jb k⟩
theorem je_cmp {op : CmpOp} {f : PV → PV → R PV} (ho : OpJ G X W (compareOp op) f) (ha : JE G X W a da) (hb : JE G X W b db) (hm : behindInMarks op b = false := by first | exact nomark _ | rfl) : JE G X W (.Compare a [op] [b] pos) (bin2 f da db) := by
  obtain ⟨r, o, k⟩ := ho
  obtain ⟨ta, pa, ja⟩ := ha
  obtain ⟨tb, pb, jb⟩ := hb
  exact ⟨_, pe_cmpS o pa pb hm, tj_bin ja jb k⟩
def asB (p : PV) : R Bool := match p with | .bl b => .ok b | _ => .bad
def toB (d : Env → R PV) (env : Env) : R Bool := (d env).bind asB
theorem asB_bl {G : Gb} {p : PV} {Q : Bool → Hp → Prop} {v : V} (r : Rep G Hf p v) (s : Same Hf H) (h : PostT G W Hf H σ (asB p) Q) : ∃ k, v = .bl k ∧ Q k H := by
  cases r with
  | bl b => exact ⟨b, rfl, h b Hf H (Gr.refl s) rfl⟩
  | _ => exact h.elim
theorem jt_cmp {op : CmpOp} {f : PV → PV → R PV} (ho : OpJ G X W (compareOp op) f) (ha : JE G X W a da) (hb : JE G X W b db) (hm : behindInMarks op b = false := by first | exact nomark _ | rfl) : JT G X W (.Compare a [op] [b] pos) (toB (bin2 f da db)) := by
  obtain ⟨r, o, k⟩ := ho
  obtain ⟨ta, pa, ja⟩ := ha
  obtain ⟨tb, pb, jb⟩ := hb
  refine ⟨_, pt_cmpS o pa pb hm, fun H0 Hf H env σ Q s E h => tj_bin ja jb k H0 Hf H env σ _ s E (PostG.bind h fun p v Hf1 H1 _ g1 r1 h1 => asB_bl r1 g1.sub h1)⟩
theorem jt_val (h : JE G X W e d) (he : ∀ whole, isTrue e X.env whole = (do let v ← whole; standAt e.pos; holding [v] (truthy v)) := by intro _; rfl) : JT G X W e (toB d) := by
  obtain ⟨te, pe, je⟩ := h
  exact ⟨_, pt_val pe he, fun H0 Hf H env σ Q s E h => je H0 Hf H env σ _ s E (PostG.bind h fun p v Hf1 H1 _ g1 r1 h1 => asB_bl r1 g1.sub h1)⟩
def truP (p : PV) : R Bool := match p with | .non => .ok false | .bl b => .ok b | .int i => .ok (i != 0) | .lst l => .ok (!l.isEmpty) | .tup l => .ok (!l.isEmpty) | .str x => if x.length ≤ sizeLine then .ok ((x.length : Int) != 0) else .bad | _ => .bad
theorem isEmpty_reps {G : Gb} {l : List PV} {vs : List V} (r : Reps G Hf l vs) : vs.isEmpty = l.isEmpty := by cases r <;> rfl
theorem truP_V {G : Gb} {p : PV} {Q : Bool → Hp → Prop} {v : V} (r : Rep G Hf p v) (s : Same Hf H) (h : PostT G W Hf H σ (truP p) Q) : ∃ k, TruV G.K v H k ∧ Q k H := by
  cases r with
  | non => exact ⟨_, rfl, h false Hf H (Gr.refl s) rfl⟩
  | bl b => exact ⟨_, rfl, h b Hf H (Gr.refl s) rfl⟩
  | int i => exact ⟨_, rfl, h _ Hf H (Gr.refl s) rfl⟩
  | str x =>
    unfold truP at h
    by_cases l : x.length ≤ sizeLine
    · simp only [if_pos l] at h
      exact ⟨_, ⟨l, rfl⟩, h _ Hf H (Gr.refl s) rfl⟩
    · simp only [if_neg l] at h
      exact h.elim
  | tup t r => exact ⟨_, .inr (.inl ⟨_, Bp.seqT s t, rfl⟩), h _ Hf H (Gr.refl s) (by rw [isEmpty_reps r])⟩
  | lst t r => exact ⟨_, .inl ⟨_, s.seq t, rfl⟩, h _ Hf H (Gr.refl s) (by rw [isEmpty_reps r])⟩
  | _ => exact h.elim
def toTru (d : Env → R PV) (env : Env) : R Bool := (d env).bind truP
theorem jt_tru (h : JE G X W e d) (hK : X.K = G.K) (he : ∀ whole, isTrue e X.env whole = (do let v ← whole; standAt e.pos; holding [v] (truthy v)) := by intro _; rfl) : JT G X W e (toTru d) := by
  obtain ⟨te, pe, je⟩ := h
  exact ⟨_, pt_truth pe he, fun H0 Hf H env σ Q s E h => je H0 Hf H env σ _ s E (PostG.bind h fun p v Hf1 H1 _ g1 r1 h1 => by rw [hK]; exact truP_V r1 g1.sub h1)⟩
def notT (d : Env → R Bool) (env : Env) : R Bool := (d env).bind fun b => .ok (!b)
def andT (d u : Env → R Bool) (env : Env) : R Bool := (d env).bind fun b => if b = true then u env else .ok false
def orT (d u : Env → R Bool) (env : Env) : R Bool := (d env).bind fun b => if b = true then .ok true else u env
variable {p q : Env → R Bool} {rest : List Expr}
theorem jt_not (h : JT G X W a p) : JT G X W (.UnaryOp .Not a pos) (notT p) := by
  obtain ⟨t, pt, jt⟩ := h
  exact ⟨_, pt_not pt, fun H0 Hf H env σ Q s E h => jt H0 Hf H env σ _ s E (PostG.bind h fun b v Hf1 H1 _ g1 r1 h1 => by subst r1; exact h1 _ Hf1 H1 (Gr.refl g1.sub) rfl)⟩
theorem tj_and {t u : TT} (h : TJT G W t p) (k : TJT G W u q) : TJT G W (tAnd t u) (andT p q) := fun H0 Hf H env σ Q s E h1 =>
  h H0 Hf H env σ _ s E (PostG.bind h1 fun b v Hf1 H1 _ g1 r1 h2 => by
    subst r1
    cases v with
    | true =>
      rw [if_pos rfl] at h2
      rw [if_pos rfl]
      exact k H0 Hf1 H1 env σ Q g1.sub (E.grow g1) h2
    | false =>
      rw [if_neg Bool.false_ne_true] at h2
      rw [if_neg Bool.false_ne_true]
      exact h2 _ Hf1 H1 (Gr.refl g1.sub) rfl)
theorem tj_or {t u : TT} (h : TJT G W t p) (k : TJT G W u q) : TJT G W (tOr t u) (orT p q) := fun H0 Hf H env σ Q s E h1 =>
  h H0 Hf H env σ _ s E (PostG.bind h1 fun b v Hf1 H1 _ g1 r1 h2 => by
    subst r1
    cases v with
    | true =>
      rw [if_pos rfl] at h2
      rw [if_pos rfl]
      exact h2 _ Hf1 H1 (Gr.refl g1.sub) rfl
    | false =>
      rw [if_neg Bool.false_ne_true] at h2
      rw [if_neg Bool.false_ne_true]
      exact k H0 Hf1 H1 env σ Q g1.sub (E.grow g1) h2)
theorem jw_and1 (h : JT G X W a p) : JW G X W (.BoolOp .And [a] pos) p := let ⟨t, pt, jt⟩ := h.ex; ⟨_, pw_and1 pt, jt⟩
theorem jw_or1 (h : JT G X W a p) : JW G X W (.BoolOp .Or [a] pos) p := let ⟨t, pt, jt⟩ := h.ex; ⟨_, pw_or1 pt, jt⟩
theorem jw_and (h : JT G X W a p) (k : JW G X W (.BoolOp .And (b :: rest) pos) q) : JW G X W (.BoolOp .And (a :: b :: rest) pos) (andT p q) := let ⟨t, pt, jt⟩ := h.ex; let ⟨u, pu, ju⟩ := k.ex; ⟨_, pw_and pt pu, tj_and jt ju⟩
theorem jw_or (h : JT G X W a p) (k : JW G X W (.BoolOp .Or (b :: rest) pos) q) : JW G X W (.BoolOp .Or (a :: b :: rest) pos) (orT p q) := let ⟨t, pt, jt⟩ := h.ex; let ⟨u, pu, ju⟩ := k.ex; ⟨_, pw_or pt pu, tj_or jt ju⟩
theorem jt_w (h : JW G X W e p) : JT G X W e p := let ⟨t, pt, jt⟩ := h.ex; ⟨_, pt.pt, jt⟩
def andV (d u : Env → R PV) (env : Env) : R PV := ((d env).bind asB).bind fun b => if b = true then u env else .ok (.bl false)
def orV (d u : Env → R PV) (env : Env) : R PV := ((d env).bind asB).bind fun b => if b = true then .ok (.bl true) else u env
def notV (d : Env → R PV) (env : Env) : R PV := ((d env).bind asB).bind fun b => .ok (.bl (!b))
theorem bindB {G : Gb} {r : R PV} {k : Bool → R PV} {Q : VK} {Q' : VK} (h : Post G W Hf H σ ((r.bind asB).bind k) Q) (c : ∀ b Hf' H', Gr Hf H Hf' H' → Post G W Hf' H' σ (k b) Q → Q' (.bl b) H') : Post G W Hf H σ r Q' := by
  cases r with
  | ok p =>
    intro v A B g rr
    cases p with
    | bl b =>
      cases rr
      exact c b A B g (PostG.grow h g)
    | _ => exact h.elim
  | er c fs => exact h
  | bad => exact h
theorem je_one {op} (h : JE G X W a d) : JE G X W (.BoolOp op [a] pos) d := let ⟨t, pt, jt⟩ := h.ex; ⟨_, pe_one pt, jt⟩
theorem je_and (h : JE G X W a da) (k : JE G X W (.BoolOp .And (b :: rest) pos) db) : JE G X W (.BoolOp .And (a :: b :: rest) pos) (andV da db) := by
  obtain ⟨t, pt, jt⟩ := h
  obtain ⟨u, pu, ju⟩ := k
  refine ⟨_, pe_and pt pu, fun H0 Hf H env σ Q s E h => jt H0 Hf H env σ _ s E (bindB h fun b Hf1 H1 g1 h1 => ⟨b, rfl, ?_⟩)⟩
  cases b with
  | true => rw [if_pos rfl] at h1 ⊢; exact ju H0 Hf1 H1 env σ Q g1.sub (E.grow g1) h1
  | false => rw [if_neg Bool.false_ne_true] at h1 ⊢; exact h1 _ Hf1 H1 (Gr.refl g1.sub) (.bl _)
theorem je_or (h : JE G X W a da) (k : JE G X W (.BoolOp .Or (b :: rest) pos) db) : JE G X W (.BoolOp .Or (a :: b :: rest) pos) (orV da db) := by
  obtain ⟨t, pt, jt⟩ := h
  obtain ⟨u, pu, ju⟩ := k
  refine ⟨_, pe_or pt pu, fun H0 Hf H env σ Q s E h => jt H0 Hf H env σ _ s E (bindB h fun b Hf1 H1 g1 h1 => ⟨b, rfl, ?_⟩)⟩
  cases b with
  | true => rw [if_pos rfl] at h1 ⊢; exact h1 _ Hf1 H1 (Gr.refl g1.sub) (.bl _)
  | false => rw [if_neg Bool.false_ne_true] at h1 ⊢; exact ju H0 Hf1 H1 env σ Q g1.sub (E.grow g1) h1
def iteE (t : Env → R Bool) (d u : Env → R PV) (env : Env) : R PV := (t env).bind fun b => if b = true then d env else u env
def UnJ (G : Gb) (X : Cx) (g : Value → Sem Value) (f : PV → R PV) : Prop := ∃ r, UnR X g r ∧ ∀ (W : WX) (Hf H : Hp) (σ : L2.St) (x : V) (a : PV) (Q : VK), Same Hf H → Rep G Hf a x → Post G W Hf H σ (f a) Q → r x H Q
def un1 (f : PV → R PV) (d : Env → R PV) (env : Env) : R PV := (d env).bind f
theorem je_un {op : UnaryOp} {f : PV → R PV} (ho : UnJ G X (unaryOp op) f) (h : JE G X W a d) : JE G X W (.UnaryOp op a pos) (un1 f d) := by
  obtain ⟨r, o, k⟩ := ho
  obtain ⟨t, pt, jt⟩ := h
  exact ⟨_, pe_un o pt, fun H0 Hf H env σ Q s E h => jt H0 Hf H env σ _ s E (PostG.bind h fun p v Hf1 H1 _ g1 r1 h1 => k W Hf1 H1 σ v p Q g1.sub r1 h1)⟩
def args0 (_ : Env) : R (List PV) := .ok []
def argsC (d : Env → R PV) (r : Env → R (List PV)) (env : Env) : R (List PV) := (d env).bind fun p => (r env).bind fun l => .ok (p :: l)
variable {dl : Env → R (List PV)}
theorem ja_nil : JA G X W [] args0 := ⟨_, pa_nil, fun H0 Hf H env σ Q s E h => h [] Hf H (Gr.refl s) .nil⟩
theorem ja_cons (h : JE G X W e d) (k : JA G X W es dl) (hs : starEach (e :: es) X.env = (false, eval e X.env) :: starEach es X.env := by rfl) : JA G X W (e :: es) (argsC d dl) := by
  obtain ⟨t, pt, jt⟩ := h
  obtain ⟨u, pu, ju⟩ := k
  refine ⟨_, pa_cons pt pu hs, fun H0 Hf H env σ Q s E h => jt H0 Hf H env σ _ s E (PostG.bind h fun p v Hf1 H1 _ g1 r1 h1 => ?_)⟩
  refine ju H0 Hf1 H1 env σ _ g1.sub (E.grow g1) (PostG.bind h1 fun l vs Hf2 H2 _ g2 r2 h2 => ?_)
  exact h2 (v :: vs) Hf2 H2 (Gr.refl g2.sub) (.cons (r1.mono g2.fz) r2)
def tupE (d : Env → R (List PV)) (env : Env) : R PV := (d env).bind fun l => if l.length ≤ 1000 then .ok (.tup l) else .bad
def lstE (d : Env → R (List PV)) (env : Env) : R PV := (d env).bind fun l => if l.length ≤ 1000 then .ok (.lst l) else .bad
theorem line1000 {n : Nat} (h : n ≤ 1000) : n ≤ sizeLine := Nat.le_trans h (by decide)
theorem je_tup {x1} (h : JA G X W es dl) : JE G X W (.Tuple es x1 pos) (tupE dl) := by
  obtain ⟨t, pt, jt⟩ := h
  refine ⟨_, pe_tup pt, fun H0 Hf H env σ Q s E h => jt H0 Hf H env σ _ s E (PostG.bind h fun l vs Hf1 H1 _ g1 r1 h1 => ?_)⟩
  by_cases hl : l.length ≤ 1000
  · rw [if_pos hl] at h1
    refine ⟨line1000 (r1.length ▸ hl), fun p hp => h1 _ _ _ (Gr.one (o := .tup vs) g1.sub hp) (.tup (SqT.of upd_same) (r1.mono (Same.new (none_back g1.sub hp))))⟩
  · rw [if_neg hl] at h1
    exact h1.elim
theorem je_lst (h : JA G X W es dl) : JE G X W (.List es pos) (lstE dl) := by
  obtain ⟨t, pt, jt⟩ := h
  refine ⟨_, pe_lst pt, fun H0 Hf H env σ Q s E h => jt H0 Hf H env σ _ s E (PostG.bind h fun l vs Hf1 H1 _ g1 r1 h1 => ?_)⟩
  by_cases hl : l.length ≤ 1000
  · rw [if_pos hl] at h1
    refine ⟨line1000 (r1.length ▸ hl), fun p hp => h1 _ _ _ (Gr.one (o := .lst vs) g1.sub hp) (.lst (SqL.of upd_same) (r1.mono (Same.new (none_back g1.sub hp))))⟩
  · rw [if_neg hl] at h1
    exact h1.elim
def CallJ (G : Gb) (X : Cx) (g : Value) (f : List PV → R PV) : Prop := ∃ r, CallR X g r ∧ ∀ (W : WX) (Hf H : Hp) (σ : L2.St) (vs : List V) (l : List PV) (Q : VK), Same Hf H → Reps G Hf l vs → Post G W Hf H σ (f l) Q → r vs H Q
def callE (f : List PV → R PV) (d : Env → R (List PV)) (env : Env) : R PV := (d env).bind f
variable {p0 : Pos}
theorem je_callB {id : String} {f : List PV → R PV} (hc : CallJ G X (.builtin id) f) (hm : X.mg x = none) (hv : bootBuiltins x = some (.builtin id)) (ha : JA G X W (e :: es) dl) (hg : Gl X x := by rfl) (hn : x ≠ "__name__" := by decide) (hdb : (x == ("__debug__" : Str)) = false := by decide)
    (he : starEach (e :: es) X.env = (false, eval e X.env) :: starEach es X.env := by rfl) (hpl : (backTo pos (starEach es X.env)).any (·.1) = false := by rfl) : JE G X W (.Call (.Name x p0) (e :: es) [] pos) (callE f dl) := by
  obtain ⟨r, c, k⟩ := hc
  obtain ⟨t, pt, jt⟩ := ha
  exact ⟨_, pe_callB c hg hm hv pt hn hdb he hpl, fun H0 Hf H env σ Q s E h => jt H0 Hf H env σ _ s E (PostG.bind h fun l vs Hf1 H1 _ g1 r1 h1 => k W Hf1 H1 σ vs l Q g1.sub r1 h1)⟩
theorem je_callT {T : String} {f : List PV → R PV} (hc : CallJ G X (.type T) f) (hm : X.mg x = none) (hv : bootBuiltins x = some (.type T)) (ha : JA G X W (e :: es) dl) (hg : Gl X x := by rfl) (hn : x ≠ "__name__" := by decide) (hdb : (x == ("__debug__" : Str)) = false := by decide)
    (he : starEach (e :: es) X.env = (false, eval e X.env) :: starEach es X.env := by rfl) (hpl : (backTo pos (starEach es X.env)).any (·.1) = false := by rfl) : JE G X W (.Call (.Name x p0) (e :: es) [] pos) (callE f dl) := by
  obtain ⟨r, c, k⟩ := hc
  obtain ⟨t, pt, jt⟩ := ha
  exact ⟨_, pe_callTy c hg hm hv pt hn hdb he hpl, fun H0 Hf H env σ Q s E h => jt H0 Hf H env σ _ s E (PostG.bind h fun l vs Hf1 H1 _ g1 r1 h1 => k W Hf1 H1 σ vs l Q g1.sub r1 h1)⟩
def spJ (G : Gb) (f : List PV → R PV) : Sp := fun vs H Q E => ∃ Hf l, Same Hf H ∧ Reps G Hf l vs ∧ PostG G (fun cls d _ H => E cls d H) (fun Hf p v => Rep G Hf p v) Hf H [] (f l) Q
theorem post_E {G : Gb} {E : L2.St → XK} {r : R PV} {Q : VK} (h : Post G (fun cls d σ H => E σ cls d H) Hf H σ r Q) : PostG G (fun cls d _ H => (E σ) cls d H) (fun Hf p v => Rep G Hf p v) Hf H [] r Q := by
  cases r with
  | ok p => exact h
  | er c fs => exact h
  | bad => exact h
variable {k : Nat} {ps : List Str} {f : List PV → R PV}
theorem je_call (D : Bp.Def X.prog X.w X.K X.mg X.base k x ps (spJ G f)) (hr : Room k X.A) (tk : Takes X W) (ha : JA G X W (e :: es) dl) (hg : Gl X x := by rfl) (hdb : (x == ("__debug__" : Str)) = false := by decide)
    (he : starEach (e :: es) X.env = (false, eval e X.env) :: starEach es X.env := by rfl) (hpl : (backTo pos (starEach es X.env)).any (·.1) = false := by rfl) : JE G X W (.Call (.Name x p0) (e :: es) [] pos) (callE f dl) := by
  obtain ⟨t, pt, jt⟩ := ha
  exact ⟨_, Bp.pe_callD D hr tk pt hg hdb he hpl, fun H0 Hf H env σ Q s E h => jt H0 Hf H env σ _ s E (PostG.bind h fun l vs Hf1 H1 _ g1 r1 h1 => ⟨Hf1, l, g1.sub, r1, post_E (E := WE W) h1⟩)⟩
variable {C : Addr} {cc : Nat} {m : Str} {o : Expr} {apos : Pos}
def fldP (m : Str) (p : PV) : R PV := match p with
  | .obj c fs => match fs.lookup m with | some q => .ok q | none => .bad
  | _ => .bad
def fldE (cs : List Nat) (m : Str) (d : Env → R PV) (env : Env) : R PV := (d env).bind fun p => match p with
  | .obj c fs => if c ∈ cs then fldP m (.obj c fs) else .bad
  | _ => .bad
theorem je_fld {cs : List Nat} {m : Str} {pos : Pos} (hK : X.K = G.K) (hc : ∀ c ∈ cs, Cls G.K (G.cm c) ∧ NoAttr G.K (G.cm c) m) (ho : JE G X W o d)
    (hb : attributeBase o m X.env (eval o X.env) = eval o X.env := by rfl) : JE G X W (.Attribute o m pos) (fldE cs m d) := by
  obtain ⟨t, pt, jt⟩ := ho
  refine ⟨_, pe_fld pt hb, fun H0 Hf H env σ Q s E h => jt H0 Hf H env σ _ s E (PostG.bind h fun p v Hf1 H1 _ g1 r1 h1 => ?_)⟩
  cases r1 with
  | obj ho hf =>
    rename_i c fs a dx vfs _
    by_cases z : c ∈ cs
    · simp only [if_pos z] at h1
      unfold fldP at h1
      cases e : fs.lookup m with
      | none => simp only [e] at h1; exact h1.elim
      | some q =>
        simp only [e] at h1
        obtain ⟨u, eu, ru⟩ := hf.lookup e
        obtain ⟨c1, c2⟩ := hc c z
        exact ⟨a, _, dx, vfs, u, rfl, g1.sub _ _ ho, hK ▸ c1, hK ▸ c2, eu, h1 u Hf1 H1 (Gr.refl g1.sub) ru⟩
    · simp only [if_neg z] at h1
      exact h1.elim
  | _ => exact h1.elim
def ixP (a b : PV) : R PV := match b with
  | .int i => match a with
    | .tup l => match atI l i with | some p => .ok p | none => .bad
    | .lst l => match atI l i with | some p => .ok p | none => .bad
    | _ => .bad
  | _ => .bad
theorem reps_atI {G : Gb} {l : List PV} {vs : List V} {i : Int} {p : PV} (r : Reps G Hf l vs) (h : atI l i = some p) : ∃ v, atI vs i = some v ∧ Rep G Hf p v := by
  unfold atI at h ⊢
  rw [r.length] at h
  cases e : ixN vs.length i with
  | none => rw [e] at h; cases h
  | some j =>
    rw [e] at h
    exact r.get h
theorem je_ix (hK : X.K = G.K) (ha : JE G X W a da) (hb : JE G X W b db) (hs : PlainIx b := by exact fun _ _ => rfl) : JE G X W (.Subscript a b pos) (bin2 ixP da db) := by
  obtain ⟨t, pt, jt⟩ := ha
  obtain ⟨u, pu, ju⟩ := hb
  refine ⟨_, pe_ix ix_seq pt pu hs, fun H0 Hf H env σ Q s E h => jt H0 Hf H env σ _ s E (PostG.bind h fun p v Hf1 H1 _ g1 r1 h1 => ?_)⟩
  refine ju H0 Hf1 H1 env σ _ g1.sub (E.grow g1) (PostG.bind h1 fun q w Hf2 H2 _ g2 r2 h2 => ?_)
  have r1' := r1.mono g2.fz
  unfold ixP at h2
  cases r2 with
  | int i =>
    cases r1' with
    | tup ht hr =>
      rename_i l a vs _
      simp only at h2
      cases e : atI l i with
      | none => simp only [e] at h2; exact h2.elim
      | some z =>
        simp only [e] at h2
        obtain ⟨zv, e2, rz⟩ := reps_atI hr e
        exact .inr (.inl ⟨_, _, _, zv, rfl, rfl, by rw [hK]; exact Bp.seqT g2.sub ht, e2, h2 zv Hf2 H2 (Gr.refl g2.sub) rz⟩)
    | lst ht hr =>
      rename_i l a vs _
      simp only at h2
      cases e : atI l i with
      | none => simp only [e] at h2; exact h2.elim
      | some z =>
        simp only [e] at h2
        obtain ⟨zv, e2, rz⟩ := reps_atI hr e
        exact .inl ⟨_, _, _, zv, rfl, rfl, by rw [hK]; exact g2.sub.seq ht, e2, h2 zv Hf2 H2 (Gr.refl g2.sub) rz⟩
    | _ => exact h2.elim
  | _ => exact h2.elim
end
end J

namespace J
open PySem.Spec PySem PyProof.Rows
open L2 hiding St Takes XE CX takes_of PMk MkP ps_raise mk_of ps_try_as ps_try_many pmk_own passAt passes_call takes0 passL
open L2N hiding St
open RZ

section
variable {G : Ga} {X : Cx} {W : WX} {Hf0 H0 Hf H Hf' H' : Hp} {env : Env} {σ : L2.St} {i : Nat} {x : Str} {pos : Pos} {e a b c : Expr} {d da db dc : Env → R PV} {es : List Expr} {st : Stmt} {sts : List Stmt} {f g : Env → F} {p q : Env → R Bool} {dl : Env → R (List PV)}
def nextF (env : Env) : F := .nx env
def seqF (f g : Env → F) (env : Env) : F := match f env with | .nx e => g e | .rt p => .rt p | .er e c fs => .er e c fs | .bk e => .bk e | .ct e => .ct e | .bad => .bad
theorem jss_nil : JSs G X W [] nextF := ⟨_, pss_nil, fun Hf0 H0 Hf H env σ D S h => h σ Hf H S (fun _ _ h => h)⟩
theorem jss_one (h : JS G X W st f) : JSs G X W [st] f := let ⟨t, pt, jt⟩ := h.ex; ⟨_, pss_one pt, jt⟩
theorem jss_cons (h : JS G X W st f) (k : JSs G X W sts g) : JSs G X W (st :: sts) (seqF f g) := by
  obtain ⟨t, pt, jt⟩ := h
  obtain ⟨u, pu, ju⟩ := k
  refine ⟨_, pss_cons pt pu, fun Hf0 H0 Hf H env σ D S h => jt Hf0 H0 Hf H env σ _ S ?_⟩
  unfold seqF at h
  cases e : f env with
  | nx e' =>
    rw [e] at h
    exact fun σ' Hf' H' S' s' => ju Hf0 H0 Hf' H' e' σ' D S' (h.step s')
  | _ => rw [e] at h; exact h
theorem js_break : JS G X W (.Break pos) (fun env => .bk env) := ⟨_, ps_break, fun Hf0 H0 Hf H env σ D S h => h σ Hf H S (fun _ _ h => h)⟩
theorem js_continue : JS G X W (.Continue pos) (fun env => .ct env) := ⟨_, ps_continue, fun Hf0 H0 Hf H env σ D S h => h σ Hf H S (fun _ _ h => h)⟩
def liftF (r : R PV) (env : Env) (k : PV → F) : F := match r with | .ok p => k p | .er c fs => .er env c fs | .bad => .bad
theorem post_lift {D : Ends} {r : R PV} {k : PV → F} {Q : VK} (S : StOk G Hf0 H0 Hf H env σ) (h : PostS G W D Hf0 H0 Hf (liftF r env k))
    (c : ∀ p v Hf' H', Gr Hf H Hf' H' → StOk G Hf0 H0 Hf' H' env σ → Rep G Hf' p v → PostS G W D Hf0 H0 Hf' (k p) → Q v H') : Post G W Hf H σ r Q := by
  cases r with
  | ok p => exact fun v Hf' H' g r => c p v Hf' H' g (S.grow g) r (PostS.step h g.fz)
  | er c' fs => exact fun Hf' H' d g r => h σ Hf' H' d (S.grow g) g.fz r
  | bad => exact h
def retF (d : Env → R PV) (env : Env) : F := liftF (d env) env fun p => .rt p
def dropF (d : Env → R PV) (env : Env) : F := liftF (d env) env fun _ => .nx env
def setF (i : Nat) (d : Env → R PV) (env : Env) : F := liftF (d env) env fun p => .nx (env.set i (.val p))
theorem js_ret (h : JE G X W e d) : JS G X W (.Return (some e) pos) (retF d) := by
  obtain ⟨t, pt, jt⟩ := h
  exact ⟨_, ps_ret pt, fun Hf0 H0 Hf H env σ D S h => jt H0 Hf H env σ _ S.gr.sub S.env (post_lift S h fun p v Hf' H' g S' r k => k v Hf' H' S'.gr (fun _ _ h => h) r)⟩
theorem js_expr (h : JE G X W e d) (hs : swapsWith e none pos.line X.env = pure false := by rfl) : JS G X W (.Expr e pos) (dropF d) := by
  obtain ⟨t, pt, jt⟩ := h
  exact ⟨_, ps_expr pt hs, fun Hf0 H0 Hf H env σ D S h => jt H0 Hf H env σ _ S.gr.sub S.env (post_lift S h fun p v Hf' H' g S' r k => k σ Hf' H' S' (fun _ _ h => h))⟩
theorem js_set {pos' : Pos} (i : Nat) (nd : X.N.Nodup) (h : JE G X W e d) (hi : X.N[i]? = some x := by rfl) (hx : Loc X.env.scope x := by first | exact Or.inl rfl | exact Or.inr rfl) (hs : swapsWith e (some (.Name x pos')) pos.line X.env = pure false := by rfl) (hf : X.fn x = true ∨ X.env.scope.names.lookup x = some .local := by first | exact .inl rfl | exact .inr rfl) :
    JS G X W (.Assign [.Name x pos'] e pos) (setF i d) := by
  obtain ⟨t, pt, jt⟩ := h
  exact ⟨_, ps_set nd hi hx pt hs hf, fun Hf0 H0 Hf H env σ D S h => jt H0 Hf H env σ _ S.gr.sub S.env (post_lift S h fun p v Hf' H' g S' r k => k _ Hf' H' ⟨S'.gr, S'.env.setV r⟩ (fun _ _ h => h))⟩
def iteF (t : Env → R Bool) (f g : Env → F) (env : Env) : F := match t env with | .ok b => if b = true then f env else g env | .er c fs => .er env c fs | .bad => .bad
theorem js_if {sts' : List Stmt} (ht : JT G X W c p) (h : JSs G X W sts f) (k : JSs G X W sts' g) : JS G X W (.If c sts sts' pos) (iteF p f g) := by
  obtain ⟨tt, ptt, jtt⟩ := ht
  obtain ⟨t, pt, jt⟩ := h
  obtain ⟨u, pu, ju⟩ := k
  refine ⟨_, ps_if ptt pt pu, fun Hf0 H0 Hf H env σ D S h => jtt H0 Hf H env σ _ S.gr.sub S.env ?_⟩
  unfold iteF at h
  cases e : p env with
  | ok b =>
    rw [e] at h
    rintro v Hf' H' g rfl
    cases v with
    | true =>
      simp only [if_pos] at h ⊢
      exact jt Hf0 H0 Hf' H' env σ D (S.grow g) (h.step g.fz)
    | false =>
      simp only [Bool.false_eq_true, if_false] at h ⊢
      exact ju Hf0 H0 Hf' H' env σ D (S.grow g) (h.step g.fz)
  | er c' fs =>
    rw [e] at h
    exact fun Hf' H' d g r => h σ Hf' H' d (S.grow g) g.fz r
  | bad => rw [e] at h; exact h.elim
def ownF (i : Nat) (env : Env) : F := .nx (env.set i (.own []))
theorem js_own {pos' pos2 : Pos} (i : Nat) (nd : X.N.Nodup) (hi : X.N[i]? = some x := by rfl) (hx : Loc X.env.scope x := by first | exact Or.inl rfl | exact Or.inr rfl) (hs : swapsWith (.List [] pos2) (some (.Name x pos')) pos.line X.env = pure false := by rfl) (hf : X.fn x = true ∨ X.env.scope.names.lookup x = some .local := by first | exact .inl rfl | exact .inr rfl) :
    JS G X W (.Assign [.Name x pos'] (.List [] pos2) pos) (ownF i) := by
  refine ⟨_, ps_set nd hi hx (pe_lst pa_nil) hs hf, fun Hf0 H0 Hf H env σ D S h => ?_⟩
  refine ⟨Nat.zero_le _, fun a ha => ?_⟩
  have g : Gr Hf H Hf (upd H a (.lst [])) := Gr.up S.gr.sub (Same.new ha)
  have S' := S.grow g
  refine h _ Hf _ ⟨S'.gr, S'.env.set ⟨a, [], rfl, none_back S.gr.hp ha, none_back S.gr.sub ha, upd_same, .nil⟩ fun _ j hj ho hq => ?_⟩ (fun _ _ h => h)
  have q := S.env.get j
  rw [hq] at q
  cases e : env.at j with
  | own l =>
    rw [e] at q
    obtain ⟨b, vs, eb, _, _, hb, _⟩ := q
    cases eb
    rw [ha] at hb
    cases hb
  | oob c fs =>
    rw [e] at q
    obtain ⟨b, _, vs, eb, _, _, _, hb, _⟩ := q
    cases eb
    rw [ha] at hb
    cases hb
  | ownD l =>
    rw [e] at q
    obtain ⟨b, vs, eb, _, _, hb, _⟩ := q
    cases eb
    rw [ha] at hb
    cases hb
  | iol l =>
    rw [e] at q
    obtain ⟨b, vs, eb, z, _, _, hb, _⟩ := q
    cases eb
    rw [ha] at hb
    cases hb
  | io2 l =>
    rw [e] at q
    obtain ⟨b, vs, eb, z, _, _, hb, _⟩ := q
    cases eb
    rw [ha] at hb
    cases hb
  | _ => rw [e] at ho; cases ho
def frz (i : Nat) (env : Env) : Env := match env.at i with | .own l => env.set i (.val (.lst l)) | .oob c fs => env.set i (.slf c fs) | .ownD kvs => env.set i (.val (.dic kvs)) | _ => env
theorem set_same {σ : L2.St} {i : Nat} {o : Option V} (h : σ[i]? = some o) : σ.set i o = σ := by
  apply List.ext_getElem?
  intro j
  rw [List.getElem?_set]
  by_cases e : i = j
  · subst e
    rw [if_pos rfl]
    by_cases l : i < σ.length
    · rw [if_pos l, h]
    · rw [List.getElem?_eq_none (by omega)] at h
      cases h
  · rw [if_neg e]
theorem StOk.frz (S : StOk G Hf0 H0 Hf H env σ) (i : Nat) : ∃ Hf', Same Hf Hf' ∧ StOk G Hf0 H0 Hf' H (frz i env) σ := by
  have go : ∀ (a : Addr) (o : HO) (s : Sl), σ[i]? = some (some (.ref a)) → H0 a = none → Hf a = none → H a = some o → (env.at i).isOwn = true → s.isOwn = false → SlOk G H0 (upd Hf a o) H s (some (some (.ref a))) →
      ∃ Hf', Same Hf Hf' ∧ StOk G Hf0 H0 Hf' H (env.set i s) σ := fun a o s hs h0 hf hh ho hso ok => by
    refine ⟨upd Hf a o, Same.new hf, S.gr.frz h0 hf hh, ?_⟩
    have base : EnvOk G H0 (upd Hf a o) H (env.set i .no) σ := by
      refine ⟨by simp [S.env.len], fun j => ?_, fun j k b hj hk ej ek => ?_⟩
      · rw [Env.at_set]
        by_cases e : i = j ∧ j < env.length
        · rw [if_pos e]; trivial
        · rw [if_neg e]
          have q := S.env.get j
          have nij : i ≠ j := fun z => by
            subst z
            have l : ¬ i < env.length := fun w => e ⟨rfl, w⟩
            rw [List.getElem?_eq_none (by rw [← S.env.len]; omega)] at hs
            cases hs
          have away : ∀ b, (env.at j).isOwn = true → σ[j]? = some (some (.ref b)) → b ≠ a := fun b hb eb z => by
            subst z
            exact nij (S.env.dis i j b ho hb hs eb)
          cases ej : env.at j with
          | no => trivial
          | val p =>
            rw [ej] at q
            obtain ⟨v, ev, r⟩ := q
            exact ⟨v, ev, r.mono (Same.new hf)⟩
          | own l =>
            rw [ej] at q
            obtain ⟨b, vs, eb, b0, bf, bh, r⟩ := q
            exact ⟨b, vs, eb, b0, by rw [upd_ne (away b (by rw [ej]; rfl) eb)]; exact bf, bh, r.mono (Same.new hf)⟩
          | oob c fs =>
            rw [ej] at q
            obtain ⟨b, dx, vs, eb, z, b0, bf, bh, r⟩ := q
            exact ⟨b, dx, vs, eb, z, b0, by rw [upd_ne (away b (by rw [ej]; rfl) eb)]; exact bf, bh, r.mono (Same.new hf)⟩
          | slf c fs =>
            rw [ej] at q
            obtain ⟨b, eb, z, r⟩ := q
            exact ⟨b, eb, z, r.mono (Same.new hf)⟩
          | par l =>
            rw [ej] at q
            obtain ⟨b, eb, r⟩ := q
            exact ⟨b, eb, r.mono (Same.new hf)⟩
          | exc c fs =>
            rw [ej] at q
            obtain ⟨b, d, eb, xi, r⟩ := q
            exact ⟨b, d, eb, xi, r.grow (Same.new hf) (fun _ _ h => h)⟩
          | ownD l =>
            rw [ej] at q
            obtain ⟨b, vs, eb, b0, bf, bh, r⟩ := q
            exact ⟨b, vs, eb, b0, by rw [upd_ne (away b (by rw [ej]; rfl) eb)]; exact bf, bh, r.mono (Same.new hf)⟩
          | iol l =>
            rw [ej] at q
            obtain ⟨b, vs, eb, z, b0, bf, bh, r⟩ := q
            exact ⟨b, vs, eb, z, b0, by rw [upd_ne (away b (by rw [ej]; rfl) eb)]; exact bf, bh, r.mono (Same.new hf)⟩
          | io2 l =>
            rw [ej] at q
            obtain ⟨b, vs, eb, z, b0, bf, bh, r⟩ := q
            exact ⟨b, vs, eb, z, b0, by rw [upd_ne (away b (by rw [ej]; rfl) eb)]; exact bf, bh, r.mono (Same.new hf)⟩
      · rw [Env.at_set] at hj hk
        by_cases e1 : i = j ∧ j < env.length
        · rw [if_pos e1] at hj; cases hj
        · by_cases e2 : i = k ∧ k < env.length
          · rw [if_pos e2] at hk; cases hk
          · rw [if_neg e1] at hj
            rw [if_neg e2] at hk
            exact S.env.dis j k b hj hk ej ek
    have r := base.set (i := i) (s := s) (v := .ref a) ok fun z => by rw [hso] at z; cases z
    rw [List.set_set, set_same hs] at r
    exact r
  unfold J.frz
  have q := S.env.get i
  cases e : env.at i with
  | own l =>
    rw [e] at q
    obtain ⟨a, vs, ea, a0, af, ah, r⟩ := q
    exact go a _ _ ea a0 af ah (by rw [e]; rfl) rfl ⟨_, rfl, .lst (SqL.of upd_same) (r.mono (Same.new af))⟩
  | oob c fs =>
    rw [e] at q
    obtain ⟨a, dx, vs, ea, z, a0, af, ah, r⟩ := q
    exact go a _ _ ea a0 af ah (by rw [e]; rfl) rfl ⟨_, rfl, z, .obj upd_same (r.mono (Same.new af))⟩
  | ownD l =>
    rw [e] at q
    obtain ⟨a, vs, ea, a0, af, ah, r⟩ := q
    exact go a _ _ ea a0 af ah (by rw [e]; rfl) rfl ⟨_, rfl, .dic upd_same (r.mono (Same.new af))⟩
  | _ => exact ⟨Hf, fun _ _ h => h, S⟩
theorem jss_frz (i : Nat) (h : JSs G X W sts f) : JSs G X W sts (fun env => f (frz i env)) := by
  obtain ⟨t, pt, jt⟩ := h
  refine ⟨_, pt, fun Hf0 H0 Hf H env σ D S h => ?_⟩
  obtain ⟨Hf', s, S'⟩ := S.frz i
  exact jt Hf0 H0 Hf' H _ σ D S' (h.step s)
def appF (i : Nat) (d : Env → R PV) (env : Env) : F := match env.at i with
  | .own l => liftF (d env) env fun p => if l.length < 1000 then .nx (env.set i (.own (l ++ [p]))) else .bad
  | _ => .bad
theorem js_app {p1 p2 p3 : Pos} (i : Nat) (h : JE G X W e d) (hi : X.N[i]? = some x := by rfl) (hv : Vis X.env.scope x := by first | exact Or.inl rfl | exact Or.inr (Or.inl rfl) | exact Or.inr (Or.inr rfl)) (hd : (x == ("__debug__" : Str)) = false := by decide) (hcd : (x == ("__classdict__" : Str)) = false := by decide)
    (hbase : attributeBase (.Name x p1) "append" X.env (eval (.Name x p1) X.env) = eval (.Name x p1) X.env := by rfl)
    (hfew : ((backTo p3 (starEach [e] X.env)).all (fun x => !x.1) && (backToKw p3 (keywordEach [] X.env)).all (fun x => x.1.isSome) && decide ([e].length + ([] : List Keyword).length + (if ([] : List Keyword).isEmpty then 0 else 1) < 30)) = true := by rfl)
    (hline : (p2.endLine == p3.line) = true := by rfl) (hst : starEach [e] X.env = (false, eval e X.env) :: starEach [] X.env := by rfl) (hplain : (backTo p3 (starEach [] X.env)).any (·.1) = false := by rfl)
    (hs : swapsWith (.Call (.Attribute (.Name x p1) "append" p2) [e] [] p3) none pos.line X.env = pure false := by rfl) :
    JS G X W (.Expr (.Call (.Attribute (.Name x p1) "append" p2) [e] [] p3) pos) (appF i d) := by
  obtain ⟨t, pt, jt⟩ := h
  refine ⟨_, ps_expr (pe_bm PySem.F.plainAttrs_list PySem.F.slot_list_append PySem.F.type_list_append mt_append (pe_var hi hv hd hcd) (pa_cons pt pa_nil hst) hbase hfew hline hst hplain) hs, fun Hf0 H0 Hf H env σ D S h => ?_⟩
  unfold appF at h
  cases el : env.at i with
  | own l =>
    rw [el] at h
    simp only at h
    have q := S.env.get i
    rw [el] at q
    obtain ⟨a, vs, ea, a0, af, ah, r⟩ := q
    refine ⟨.ref a, ea, .inl ⟨rfl, vs, SqL.of ah⟩, ?_⟩
    refine jt H0 Hf H env σ _ S.gr.sub S.env (post_lift S h fun p v Hf' H' g S' rp k => ?_)
    have ah' := g.hp _ _ ah
    have r' := r.mono g.fz
    by_cases hl : l.length < 1000
    · rw [if_pos hl] at k
      refine ⟨a, vs, v, rfl, rfl, ah', Nat.lt_of_lt_of_le (r.length ▸ hl) (by decide), ?_⟩
      have af' : Hf' a = none := by
        have q := S'.env.get i
        rw [el, ea] at q
        obtain ⟨b, ws, eb, _, bf, _⟩ := q
        cases eb
        exact bf
      have sub' : Same Hf' (upd H' a (.lst (vs ++ [v]))) := fun b o hb => by
        rw [upd_ne (ne_of_none hb af')]
        exact S'.gr.sub _ _ hb
      refine k σ Hf' _ ⟨⟨S'.gr.fz, fun b o hb => by rw [upd_ne (ne_of_none hb a0)]; exact S'.gr.hp _ _ hb, sub', S'.gr.new⟩, ?_⟩ (fun _ _ h => h)
      have base : EnvOk G H0 Hf' (upd H' a (.lst (vs ++ [v]))) (env.set i .no) σ := by
        have E' := S'.env.forget (i := i)
        refine ⟨E'.len, fun j => ?_, E'.dis⟩
        have q := E'.get j
        have away : ∀ b, (Env.at (env.set i .no) j).isOwn = true → σ[j]? = some (some (.ref b)) → b ≠ a := fun b hb eb z => by
          subst z
          rw [Env.at_set] at hb
          by_cases e : i = j ∧ j < env.length
          · rw [if_pos e] at hb; cases hb
          · rw [if_neg e] at hb
            have := S'.env.dis i j b (by rw [el]; rfl) hb ea eb
            subst this
            exact e ⟨rfl, by
              rw [S.env.len]
              by_cases l : i < σ.length
              · exact l
              · rw [List.getElem?_eq_none (by omega)] at ea
                cases ea⟩
        cases ej : Env.at (env.set i .no) j with
        | no => trivial
        | val p => rw [ej] at q; exact q
        | own m =>
          rw [ej] at q
          obtain ⟨b, ws, eb, b0, bf, bh, rr⟩ := q
          exact ⟨b, ws, eb, b0, bf, by rw [upd_ne (away b (by rw [ej]; rfl) eb)]; exact bh, rr⟩
        | ownD m =>
          rw [ej] at q
          obtain ⟨b, ws, eb, b0, bf, bh, rr⟩ := q
          exact ⟨b, ws, eb, b0, bf, by rw [upd_ne (away b (by rw [ej]; rfl) eb)]; exact bh, rr⟩
        | iol m =>
          rw [ej] at q
          obtain ⟨b, ws, eb, z, b0, bf, bh, rr⟩ := q
          exact ⟨b, ws, eb, z, b0, bf, by rw [upd_ne (away b (by rw [ej]; rfl) eb)]; exact bh, rr⟩
        | io2 m =>
          rw [ej] at q
          obtain ⟨b, ws, eb, z, b0, bf, bh, rr⟩ := q
          exact ⟨b, ws, eb, z, b0, bf, by rw [upd_ne (away b (by rw [ej]; rfl) eb)]; exact bh, rr⟩
        | oob c fs =>
          rw [ej] at q
          obtain ⟨b, dx, ws, eb, z, b0, bf, bh, rr⟩ := q
          exact ⟨b, dx, ws, eb, z, b0, bf, by rw [upd_ne (away b (by rw [ej]; rfl) eb)]; exact bh, rr⟩
        | slf c fs => rw [ej] at q; exact q
        | par l => rw [ej] at q; exact q
        | exc c fs =>
          rw [ej] at q
          obtain ⟨b, d, eb, xi, rr⟩ := q
          refine ⟨b, d, eb, xi, ?_⟩
          cases fs with
          | nil => exact rr
          | cons u us =>
            obtain ⟨x, vfs, e1, e2, e3⟩ := rr
            refine ⟨x, vfs, e1, ?_, e3⟩
            rw [upd_ne]
            · exact e2
            · intro z
              subst z
              rw [ah'] at e2
              cases e2
      have r2 := base.set (i := i) (s := .own (l ++ [p])) (v := .ref a) ⟨a, vs ++ [v], rfl, a0, af', upd_same, r'.append (.cons rp .nil)⟩ fun _ j hj ho hq => by
        rw [Env.at_set] at ho
        by_cases e : i = j ∧ j < env.length
        · exact hj e.1.symm
        · rw [if_neg e] at ho
          exact hj (S'.env.dis j i a ho (by rw [el]; rfl) hq ea)
      rw [List.set_set, set_same ea] at r2
      exact r2
    · rw [if_neg hl] at k
      exact k.elim
  | _ => rw [el] at h; exact h.elim
end
end J

namespace J
open PySem.Spec PySem PyProof.Rows
open L2 hiding St Takes XE CX takes_of PMk MkP ps_raise mk_of ps_try_as ps_try_many pmk_own passAt passes_call takes0 passL
open L2N hiding St
open RZ

def Items (G : Gb) (Hf H : Hp) (l : List PV) (J : It) : Prop := ∃ (GG : Hp → Prop) (Y : Nat → Hp → V → Hp → Prop), Walk J l.length GG Y ∧ (∀ Hf2 H2, Same Hf Hf2 → Same Hf2 H2 → GG H2) ∧
  ∀ i Hf2 H2 x H3, i < l.length → Same Hf Hf2 → Same Hf2 H2 → Y i H2 x H3 → ∃ Hf3, Gr Hf2 H2 Hf3 H3 ∧ ∃ p, l[i]? = some p ∧ Rep G Hf3 p x
def TJI (G : Ga) (W : WX) (wi : TI) (d : Env → R (List PV)) : Prop := ∀ (H0 Hf H : Hp) (env : Env) (σ : L2.St) (R : It → Hp → Prop), Same Hf H → EnvOk G H0 Hf H env σ →
  PostG G W (fun Hf l J => Items G Hf Hf l J) Hf H σ (d env) R → wi σ H R
structure JI (G : Ga) (X : Cx) (W : WX) (tg it : Expr) (d : Env → R (List PV)) : Prop where
  ex : ∃ wi, PI X tg it wi ∧ TJI G W wi d
abbrev Bnd := PV → Env → Option Env
def TJG (G : Ga) (g : TG) (b : Bnd) (vs : List Nat) : Prop := ∀ (H0 Hf H : Hp) (env : Env) (σ : L2.St) (p : PV) (v : V) (Q : L2.St → Hp → Prop), Same Hf H → EnvOk G H0 Hf H env σ → Rep G Hf p v →
  (match b p env with | some e => ∀ σ', EnvOk G H0 Hf H e σ' → wipe σ' vs = wipe σ vs → Q σ' H | none => False) → g v σ H Q
structure JG (G : Ga) (X : Cx) (tg : Expr) (b : Bnd) (vs : List Nat) : Prop where
  ex : ∃ g, PG X tg g ∧ TJG G g b vs
def bdN (i : Nat) : Bnd := fun p env => some (env.set i (.val p))
def bdT (bs : List Bnd) : Bnd := fun p env => match p with
  | .tup l => if l.length = bs.length then (bs.zip l).foldl (fun e (x : Bnd × PV) => e.bind fun e => x.1 x.2 e) (some env) else none
  | _ => none
theorem wipe_get {σ : L2.St} {j : Nat} : ∀ {vs : List Nat}, (wipe σ vs)[j]? = if j ∈ vs ∧ j < σ.length then some none else σ[j]?
  | [] => by simp [wipe]
  | v :: vs => by
    unfold wipe
    rw [List.getElem?_set, wipe_get (vs := vs), wipe_length]
    by_cases e : v = j
    · subst e
      by_cases l : v < σ.length
      · simp [l]
      · have : σ[v]? = none := by simp; omega
        simp [l, this]
    · rw [if_neg e]
      have : (j ∈ v :: vs) = (j ∈ vs) := by simp [Ne.symm e]
      simp only [this]
theorem wipe_set {σ : L2.St} {i : Nat} {o : Option V} {vs : List Nat} (h : i ∈ vs) : wipe (σ.set i o) vs = wipe σ vs := by
  apply List.ext_getElem?
  intro j
  rw [wipe_get, wipe_get, List.length_set, List.getElem?_set]
  by_cases c : j ∈ vs ∧ j < σ.length
  · rw [if_pos c, if_pos c]
  · rw [if_neg c, if_neg c]
    by_cases e : i = j
    · subst e
      have l : ¬ i < σ.length := fun z => c ⟨h, z⟩
      rw [if_pos rfl, if_neg l, List.getElem?_eq_none (by omega)]
    · rw [if_neg e]
def wipeE (env : Env) : List Nat → Env
  | [] => env
  | v :: vs => (wipeE env vs).set v .no
section
variable {G : Ga} {X : Cx} {W : WX} {Hf0 H0 Hf H Hf' H' : Hp} {env : Env} {σ : L2.St} {i : Nat} {x : Str} {pos : Pos} {e e2 a b c tg iter : Expr} {d da db dc : Env → R PV} {es : List Expr} {st : Stmt} {sts : List Stmt} {f g : Env → F} {p q : Env → R Bool} {dl : Env → R (List PV)} {vs : List Nat} {bn : Bnd}
theorem EnvOk.drop (h : EnvOk G H0 Hf H env σ) (v : Nat) : EnvOk G H0 Hf H (env.set v .no) (σ.set v none) := by
  have q := h.forget (i := v)
  refine ⟨by simp [h.len], fun j => ?_, fun j k a hj hk ej ek => ?_⟩
  · by_cases e : v = j
    · subst e
      rw [Env.at_set]
      by_cases l : v < env.length
      · rw [if_pos ⟨rfl, l⟩]; trivial
      · rw [if_neg (fun z => l z.2)]
        have : env.at v = .no := by
          unfold Env.at
          rw [List.getD_eq_getElem?_getD, List.getElem?_eq_none (by omega)]
          rfl
        rw [this]
        trivial
    · rw [List.getElem?_set, if_neg e]
      exact q.get j
  · have nj : ∀ j, (Env.at (env.set v .no) j).isOwn = true → v ≠ j ∨ ¬ v < env.length := fun j hj => by
      by_cases e : v = j
      · subst e
        by_cases l : v < env.length
        · rw [Env.at_set, if_pos ⟨rfl, l⟩] at hj
          cases hj
        · exact .inr l
      · exact .inl e
    have back : ∀ {j : Nat} {o : Option (Option V)}, (Env.at (env.set v .no) j).isOwn = true → (σ.set v none)[j]? = some (some (.ref a)) → σ[j]? = some (some (.ref a)) := fun {j o} hj ej => by
      rw [List.getElem?_set] at ej
      by_cases e : v = j
      · rw [if_pos e] at ej
        split at ej <;> cases ej
      · rw [if_neg e] at ej
        exact ej
    exact q.dis j k a hj hk (back (o := none) hj ej) (back (o := none) hk ek)
theorem EnvOk.wipe (h : EnvOk G H0 Hf H env σ) : ∀ vs : List Nat, EnvOk G H0 Hf H (wipeE env vs) (L2.wipe σ vs)
  | [] => h
  | v :: vs => (EnvOk.wipe h vs).drop v
theorem jg_name (i : Nat) (nd : X.N.Nodup) (hm : i ∈ vs) (hi : X.N[i]? = some x := by rfl) (hx : Loc X.env.scope x := by first | exact Or.inl rfl | exact Or.inr rfl) (hf : X.fn x = true ∨ X.env.scope.names.lookup x = some .local := by first | exact .inl rfl | exact .inr rfl) : JG G X (.Name x pos) (bdN i) vs :=
  ⟨_, pg_name nd hi hx hf, fun H0 Hf H env σ p v Q s E r h => h _ (E.setV r) (wipe_set hm)⟩
def TJGs (G : Ga) (g : TGs) (bs : List Bnd) (vs : List Nat) : Prop := ∀ (H0 Hf H : Hp) (env : Env) (σ : L2.St) (l : List PV) (ws : List V) (Q : L2.St → Hp → Prop), Same Hf H → EnvOk G H0 Hf H env σ → Reps G Hf l ws → l.length = bs.length →
  (match (bs.zip l).foldl (fun e (x : Bnd × PV) => e.bind fun e => x.1 x.2 e) (some env) with | some e => ∀ σ', EnvOk G H0 Hf H e σ' → wipe σ' vs = wipe σ vs → Q σ' H | none => False) → g ws σ H Q
structure JGs (G : Ga) (X : Cx) (ts : List Expr) (bs : List Bnd) (vs : List Nat) : Prop where
  ex : ∃ g, PGs X ts g ∧ TJGs G g bs vs
theorem fold_none : ∀ (l : List (Bnd × PV)), l.foldl (fun e (x : Bnd × PV) => e.bind fun e => x.1 x.2 e) (none : Option Env) = none
  | [] => rfl
  | _ :: l => fold_none l
theorem jgs_nil : JGs G X [] [] vs := ⟨_, pgs_nil, fun H0 Hf H env σ l ws Q s E r hl h => by
  cases r with
  | nil => exact ⟨rfl, h σ E rfl⟩
  | cons _ _ => cases hl⟩
theorem jgs_cons {bs : List Bnd} (h : JG G X e bn vs) (k : JGs G X es bs vs) (hs : (assignEach (e :: es) X.env).map (·.2) = assign e X.env :: (assignEach es X.env).map (·.2) := by rfl) : JGs G X (e :: es) (bn :: bs) vs := by
  obtain ⟨t, pt, jt⟩ := h
  obtain ⟨u, pu, ju⟩ := k
  refine ⟨_, pgs_cons pt pu hs, fun H0 Hf H env σ l ws Q s E r hl h => ?_⟩
  cases r with
  | nil => cases hl
  | cons r1 r2 =>
    rename_i p v l ws
    refine ⟨v, ws, rfl, jt H0 Hf H env σ p v _ s E r1 ?_⟩
    simp only [List.zip_cons_cons, List.foldl_cons, Option.bind_some] at h
    cases e1 : bn p env with
    | none => rw [e1, fold_none] at h; exact h.elim
    | some env' =>
      rw [e1] at h
      intro σ' E' w'
      refine ju H0 Hf H env' σ' l ws Q s E' r2 (by simpa using hl) ?_
      split at h
      · rename_i e3 e4
        exact fun σ2 E2 w2 => h σ2 E2 (w2.trans w')
      · exact h.elim
theorem jg_tup {bs : List Bnd} {k : Nat} (hK : X.K = G.K) (hc : X.calm = true) (h : JGs G X es bs vs) (hn : (assignEach es X.env).length = bs.length := by rfl) (hst : (assignEach es X.env).findIdx? (·.1) = none := by rfl) : JG G X (.Tuple es k pos) (bdT bs) vs := by
  obtain ⟨t, pt, jt⟩ := h
  refine ⟨_, pg_tup hc pt hn hst, fun H0 Hf H env σ p v Q s E r h => ?_⟩
  unfold bdT at h
  cases r with
  | tup ht hr =>
    rename_i l a ws
    simp only at h
    by_cases hl : l.length = bs.length
    · rw [if_pos hl] at h
      exact ⟨a, ws, rfl, by rw [hK]; exact Bp.seqT s ht, by rw [← hr.length]; exact hl, jt H0 Hf H env σ l ws Q s E hr hl h⟩
    · rw [if_neg hl] at h
      exact h.elim
  | _ => exact h.elim
def asL (p : PV) : R (List PV) := match p with | .lst l => .ok l | .tup l => .ok l | _ => .bad
def itE (d : Env → R PV) (env : Env) : R (List PV) := (d env).bind asL
theorem items_list {G : Gb} {l : List PV} {vs : List V} {a : Addr} (h : SqL G.K Hf a vs) (r : Reps G Hf l vs) : Items G Hf Hf l (Itl G.K a) :=
  ⟨_, _, r.length ▸ walk_list, fun Hf2 H2 s1 s2 => (s1.trans s2).seq h, fun i Hf2 H2 x H3 hi s1 s2 ⟨e, ex⟩ => by
    subst e
    obtain ⟨p, ep, rp⟩ := r.get' ex
    exact ⟨Hf2, Gr.refl s2, p, ep, rp.mono s1⟩⟩
theorem items_tup {G : Gb} {l : List PV} {vs : List V} {a : Addr} (h : SqT G.K Hf a vs) (r : Reps G Hf l vs) : Items G Hf Hf l (Itt G.K a) :=
  ⟨_, _, r.length ▸ walk_tup, fun Hf2 H2 s1 s2 => Bp.seqT (s1.trans s2) h, fun i Hf2 H2 x H3 hi s1 s2 ⟨e, ex⟩ => by
    subst e
    obtain ⟨p, ep, rp⟩ := r.get' ex
    exact ⟨Hf2, Gr.refl s2, p, ep, rp.mono s1⟩⟩
theorem pi_seq {te : TE} (h : PE X iter te) : PI X tg iter (fun σ H R => te σ H fun x H1 => ∃ a, x = .ref a ∧ (((∃ xs, SqL X.K H1 a xs) ∧ R (Itl X.K a) H1) ∨ ((∃ xs, SqT X.K H1 a xs) ∧ R (Itt X.K a) H1))) := by
  refine ⟨fun pins s σ H R I hq => ?_⟩
  refine thn (h.run pins s σ H _ I hq) fun v s1 ⟨x, H1, I1, r1, a, e, q1⟩ => ?_
  subst e
  cases r1
  rcases q1 with ⟨⟨xs, hq⟩, q⟩ | ⟨⟨xs, hq⟩, q⟩
  · obtain ⟨its, rv, p, hz⟩ := I1.list hq
    refine wpAny_pyIter_list p.isList ?_
    refine ⟨s1.heap.objs.size, [s1.heap.objs.size], _, _, H1, rfl, I1.kept (t' := s1.toks) fun b o e => Heap.get?_push_of_some _ e, turn_list a _, ⟨_, Heap.get?_push_size _ rfl, rfl, rfl⟩, fun b hb => ?_, q⟩
    have e : b = s1.heap.objs.size := by simpa using hb
    subst e
    exact I1.fpOk (Nat.le_refl _) (I1.hok.fresh (Nat.le_refl _))
  · obtain ⟨its, rv, p, hz⟩ := I1.tuple hq
    refine wpAny_pyIter_tuple (show s1.heap.IsTuple a its.toArray from p) ?_
    refine ⟨s1.heap.objs.size, [s1.heap.objs.size], _, _, H1, rfl, I1.kept (t' := s1.toks) fun b o e => Heap.get?_push_of_some _ e, turn_tuple a _, ⟨_, Heap.get?_push_size _ rfl, rfl, rfl⟩, fun b hb => ?_, q⟩
    have e : b = s1.heap.objs.size := by simpa using hb
    subst e
    exact I1.fpOk (Nat.le_refl _) (I1.hok.fresh (Nat.le_refl _))
theorem ji_seq (hK : X.K = G.K) (h : JE G X W iter d) : JI G X W tg iter (itE d) := by
  obtain ⟨t, pt, jt⟩ := h
  refine ⟨_, pi_seq pt, fun H0 Hf H env σ R s E h => jt H0 Hf H env σ _ s E (PostG.bind h fun p v Hf1 H1 _ g1 r1 h1 => ?_)⟩
  cases r1 with
  | tup ht hr => exact ⟨_, rfl, .inr ⟨⟨_, by rw [hK]; exact Bp.seqT g1.sub ht⟩, by rw [hK]; exact h1 _ Hf1 H1 (Gr.refl g1.sub) (items_tup ht hr)⟩⟩
  | lst ht hr => exact ⟨_, rfl, .inl ⟨⟨_, by rw [hK]; exact g1.sub.seq ht⟩, by rw [hK]; exact h1 _ Hf1 H1 (Gr.refl g1.sub) (items_list ht hr)⟩⟩
  | _ => exact h1.elim
def rngL (lo : Int) (n : Nat) : List PV := (List.range n).map fun (i : Nat) => PV.int (lo + (i : Int))
noncomputable def rng1 (l : List PV) : R (List PV) := match l with | [.int j] => (open Classical in if -(2 ^ 62) ≤ j ∧ j < 2 ^ 62 then .ok (rngL 0 j.toNat) else .bad) | _ => .bad
theorem items_rng {G : Gb} {lo : Int} {n : Nat} : Items G Hf Hf (rngL lo n) (Itr lo n) := by
  have l : (rngL lo n).length = n := by unfold rngL; simp
  refine ⟨fun _ => True, YFn fun i => .int (lo + i), l.symm ▸ walk_range, fun _ _ _ _ => trivial, fun i Hf2 H2 x H3 hi s1 s2 ⟨e, ex⟩ => ?_⟩
  subst e
  subst ex
  exact ⟨Hf2, Gr.refl s2, .int (lo + i), by unfold rngL; rw [l] at hi; simp [hi], .int _⟩
theorem ji_rng1 {p : Pos} (hm : X.mg "range" = none) (ha : JA G X W [a] dl) (hg : Gl X "range" := by rfl) (hs : starEach [a] X.env = [(false, eval a X.env)] := by rfl) : JI G X W tg (.Call (.Name "range" p) [a] [] pos) (fun env => (dl env).bind rng1) := by
  obtain ⟨t, pt, jt⟩ := ha
  refine ⟨_, pi_range1 hg hm pt hs, fun H0 Hf H env σ R s E h => jt H0 Hf H env σ _ s E (PostG.bind h fun l vs Hf1 H1 _ g1 r1 h1 => ?_)⟩
  unfold rng1 at h1
  split at h1
  · rename_i j _
    cases r1 with
    | cons r2 r3 =>
      cases r3
      cases r2
      by_cases c : -(2 ^ 62) ≤ j ∧ j < 2 ^ 62
      · rw [if_pos c] at h1
        exact ⟨j, rfl, c.1, c.2, h1 _ Hf1 H1 (Gr.refl g1.sub) items_rng⟩
      · rw [if_neg c] at h1
        exact h1.elim
  · exact h1.elim
theorem pair_item {G : Gb} {i : Nat} {l m : List PV} {xs ys : List V} {Hf2 H2 H3 : Hp} {x : V} (rl : Reps G Hf l xs) (rm : Reps G Hf m ys) (s1 : Same Hf Hf2) (s2 : Same Hf2 H2) (h : YPair (fun i => xs[i]?) (fun i => ys[i]?) i H2 x H3) :
    ∃ Hf3, Gr Hf2 H2 Hf3 H3 ∧ ∃ p, (List.zipWith (fun x y => PV.tup [x, y]) l m)[i]? = some p ∧ Rep G Hf3 p x := by
  obtain ⟨T, u, v, ex, nT, e3, eu, ev⟩ := h
  subst ex
  subst e3
  obtain ⟨p, ep, rp⟩ := rl.get' eu
  obtain ⟨q, eq, rq⟩ := rm.get' ev
  have nf := none_back s2 nT
  refine ⟨_, Gr.one (o := .tup [u, v]) s2 nT, .tup [p, q], by rw [List.getElem?_zipWith, ep, eq], .tup (SqT.of upd_same) (.cons ((rp.mono s1).mono (Same.new nf)) (.cons ((rq.mono s1).mono (Same.new nf)) .nil))⟩
def forP (bn : Bnd) (body : Env → F) : List PV → Env → F
  | [], env => .nx env
  | p :: l, env => match bn p env with
    | none => .bad
    | some e => match body e with
      | .nx e => forP bn body l e
      | .ct e => forP bn body l e
      | .bk e => .nx e
      | .rt v => .rt v
      | .er e c fs => .er e c fs
      | .bad => .bad
def forE (di : Env → R (List PV)) (bn : Bnd) (body : Env → F) (env : Env) : F := match di env with | .ok l => forP bn body l env | .er c fs => .er env c fs | .bad => .bad
theorem js_for (hp : PassesOwn (model X.prog X.w) X.A X.env X.xe) (hc : X.calm = true) (hi : JI G X W tg iter dl) (hg : JG G X tg bn vs) (hb : JSs G X W sts f) (hs : ∀ x, foldedSetIterable iter X.env x = pure x := by intro _; rfl) :
    JS G X W (.For tg iter sts [] pos) (forE dl bn f) := by
  obtain ⟨wi, pi, ji⟩ := hi
  obtain ⟨g, pg, jg⟩ := hg
  obtain ⟨tb, pb, jb⟩ := hb
  refine ⟨_, ps_for hp hc pi pg pb hs, fun Hf0 H0 Hf H env σ D S h => ji H0 Hf H env σ _ S.gr.sub S.env ?_⟩
  unfold forE at h
  cases e : dl env with
  | bad => rw [e] at h; exact h.elim
  | er c fs =>
    rw [e] at h
    exact fun Hf' H' d g r => h σ Hf' H' d (S.grow g) g.fz r
  | ok l =>
    rw [e] at h
    rintro J Hf1 H1 g1 ⟨GG, Y, w, hG, hY⟩
    refine for_it w (fun i σ H2 => ∃ Hf2 env2, StOk G Hf0 H0 Hf2 H2 env2 σ ∧ Same Hf1 Hf2 ∧ PostS G W D Hf0 H0 Hf2 (forP bn f (l.drop i) env2)) ⟨Hf1, env, S.grow g1, fun _ _ h => h, h.step g1.fz⟩
      (fun i σ H2 _ ⟨Hf2, env2, S2, s2, _⟩ => hG Hf2 H2 s2 S2.gr.sub) ?_ ?_
    · rintro i x σ2 H2 H3 hi ⟨Hf2, env2, S2, s2, k⟩ y
      obtain ⟨Hf3, g3, p, ep, rp⟩ := hY i Hf2 H2 x H3 hi s2 S2.gr.sub y
      have dr : l.drop i = p :: l.drop (i + 1) := by
        rw [List.drop_eq_getElem_cons hi]
        have : l[i] = p := by
          have := List.getElem?_eq_getElem hi
          rw [ep] at this
          exact (Option.some.inj this).symm
        rw [this]
      rw [dr] at k
      unfold forP at k
      have S3 := S2.grow g3
      have k3 := k.step g3.fz
      refine jg H0 Hf3 H3 env2 σ2 p x _ g3.sub S3.env rp ?_
      cases eb : bn p env2 with
      | none => rw [eb] at k; exact k.elim
      | some env3 =>
        rw [eb] at k3
        simp only at k3
        refine fun σ' E' _ => jb Hf0 H0 Hf3 H3 env3 σ' _ ⟨S3.gr, E'⟩ ?_
        have sm := s2.trans g3.fz
        cases ef : f env3 with
        | nx e4 => rw [ef] at k3; exact fun σ4 Hf4 H4 S4 s4 => ⟨Hf4, e4, S4, sm.trans s4, PostS.step k3 s4⟩
        | ct e4 => rw [ef] at k3; exact fun σ4 Hf4 H4 S4 s4 => ⟨Hf4, e4, S4, sm.trans s4, PostS.step k3 s4⟩
        | bk e4 => rw [ef] at k3; exact k3
        | rt v => rw [ef] at k3; exact k3
        | er e4 c fs => rw [ef] at k3; exact k3
        | bad => rw [ef] at k3; exact k3.elim
    · rintro σ2 H2 ⟨Hf2, env2, S2, s2, k⟩
      rw [List.drop_length] at k
      exact k σ2 Hf2 H2 S2 (fun _ _ h => h)
def whileP (c : Env → R Bool) (body : Env → F) : Nat → Env → F
  | 0, _ => .bad
  | n + 1, env => match c env with
    | .ok true => (match body env with
      | .nx e => whileP c body n e
      | .ct e => whileP c body n e
      | .bk e => .nx e
      | .rt v => .rt v
      | .er e c fs => .er e c fs
      | .bad => .bad)
    | .ok false => .nx env
    | .er k fs => .er env k fs
    | .bad => .bad
def whileE (fuel : Env → Nat) (c : Env → R Bool) (body : Env → F) (env : Env) : F := whileP c body (fuel env) env
theorem js_while (fuel : Env → Nat) (hp : PassesOwn (model X.prog X.w) X.A X.env X.xe) (ht : JT G X W c p) (hb : JSs G X W sts f) : JS G X W (.While c sts [] pos) (whileE fuel p f) := by
  obtain ⟨tc, pc, jc⟩ := ht
  obtain ⟨tb, pb, jb⟩ := hb
  refine ⟨_, ps_while hp pc pb, fun Hf0 H0 Hf H env σ D S h => ?_⟩
  refine ⟨fun m σ H2 => ∃ Hf2 env2, StOk G Hf0 H0 Hf2 H2 env2 σ ∧ PostS G W D Hf0 H0 Hf2 (whileP p f m env2), ⟨fuel env, Hf, env, S, h⟩, ?_⟩
  rintro m σ2 H2 ⟨Hf2, env2, S2, k⟩
  cases m with
  | zero => exact k.elim
  | succ m =>
    unfold whileP at k
    refine jc H0 Hf2 H2 env2 σ2 _ S2.gr.sub S2.env ?_
    cases e : p env2 with
    | bad => rw [e] at k; exact k.elim
    | er c fs =>
      rw [e] at k
      exact fun Hf' H' d g r => k σ2 Hf' H' d (S2.grow g) g.fz r
    | ok b =>
      rw [e] at k
      rintro v Hf3 H3 g3 rfl
      cases v with
      | false =>
        rw [if_neg Bool.false_ne_true]
        exact k σ2 Hf3 H3 (S2.grow g3) g3.fz
      | true =>
        rw [if_pos rfl]
        simp only at k
        refine ⟨fun σ' H' => ∃ Hf4 env4, StOk G Hf0 H0 Hf4 H' env4 σ' ∧ PostS G W D Hf0 H0 Hf4 (whileP p f m env4), fun σ' H' q => ⟨m, Nat.lt_succ_self _, q⟩, ?_⟩
        refine jb Hf0 H0 Hf3 H3 env2 σ2 _ (S2.grow g3) ?_
        cases ef : f env2 with
        | nx e4 => rw [ef] at k; exact fun σ4 Hf4 H4 S4 s4 => ⟨Hf4, e4, S4, PostS.step k (g3.fz.trans s4)⟩
        | ct e4 => rw [ef] at k; exact fun σ4 Hf4 H4 S4 s4 => ⟨Hf4, e4, S4, PostS.step k (g3.fz.trans s4)⟩
        | bk e4 => rw [ef] at k; exact PostS.step (f := .nx e4) k g3.fz
        | rt v => rw [ef] at k; exact PostS.step (f := .rt v) k g3.fz
        | er e4 c fs => rw [ef] at k; exact PostS.step (f := .er e4 c fs) k g3.fz
        | bad => rw [ef] at k; exact k.elim
end
end J

namespace J
open PySem.Spec PySem PyProof.Rows
open L2 hiding St Takes XE CX takes_of PMk MkP ps_raise mk_of ps_try_as ps_try_many pmk_own passAt passes_call takes0 passL
open L2N hiding St

def mapFR (t : PV → R Bool) (f : PV → R PV) : List PV → R (List PV)
  | [] => .ok []
  | p :: l => (t p).bind fun b => if b = true then (f p).bind fun q => (mapFR t f l).bind fun r => .ok (q :: r) else mapFR t f l
theorem mapFR_snoc (t : PV → R Bool) (f : PV → R PV) : ∀ (l : List PV) (p : PV) (r : List PV), mapFR t f (l ++ [p]) = .ok r → ∃ r0, mapFR t f l = .ok r0 ∧ ∃ b, t p = .ok b ∧ (b = true → ∃ q, f p = .ok q ∧ r = r0 ++ [q]) ∧ (b = false → r = r0)
  | [], p, r, h => by
    simp only [List.nil_append, mapFR] at h
    refine ⟨[], rfl, ?_⟩
    cases e : t p with
    | ok b =>
      rw [e] at h
      refine ⟨b, rfl, fun z => ?_, fun z => ?_⟩
      · subst z
        simp only [R.bind_ok, if_true] at h
        cases e2 : f p with
        | ok q => rw [e2] at h; simp only [R.bind_ok] at h; cases h; exact ⟨q, rfl, rfl⟩
        | er c fs => rw [e2] at h; cases h
        | bad => rw [e2] at h; cases h
      · subst z
        simp only [R.bind_ok, Bool.false_eq_true, if_false] at h
        cases h
        rfl
    | er c fs => rw [e] at h; cases h
    | bad => rw [e] at h; cases h
  | u :: l, p, r, h => by
    simp only [List.cons_append, mapFR] at h
    cases e : t u with
    | ok b =>
      rw [e] at h
      simp only [R.bind_ok] at h
      cases b with
      | true =>
        simp only [if_true] at h
        cases e2 : f u with
        | ok q =>
          rw [e2] at h
          simp only [R.bind_ok] at h
          cases e3 : mapFR t f (l ++ [p]) with
          | ok r1 =>
            rw [e3] at h
            simp only [R.bind_ok] at h
            cases h
            obtain ⟨r0, e0, b, eb, hb1, hb2⟩ := mapFR_snoc t f l p r1 e3
            refine ⟨q :: r0, by simp [mapFR, e, e2, e0], b, eb, fun z => ?_, fun z => by rw [hb2 z]⟩
            obtain ⟨q', f1, f2⟩ := hb1 z
            exact ⟨q', f1, by rw [f2]; rfl⟩
          | er c fs => rw [e3] at h; cases h
          | bad => rw [e3] at h; cases h
        | er c fs => rw [e2] at h; cases h
        | bad => rw [e2] at h; cases h
      | false =>
        simp only [Bool.false_eq_true, if_false] at h
        obtain ⟨r0, e0, b, eb, hb1, hb2⟩ := mapFR_snoc t f l p r h
        exact ⟨r0, by simp [mapFR, e, e0], b, eb, hb1, hb2⟩
    | er c fs => rw [e] at h; cases h
    | bad => rw [e] at h; cases h
theorem mapFR_pre (t : PV → R Bool) (f : PV → R PV) : ∀ (m l : List PV) (r : List PV), mapFR t f (l ++ m) = .ok r → ∃ r0, mapFR t f l = .ok r0 ∧ r0.length ≤ r.length
  | [], l, r, h => ⟨r, by simpa using h, Nat.le_refl _⟩
  | p :: m, l, r, h => by
    have e : l ++ p :: m = (l ++ [p]) ++ m := by simp
    rw [e] at h
    obtain ⟨r1, e1, l1⟩ := mapFR_pre t f m (l ++ [p]) r h
    obtain ⟨r0, e0, b, _, hb1, hb2⟩ := mapFR_snoc t f l p r1 e1
    refine ⟨r0, e0, Nat.le_trans ?_ l1⟩
    cases b with
    | true =>
      obtain ⟨q, _, e2⟩ := hb1 rfl
      rw [e2]
      simp
    | false => rw [hb2 rfl]; exact Nat.le_refl _
def noE {α : Type} (r : R α) : R α := match r with | .ok a => .ok a | _ => .bad
theorem wipe_wipe {σ : L2.St} {vs : List Nat} : wipe (wipe σ vs) vs = wipe σ vs := by
  apply List.ext_getElem?
  intro j
  rw [wipe_get, wipe_length, wipe_get]
  by_cases c : j ∈ vs ∧ j < σ.length
  · rw [if_pos c, if_pos c]
  · rw [if_neg c]
def lcE (vs : List Nat) (di : Env → R (List PV)) (bn : Bnd) (t : Env → R Bool) (d : Env → R PV) (env : Env) : R PV := (di env).bind fun l =>
  (noE (mapFR (fun p => match bn p (wipeE env vs) with | some e => noE (t e) | none => .bad) (fun p => match bn p (wipeE env vs) with | some e => noE (d e) | none => .bad) l)).bind fun r => if r.length ≤ 1000 then .ok (.lst r) else .bad
def yesT (_ : Env) : R Bool := .ok true
abbrev W0 : WX := fun _ _ _ _ => False
section
variable {G : Ga} {X : Cx} {W : WX} {Hf0 H0 Hf H Hf' H' : Hp} {env : Env} {σ : L2.St} {i : Nat} {x : Str} {pos pos2 : Pos} {e e2 a b c tg iter elt : Expr} {d da db dc : Env → R PV} {es ifs : List Expr} {st : Stmt} {sts : List Stmt} {f g : Env → F} {p q t : Env → R Bool} {dl : Env → R (List PV)} {vs : List Nat} {bn : Bnd}
structure JTs (G : Ga) (X : Cx) (W : WX) (es : List Expr) (d : Env → R Bool) : Prop where
  ex : ∃ tt, PTs X es tt ∧ TJT G W tt d
theorem jts_nil : JTs G X W [] yesT := ⟨_, pts_nil, fun H0 Hf H env σ Q s E h => h true Hf H (Gr.refl s) rfl⟩
theorem postG_noE {α β : Type} {G : Gb} {Rl : Hp → α → β → Prop} {r : R α} {a : α} {Q : β → Hp → Prop} (h : noE r = .ok a) (k : ∀ v Hf' H', Gr Hf H Hf' H' → Rl Hf' a v → Q v H') : PostG G W0 Rl Hf H σ r Q := by
  cases r with
  | ok b => cases h; exact k
  | er c fs => cases h
  | bad => cases h
theorem tj_lc_at {wi : TI} {g : TG} {tt : TT} {te : TE} {H0 Hf H : Hp} {env : Env} {σ : L2.St} {Q : VK} (ji : ∀ R : It → Hp → Prop, PostG G W (fun Hf l J => Items G Hf Hf l J) Hf H σ (dl env) R → wi σ H R) (jg : TJG G g bn vs) (jt : TJT G W0 tt t) (je : TJ G W0 te d) (s : Same Hf H) (E : EnvOk G H0 Hf H env σ)
    (h : Post G W Hf H σ (lcE vs dl bn t d env) Q) : tLc wi g tt te vs σ H Q := by
  refine ji _ (PostG.bind h fun l J Hf1 H1 _ g1 ⟨GG, Y, w, hG, hY⟩ h1 => ?_)
  intro D hD
  cases em : mapFR (fun p => match bn p (wipeE env vs) with | some e => noE (t e) | none => .bad) (fun p => match bn p (wipeE env vs) with | some e => noE (d e) | none => .bad) l with
  | er c fs => rw [em] at h1; exact h1.elim
  | bad => rw [em] at h1; exact h1.elim
  | ok r =>
    rw [em] at h1
    simp only [noE, R.bind_ok] at h1
    by_cases hl : r.length ≤ 1000
    · rw [if_pos hl] at h1
      have nf1 := none_back g1.sub hD
      refine lc_it w (fun i H2 => ∃ Hf2 acc ri, Gr Hf1 H1 Hf2 H2 ∧ H2 D = some (.lst acc) ∧ Hf2 D = none ∧ mapFR (fun p => match bn p (wipeE env vs) with | some e => noE (t e) | none => .bad) (fun p => match bn p (wipeE env vs) with | some e => noE (d e) | none => .bad) (l.take i) = .ok ri ∧ Reps G Hf2 ri acc)
        ⟨Hf1, [], [], Gr.up g1.sub (Same.new hD), upd_same, nf1, rfl, .nil⟩ (fun i H2 _ ⟨Hf2, _, _, g2, _⟩ => hG Hf2 H2 g2.fz g2.sub) ?_ ?_
      · rintro i x H2 H3 hi ⟨Hf2, acc, ri, g2, hacc, hfD, eri, ra⟩ y
        obtain ⟨Hf3, g3, p, ep, rp⟩ := hY i Hf2 H2 x H3 hi g2.fz g2.sub y
        have tk : l.take (i + 1) = l.take i ++ [p] := by
          rw [List.take_succ, ep]
          rfl
        have pre := mapFR_pre _ _ (l.drop (i + 1)) (l.take (i + 1)) r (by rw [List.take_append_drop]; exact em)
        obtain ⟨r1, er1, lr1⟩ := pre
        have er1' := er1
        rw [tk] at er1'
        obtain ⟨r0, e0, b, eb, hb1, hb2⟩ := mapFR_snoc _ _ _ _ _ er1'
        rw [eri] at e0
        cases e0
        have E3 : EnvOk G H0 Hf3 H3 (wipeE env vs) (wipe σ vs) := (((E.grow g1).grow g2).grow g3).wipe vs
        have n3 : Hf3 D = none := by
          cases e : Hf3 D with
          | none => rfl
          | some o =>
            rcases g3.new D o e with z | z
            · rw [hfD] at z; cases z
            · rw [hacc] at z; cases z
        refine jg H0 Hf3 H3 _ _ p x _ g3.sub E3 rp ?_
        cases ebn : bn p (wipeE env vs) with
        | none => simp only [ebn] at eb; cases eb
        | some e4 =>
          simp only [ebn] at eb hb1
          intro σ4 E4 w4
          refine ⟨by rw [w4]; exact wipe_wipe, ?_⟩
          refine jt H0 Hf3 H3 e4 σ4 _ g3.sub E4 (postG_noE eb fun v Hf5 H5 g5 rv => ?_)
          subst rv
          have g15 := (g2.trans g3).trans g5
          have hacc5 := g5.hp _ _ (g3.hp _ _ hacc)
          have n5 : Hf5 D = none := by
            cases e : Hf5 D with
            | none => rfl
            | some o =>
              rcases g5.new D o e with z | z
              · rw [n3] at z; cases z
              · rw [g3.hp _ _ hacc] at z; cases z
          cases v with
          | false =>
            rw [if_neg Bool.false_ne_true]
            exact ⟨Hf5, acc, r1, g15, hacc5, n5, er1, by rw [hb2 rfl]; exact (ra.mono g3.fz).mono g5.fz⟩
          | true =>
            rw [if_pos rfl]
            obtain ⟨q, eq, er⟩ := hb1 rfl
            refine je H0 Hf5 H5 e4 σ4 _ g5.sub (E4.grow g5) (postG_noE eq fun v Hf6 H6 g6 rv => ?_)
            have hacc6 := g6.hp _ _ hacc5
            have n6 : Hf6 D = none := by
              cases e : Hf6 D with
              | none => rfl
              | some o =>
                rcases g6.new D o e with z | z
                · rw [n5] at z; cases z
                · rw [hacc5] at z; cases z
            have ra6 := ((ra.mono g3.fz).mono g5.fz).mono g6.fz
            have lacc : acc.length = ri.length := ra.length.symm
            have g16 := g15.trans g6
            refine ⟨acc, hacc6, ?_, Hf6, acc ++ [v], r1, ⟨g16.fz, fun b o hb => ?_, fun b o hb => ?_, g16.new⟩, upd_same, n6, er1, by rw [er]; exact ra6.append (.cons rv .nil)⟩
            · have : acc.length ≤ 1000 := by
                rw [lacc]
                have : ri.length ≤ r1.length := by rw [er]; simp
                omega
              exact Nat.lt_of_le_of_lt this (by decide)
            · rw [upd_ne (ne_of_none hb hD)]
              exact g16.hp _ _ hb
            · rw [upd_ne (ne_of_none hb n6)]
              exact g16.sub _ _ hb
      · rintro H2 ⟨Hf2, acc, ri, g2, hacc, hfD, eri, ra⟩
        rw [List.take_length, em] at eri
        cases eri
        exact h1 _ _ H2 (g2.frz hD hfD hacc) (.lst (SqL.of upd_same) (ra.mono (Same.new hfD)))
    · rw [if_neg hl] at h1
      exact h1.elim
theorem tj_lc {wi : TI} {g : TG} {tt : TT} {te : TE} (ji : TJI G W wi dl) (jg : TJG G g bn vs) (jt : TJT G W0 tt t) (je : TJ G W0 te d) : TJ G W (tLc wi g tt te vs) (lcE vs dl bn t d) := fun H0 Hf H env σ Q s E h => tj_lc_at (fun R => ji H0 Hf H env σ R s E) jg jt je s E h

variable {scope : Scope} {own : List (Str × Nat)}
def teOf (G : Ga) (W : WX) (d : Env → R PV) : TE := fun σ H Q => ∃ H0 Hf env, Same Hf H ∧ EnvOk G H0 Hf H env σ ∧ Post G W Hf H σ (d env) Q
def ttOf (G : Ga) (W : WX) (d : Env → R Bool) : TT := fun σ H Q => ∃ H0 Hf env, Same Hf H ∧ EnvOk G H0 Hf H env σ ∧ PostT G W Hf H σ (d env) Q
def tsOf (G : Ga) (W : WX) (d : Env → F) : TS := fun D σ H => ∃ Hf0 H0 Hf env, StOk G Hf0 H0 Hf H env σ ∧ PostS G W D Hf0 H0 Hf (d env)
def tgOf (G : Ga) (b : Bnd) (vs : List Nat) : TG := fun v σ H Q => ∃ H0 Hf env p, Same Hf H ∧ EnvOk G H0 Hf H env σ ∧ Rep G Hf p v ∧ (match b p env with | some e => ∀ σ', EnvOk G H0 Hf H e σ' → wipe σ' vs = wipe σ vs → Q σ' H | none => False)
theorem JE.pe (h : JE G X W e d) : PE X e (teOf G W d) := let ⟨te, pe, je⟩ := h.ex; ⟨fun pins s σ H Q I ⟨H0, Hf, env, sb, E, k⟩ => pe.run pins s σ H Q I (je H0 Hf H env σ Q sb E k)⟩
theorem JTs.pts (h : JTs G X W es t) : PTs X es (ttOf G W t) := let ⟨te, pe, je⟩ := h.ex; ⟨fun pins s σ H Q I ⟨H0, Hf, env, sb, E, k⟩ => pe.run pins s σ H Q I (je H0 Hf H env σ Q sb E k)⟩
theorem JSs.pss (h : JSs G X W sts f) : PSs X sts (tsOf G W f) := let ⟨te, pe, je⟩ := h.ex; ⟨fun pins s σ H D I ⟨Hf0, H0, Hf, env, S, k⟩ => pe.run pins s σ H D I (je Hf0 H0 Hf H env σ D S k)⟩
theorem JG.pg (h : JG G X tg bn vs) : PG X tg (tgOf G bn vs) := let ⟨te, pe, je⟩ := h.ex; ⟨fun pins s σ H v u Q I r ⟨H0, Hf, env, p, sb, E, rp, k⟩ => pe.run pins s σ H v u Q I r (je H0 Hf H env σ p v Q sb E rp k)⟩
theorem tj_of : TJ G W (teOf G W d) d := fun H0 Hf H env σ Q s E h => ⟨H0, Hf, env, s, E, h⟩
theorem tjt_of : TJT G W (ttOf G W t) t := fun H0 Hf H env σ Q s E h => ⟨H0, Hf, env, s, E, h⟩
theorem tjg_of : TJG G (tgOf G bn vs) bn vs := fun H0 Hf H env σ p v Q s E r h => ⟨H0, Hf, env, p, s, E, r, h⟩
theorem tsj_of : TSJ G W (tsOf G W f) f := fun Hf0 H0 Hf H env σ D S h => ⟨Hf0, H0, Hf, env, S, h⟩
theorem je_lc (own : List (Str × Nat)) (nd : X.N.Nodup) (hi : JI G X W tg iter dl) (ok : blkC X.N X.env.scope scope own = true)
    (hg : ∀ (s : Shared) (H : Hp) (C : Addr) (cl : List (Str × Addr)) (fp : List Addr), JG G (X.blk s H scope (compEnvC scope cl C X.env) fp) tg bn (own.map (·.2)))
    (ht : ∀ (s : Shared) (H : Hp) (C : Addr) (cl : List (Str × Addr)) (fp : List Addr), JTs G (X.blk s H scope (compEnvC scope cl C X.env) fp) W0 ifs t)
    (he : ∀ (s : Shared) (H : Hp) (C : Addr) (cl : List (Str × Addr)) (fp : List Addr), JE G (X.blk s H scope (compEnvC scope cl C X.env) fp) W0 elt d)
    (hc : X.calm = true := by rfl) (hs : ∀ x, foldedSetIterable iter X.env x = pure x := by intro _; rfl) : JE G X W (.ListComp elt [⟨tg, iter, ifs, 0⟩] scope pos) (lcE (own.map (·.2)) dl bn t d) := by
  obtain ⟨wi, pi, ji⟩ := hi
  exact ⟨_, pe_lc hc nd pi (blkOk_by ok) (fun s H C cl fp => (hg s H C cl fp).pg) (fun s H C cl fp => (ht s H C cl fp).pts) (fun s H C cl fp => (he s H C cl fp).pe) hs, tj_lc ji tjg_of tjt_of tj_of⟩
theorem js_setLc {y : Str} {py spos : Pos} (i : Nat) (own : List (Str × Nat)) (nd : X.N.Nodup) (hi : JI G X W tg iter dl) (ok : blkC X.N X.env.scope scope own = true)
    (hg : ∀ (s : Shared) (H : Hp) (C : Addr) (cl : List (Str × Addr)) (fp : List Addr), JG G (X.blk s H scope (compEnvC scope cl C X.env) fp) tg bn (own.map (·.2)))
    (ht : ∀ (s : Shared) (H : Hp) (C : Addr) (cl : List (Str × Addr)) (fp : List Addr), JTs G (X.blk s H scope (compEnvC scope cl C X.env) fp) W0 ifs t)
    (he : ∀ (s : Shared) (H : Hp) (C : Addr) (cl : List (Str × Addr)) (fp : List Addr), JE G (X.blk s H scope (compEnvC scope cl C X.env) fp) W0 elt d)
    (hsw : swapsWith (.ListComp elt [⟨tg, iter, ifs, 0⟩] scope pos) (some (.Name y py)) spos.line X.env = pure true) (hy : X.N[i]? = some y := by rfl) (hyl : X.env.scope.names.lookup y = some .local := by rfl)
    (hc : X.calm = true := by rfl) (hs : ∀ x, foldedSetIterable iter X.env x = pure x := by intro _; rfl) : JS G X W (.Assign [.Name y py] (.ListComp elt [⟨tg, iter, ifs, 0⟩] scope pos) spos) (setF i (lcE (own.map (·.2)) dl bn t d)) := by
  obtain ⟨wi, pi, ji⟩ := hi
  exact ⟨_, ps_setLc hc nd hy hyl hsw pi (blkOk_by ok) (fun s H C cl fp => (hg s H C cl fp).pg) (fun s H C cl fp => (ht s H C cl fp).pts) (fun s H C cl fp => (he s H C cl fp).pe) hs,
    fun Hf0 H0 Hf H env σ D S h => tj_lc ji tjg_of tjt_of tj_of H0 Hf H env σ _ S.gr.sub S.env (post_lift S h fun p v Hf' H' g S' r k => k _ Hf' H' ⟨S'.gr, S'.env.setV r⟩ (fun _ _ h => h))⟩
end
def env0 (n : Nat) (l : List PV) : Env := l.map .val ++ List.replicate (n - l.length) .no
def ansF (f : F) : R PV := match f with | .rt p => .ok p | .nx _ => .ok .non | .er _ c fs => .er c fs | _ => .bad
def fnJ (np nn : Nat) (d : Env → F) (l : List PV) : R PV := if l.length = np then ansF (d (env0 nn l)) else .bad
section
variable {G : Gb} {Hf H : Hp}
theorem env0_ok {N : List Str} {l : List PV} {vs : List V} (r : Reps G Hf l vs) : EnvOk ⟨G, none, none, none⟩ H Hf H (env0 N.length l) (L2.start N vs) := by
  have hl := r.length
  refine ⟨by unfold env0 L2.start; simp [hl], fun i => ?_, fun i j a hi => ?_⟩
  · unfold env0 L2.start Env.at
    rw [List.getD_eq_getElem?_getD]
    by_cases h : i < l.length
    · rw [List.getElem?_append_left (by simpa using h), List.getElem?_append_left (by simpa using hl ▸ h), List.getElem?_map, List.getElem?_map]
      have e : l[i]? = some l[i] := List.getElem?_eq_getElem h
      obtain ⟨v, ev, rv⟩ := r.get e
      rw [e, ev]
      exact ⟨v, rfl, rv⟩
    · rw [List.getElem?_append_right (by simpa using Nat.le_of_not_lt h)]
      have : ((List.replicate (N.length - l.length) Sl.no)[i - (l.map Sl.val).length]?).getD Sl.no = .no := by
        rw [List.getElem?_replicate]
        split <;> rfl
      rw [this]
      trivial
  · exfalso
    unfold env0 Env.at at hi
    rw [List.getD_eq_getElem?_getD] at hi
    by_cases h : i < l.length
    · rw [List.getElem?_append_left (by simpa using h), List.getElem?_map, List.getElem?_eq_getElem h] at hi
      cases hi
    · rw [List.getElem?_append_right (by simpa using Nat.le_of_not_lt h), List.getElem?_replicate] at hi
      split at hi <;> cases hi
variable {P : Program} {w : World} {K : PySem.W.Frag} {mg : Str → Option Value} {base : Heap}
abbrev WD (E : XK) : WX := fun cls d _ H => E cls d H
theorem body_ok {X : Cx} {E : XK} {sts : List Stmt} {d : Env → F} {N ps : List Str} {vs : List V} {Q : VK} (h : JSs ⟨G, none, none, none⟩ X (WD E) sts d) (q : spJ G (fnJ ps.length N.length d) vs H Q E) :
    ∃ t, PSs X sts t ∧ t { nx := fun _ H' => Q .non H', rt := Q } (L2.start N vs) H := by
  obtain ⟨t, pt, jt⟩ := h
  obtain ⟨Hf, l, s, r, q⟩ := q
  refine ⟨t, pt, jt Hf H Hf H _ _ _ ⟨Gr.refl s, env0_ok (N := N) r⟩ ?_⟩
  unfold fnJ at q
  by_cases hl : l.length = ps.length
  · rw [if_pos hl] at q
    unfold ansF at q
    cases e : d (env0 N.length l) with
    | rt p => rw [e] at q; exact fun v Hf' H' g _ rp => q v Hf' H' g rp
    | nx e' => rw [e] at q; exact fun σ' Hf' H' S _ => q .non Hf' H' S.gr .non
    | er e' c fs => rw [e] at q; exact fun σ' Hf' H' d S _ ed => q Hf' H' d S.gr ed
    | bk e' => rw [e] at q; exact q.elim
    | ct e' => rw [e] at q; exact q.elim
    | bad => rw [e] at q; exact q.elim
  · rw [if_neg hl] at q
    exact q.elim
theorem len_ok {ps : List Str} {n : Nat} {d : Env → F} : ∀ vs H Q E, spJ G (fnJ ps.length n d) vs H Q E → vs.length = ps.length := fun vs H Q E ⟨Hf, l, s, r, q⟩ => by
  unfold fnJ at q
  by_cases hl : l.length = ps.length
  · rw [← r.length, hl]
  · rw [if_neg hl] at q
    exact q.elim
theorem jdef {x : Str} {st : Stmt} {ps N : List Str} {k : Nat} {d : Env → F} (F : Bp.GFun K mg x st ps) (S : FnScope N ps (defScope st))
    (h : ∀ (f : Addr) (cdv : Value) (A : Around) (outer : List PySem.Env) (s : Shared) (H : Hp) (E : XK), Room k (A.deeper (envOfC x (defScope st) s.heap.objs.size f cdv)) → JSs ⟨G, none, none, none⟩ (cxOf (L2N.CX P w) P w K mg base N x (defScope st) f cdv A outer s H E) (WD E) (defBody st) d) :
    Bp.Def P w K mg base (k + 1) x ps (spJ G (fnJ ps.length N.length d)) := F.ok S len_ok fun f cdv A outer s H vs Q E hr q => body_ok (h f cdv A outer s H E hr) q
end
end J

namespace J
open PySem.Spec PySem PyProof.Rows
open L2 hiding St Takes XE CX takes_of PMk MkP ps_raise mk_of ps_try_as ps_try_many pmk_own passAt passes_call takes0 passL
open L2N hiding St
open Bp (OpS R2S)

section
variable {G : Gb} {X : Cx} {W : WX} {Hf H : Hp} {σ : L2.St}
def iOp0 (g : Int → Int → PV) (a b : PV) : R PV := match a, b with | .int i, .int j => .ok (g i j) | _, _ => .bad
noncomputable def iOp (c : Int → Int → Prop) (g : Int → Int → PV) (a b : PV) : R PV := match a, b with | .int i, .int j => (open Classical in if c i j then .ok (g i j) else .bad) | _, _ => .bad
theorem opj_int0 {f : Value → Value → Sem Value} {gV : Int → Int → V} {g : Int → Int → PV} (ho : OpR X f (rI0 gV)) (hg : ∀ Hf i j, Rep G Hf (g i j) (gV i j)) : OpJ G X W f (iOp0 g) :=
  ⟨_, OpS.of ho, fun Hf H σ x y a b Q s ra rb h => by
    unfold iOp0 at h
    split at h
    · rename_i i j
      exact ⟨i, j, ra.of_int, rb.of_int, h _ Hf H (Gr.refl s) (hg Hf i j)⟩
    · exact h.elim⟩
theorem opj_int {f : Value → Value → Sem Value} {cV c : Int → Int → Prop} {gV : Int → Int → V} {g : Int → Int → PV} (ho : OpR X f (rI cV gV)) (hc : ∀ i j, c i j → cV i j) (hg : ∀ Hf i j, Rep G Hf (g i j) (gV i j)) : OpJ G X W f (iOp c g) :=
  ⟨_, OpS.of ho, fun Hf H σ x y a b Q s ra rb h => by
    unfold iOp at h
    split at h
    · rename_i i j
      by_cases k : c i j
      · rw [if_pos k] at h
        exact ⟨i, j, ra.of_int, rb.of_int, hc i j k, h _ Hf H (Gr.refl s) (hg Hf i j)⟩
      · rw [if_neg k] at h
        exact h.elim
    · exact h.elim⟩
def addI : PV → PV → R PV := iOp0 fun i j => .int (i + j)
def subI : PV → PV → R PV := iOp0 fun i j => .int (i - j)
noncomputable def mulI : PV → PV → R PV := iOp (fun i j => Bd 400000 i ∧ Bd 400000 j) fun i j => .int (i * j)
noncomputable def fdivI : PV → PV → R PV := iOp (fun _ j => 0 < j ∧ Bd 8999 j) fun i j => .int (i / j)
noncomputable def modI : PV → PV → R PV := iOp (fun _ j => 0 < j) fun i j => .int (i % j)
noncomputable def powI : PV → PV → R PV := iOp (fun i j => 0 ≤ j ∧ j ≤ 1000 ∧ Bd 63 i) fun i j => .int (i ^ j.toNat)
def ltI : PV → PV → R PV := iOp0 fun i j => .bl (decide (i < j))
def leI : PV → PV → R PV := iOp0 fun i j => .bl (decide (i ≤ j))
def gtI : PV → PV → R PV := iOp0 fun i j => .bl (decide (j < i))
def geI : PV → PV → R PV := iOp0 fun i j => .bl (decide (j ≤ i))
theorem o_add : OpJ G X W (binaryOp .Add) addI := opj_int0 op_add fun _ _ _ => .int _
theorem o_sub : OpJ G X W (binaryOp .Sub) subI := opj_int0 op_sub fun _ _ _ => .int _
theorem o_mul : OpJ G X W (binaryOp .Mult) mulI := opj_int op_mulW (fun i j h => by
  have h1 := h.1.log (by decide)
  have h2 := h.2.log (by decide)
  show _ < 1000000
  omega) fun _ _ _ => .int _
theorem o_fdiv : OpJ G X W (binaryOp .FloorDiv) fdivI := opj_int op_fdivW (fun i j h => ⟨h.1, Nat.lt_trans (h.2.log (by decide)) (by decide)⟩) fun _ _ _ => .int _
theorem o_mod : OpJ G X W (binaryOp .Mod) modI := opj_int op_mod (fun i j h => h) fun _ _ _ => .int _
theorem o_pow : OpJ G X W (binaryOp .Pow) powI := opj_int op_pow (fun i j h => ⟨h.1, by omega, Nat.lt_trans h.2.2.lt (Nat.pow_lt_pow_right (by decide) (by decide))⟩) fun _ _ _ => .int _
theorem o_lt : OpJ G X W (compareOp .Lt) ltI := opj_int0 op_lt fun _ _ _ => .bl _
theorem o_le : OpJ G X W (compareOp .LtE) leI := opj_int0 op_le fun _ _ _ => .bl _
theorem o_gt : OpJ G X W (compareOp .Gt) gtI := opj_int0 op_gt fun _ _ _ => .bl _
theorem o_ge : OpJ G X W (compareOp .GtE) geI := opj_int0 op_ge fun _ _ _ => .bl _
def negI (a : PV) : R PV := match a with | .int i => .ok (.int (-i)) | _ => .bad
theorem u_neg : UnJ G X (unaryOp .USub) negI := ⟨_, un_neg, fun W Hf H σ x a Q s r h => by
  cases r with
  | int i => exact ⟨i, rfl, h _ Hf H (Gr.refl s) (.int _)⟩
  | _ => exact h.elim⟩
def scV (p : PV) : Option V := match p with | .non => some .non | .bl b => some (.bl b) | .int i => some (.int i) | .str x => some (.str x) | _ => none
theorem scV_rep {p : PV} {v x : V} (h : scV p = some x) (r : Rep G Hf p v) : v = x := by
  cases r <;> cases h <;> rfl
def eqS (a b : PV) : R PV := match scV a, scV b with | some x, some y => if scal x y = true then .ok (.bl (decide (x = y))) else .bad | _, _ => .bad
def neS (a b : PV) : R PV := match scV a, scV b with | some x, some y => if scal x y = true then .ok (.bl (!decide (x = y))) else .bad | _, _ => .bad
@[simp] theorem eqS_int (i j : Int) : eqS (.int i) (.int j) = .ok (.bl (decide (i = j))) := by simp [eqS, scV, scal]
@[simp] theorem eqS_str (i j : Str) : eqS (.str i) (.str j) = .ok (.bl (decide (i = j))) := by simp [eqS, scV, scal]
@[simp] theorem eqS_bl (i j : Bool) : eqS (.bl i) (.bl j) = .ok (.bl (decide (i = j))) := by simp [eqS, scV, scal]
@[simp] theorem neS_int (i j : Int) : neS (.int i) (.int j) = .ok (.bl (!decide (i = j))) := by simp [neS, scV, scal]
@[simp] theorem neS_str (i j : Str) : neS (.str i) (.str j) = .ok (.bl (!decide (i = j))) := by simp [neS, scV, scal]
@[simp] theorem neS_bl (i j : Bool) : neS (.bl i) (.bl j) = .ok (.bl (!decide (i = j))) := by simp [neS, scV, scal]
theorem o_eq : OpJ G X W (compareOp .Eq) eqS := ⟨_, OpS.of op_eq, fun Hf H σ x y a b Q s ra rb h => by
  unfold eqS at h
  split at h
  · rename_i u v eu ev
    have e1 := scV_rep eu ra
    have e2 := scV_rep ev rb
    subst e1 e2
    by_cases k : scal x y = true
    · rw [if_pos k] at h
      exact ⟨k, h _ Hf H (Gr.refl s) (.bl _)⟩
    · rw [if_neg k] at h
      exact h.elim
  · exact h.elim⟩
theorem o_ne : OpJ G X W (compareOp .NotEq) neS := ⟨_, OpS.of op_ne, fun Hf H σ x y a b Q s ra rb h => by
  unfold neS at h
  split at h
  · rename_i u v eu ev
    have e1 := scV_rep eu ra
    have e2 := scV_rep ev rb
    subst e1 e2
    by_cases k : scal x y = true
    · rw [if_pos k] at h
      exact ⟨k, h _ Hf H (Gr.refl s) (.bl _)⟩
    · rw [if_neg k] at h
      exact h.elim
  · exact h.elim⟩
def isNon (p : PV) : Bool := match p with | .non => true | _ => false
theorem isNon_rep {p : PV} {v : V} (r : Rep G Hf p v) : decide (v = .non) = isNon p := by cases r <;> rfl
def isNP (a b : PV) : R PV := match b with | .non => .ok (.bl (isNon a)) | _ => .bad
def notNP (a b : PV) : R PV := match b with | .non => .ok (.bl (!isNon a)) | _ => .bad
theorem o_isN : OpJ G X W (compareOp .Is) isNP := ⟨_, OpS.of op_isN, fun Hf H σ x y a b Q s ra rb h => by
  cases rb with
  | non => exact ⟨rfl, by rw [isNon_rep ra]; exact h _ Hf H (Gr.refl s) (.bl _)⟩
  | _ => exact h.elim⟩
theorem o_notN : OpJ G X W (compareOp .IsNot) notNP := ⟨_, OpS.of op_notN, fun Hf H σ x y a b Q s ra rb h => by
  cases rb with
  | non => exact ⟨rfl, by rw [isNon_rep ra]; exact h _ Hf H (Gr.refl s) (.bl _)⟩
  | _ => exact h.elim⟩
def lenB (l : List PV) : R PV := match l with
  | [.lst m] => .ok (.int m.length)
  | [.tup m] => .ok (.int m.length)
  | [.str x] => if x.length ≤ sizeLine then .ok (.int x.length) else .bad
  | _ => .bad
theorem b_len (hK : X.K = G.K) : CallJ G X (.builtin "len") lenB := ⟨_, call_len, fun W Hf H σ vs l Q s r h => by
  unfold lenB at h
  split at h
  · rename_i m
    cases r with
    | cons r1 r2 =>
      cases r2
      cases r1 with
      | lst ht hr => exact ⟨_, m.length, rfl, by rw [hK]; exact .inl ⟨_, s.seq ht, hr.length⟩, h _ Hf H (Gr.refl s) (.int _)⟩
  · rename_i m
    cases r with
    | cons r1 r2 =>
      cases r2
      cases r1 with
      | tup ht hr => exact ⟨_, m.length, rfl, by rw [hK]; exact .inr ⟨_, Bp.seqT s ht, hr.length⟩, h _ Hf H (Gr.refl s) (.int _)⟩
  · rename_i x
    cases r with
    | cons r1 r2 =>
      cases r2
      cases r1
      by_cases k : x.length ≤ sizeLine
      · rw [if_pos k] at h
        exact ⟨_, x.length, rfl, ⟨k, rfl⟩, h _ Hf H (Gr.refl s) (.int _)⟩
      · rw [if_neg k] at h
        exact h.elim
  · exact h.elim⟩
def absB (l : List PV) : R PV := match l with | [.int i] => .ok (.int (if i < 0 then -i else i)) | _ => .bad
theorem b_abs : CallJ G X (.builtin "abs") absB := ⟨_, call_abs, fun W Hf H σ vs l Q s r h => by
  unfold absB at h
  split at h
  · rename_i i
    cases r with
    | cons r1 r2 =>
      cases r2
      cases r1
      exact ⟨i, rfl, h _ Hf H (Gr.refl s) (.int _)⟩
  · exact h.elim⟩
def intB (l : List PV) : R PV := match l with | [.int i] => .ok (.int i) | [.bl b] => .ok (.int (if b then 1 else 0)) | _ => .bad
theorem b_int : CallJ G X (.type "int") intB := ⟨_, call_int1, fun W Hf H σ vs l Q s r h => by
  unfold intB at h
  split at h
  · rename_i i
    cases r with
    | cons r1 r2 =>
      cases r2
      cases r1
      exact .inl ⟨i, rfl, h _ Hf H (Gr.refl s) (.int _)⟩
  · rename_i b
    cases r with
    | cons r1 r2 =>
      cases r2
      cases r1
      exact .inr ⟨b, rfl, h _ Hf H (Gr.refl s) (.int _)⟩
  · exact h.elim⟩
def boolB (l : List PV) : R PV := match l with | [.int i] => .ok (.bl (i != 0)) | [.bl b] => .ok (.bl b) | _ => .bad
theorem b_bool : CallJ G X (.type "bool") boolB := ⟨_, call_bool1, fun W Hf H σ vs l Q s r h => by
  unfold boolB at h
  split at h
  · rename_i i
    cases r with
    | cons r1 r2 =>
      cases r2
      cases r1
      exact .inl ⟨i, rfl, h _ Hf H (Gr.refl s) (.bl _)⟩
  · rename_i b
    cases r with
    | cons r1 r2 =>
      cases r2
      cases r1
      exact .inr ⟨b, rfl, h _ Hf H (Gr.refl s) (.bl _)⟩
  · exact h.elim⟩
def tupB (l : List PV) : R PV := match l with | [.lst m] => .ok (.tup m) | [.tup m] => .ok (.tup m) | _ => .bad
theorem b_tuple (hK : X.K = G.K) : CallJ G X (.type "tuple") tupB := ⟨_, call_tuple_of, fun W Hf H σ vs l Q s r h => by
  unfold tupB at h
  split at h
  · rename_i m
    cases r with
    | cons r1 r2 =>
      cases r2
      cases r1 with
      | lst ht hr =>
        rename_i a ws
        exact ⟨a, ws, rfl, .inl ⟨by rw [hK]; exact s.seq ht, fun p hp => h _ _ _ (Gr.one (o := .tup ws) s hp) (.tup (SqT.of upd_same) (hr.mono (Same.new (none_back s hp))))⟩⟩
  · rename_i m
    cases r with
    | cons r1 r2 =>
      cases r2
      cases r1 with
      | tup ht hr =>
        rename_i a ws
        exact ⟨a, ws, rfl, .inr ⟨by rw [hK]; exact Bp.seqT s ht, h _ Hf H (Gr.refl s) (.tup ht hr)⟩⟩
  · exact h.elim⟩
end
def cutP (l : List PV) (lo hi : Option Int) : List PV := (l.drop (HT.sIx l.length 0 lo)).take (HT.sIx l.length l.length hi - HT.sIx l.length 0 lo)
def asI (p : PV) : R Int := match p with | .int i => .ok i | _ => .bad
def noB (_ : Env) : R (Option Int) := .ok none
def someB (d : Env → R PV) (env : Env) : R (Option Int) := ((d env).bind asI).bind fun i => .ok (some i)
def sliceE (d : Env → R PV) (lo hi : Env → R (Option Int)) (env : Env) : R PV := (d env).bind fun p => (lo env).bind fun l => (hi env).bind fun h => match p with
  | .lst m => .ok (.lst (cutP m l h))
  | _ => .bad
section
variable {G : Ga} {X : Cx} {W : WX} {e a b : Expr} {elo ehi : Option Expr} {d : Env → R PV} {lo hi : Env → R (Option Int)} {pos p2 : Pos} {dl : Env → R (List PV)} {x : Str} {es : List Expr}
structure JO (G : Ga) (X : Cx) (W : WX) (e : Option Expr) (d : Env → R (Option Int)) : Prop where
  ex : ∃ t, PO X e t ∧ ∀ (H0 Hf H : Hp) (env : Env) (σ : L2.St) (Q : Option Int → Hp → Prop), Same Hf H → EnvOk G H0 Hf H env σ → PostG G W (fun _ a b => b = a) Hf H σ (d env) Q → t σ H Q
theorem jo_none : JO G X W none noB := ⟨_, po_none, fun H0 Hf H env σ Q s E h => h none Hf H (Gr.refl s) rfl⟩
theorem jo_some (h : JE G X W e d) : JO G X W (some e) (someB d) := by
  obtain ⟨t, pt, jt⟩ := h
  refine ⟨_, po_some pt, fun H0 Hf H env σ Q s E h => jt H0 Hf H env σ _ s E ?_⟩
  unfold someB at h
  cases ed : d env with
  | ok p =>
    rw [ed] at h
    intro v Hf' H' g r
    cases r with
    | int i => exact ⟨i, rfl, h _ Hf' H' g rfl⟩
    | _ => exact h.elim
  | er c fs => rw [ed] at h; exact h
  | bad => rw [ed] at h; exact h.elim
theorem cut_reps {G : Gb} {Hf : Hp} {l : List PV} {vs : List V} (r : Reps G Hf l vs) (lo hi : Option Int) : Reps G Hf (cutP l lo hi) (cutV vs lo hi) := by
  unfold cutP cutV
  rw [r.length]
  exact (r.drop _).take _
theorem je_slice (hK : X.K = G.K) (h : JE G X W e d) (hl : JO G X W elo lo) (hh : JO G X W ehi hi) : JE G X W (.Subscript e (.Slice elo ehi none p2) pos) (sliceE d lo hi) := by
  obtain ⟨t, pt, jt⟩ := h
  obtain ⟨u, pu, ju⟩ := hl
  obtain ⟨w, pw, jw⟩ := hh
  refine ⟨_, pe_slice sl_list pt pu pw, fun H0 Hf H env σ Q s E h => jt H0 Hf H env σ _ s E (PostG.bind h fun p v Hf1 H1 _ g1 r1 h1 => ?_)⟩
  refine ju H0 Hf1 H1 env σ _ g1.sub (E.grow g1) (PostG.bind h1 fun l lv Hf2 H2 _ g2 r2 h2 => ?_)
  refine jw H0 Hf2 H2 env σ _ g2.sub ((E.grow g1).grow g2) (PostG.bind h2 fun m mv Hf3 H3 _ g3 r3 h3 => ?_)
  subst r2 r3
  have r1' := (r1.mono g2.fz).mono g3.fz
  cases r1' with
  | lst ht hr =>
    rename_i q a vs _
    exact ⟨a, vs, rfl, by rw [hK]; exact g3.sub.seq ht, fun p hp => h3 _ _ _ (Gr.one (o := .lst (cutV vs lv mv)) g3.sub hp) (.lst (SqL.of upd_same) ((cut_reps hr _ _).mono (Same.new (none_back g3.sub hp))))⟩
  | _ => exact h3.elim
inductive Kd where
  | non | bl | int | str | tup | lst | obj (c : Nat)
  deriving DecidableEq
def kdP (p : PV) : Option Kd := match p with | .non => some .non | .bl _ => some .bl | .int _ => some .int | .str _ => some .str | .tup _ => some .tup | .lst _ => some .lst | .fr _ => some (.obj 0) | .obj c _ => some (.obj c) | _ => none
def kdV (G : Gb) (k : Kd) : Value := match k with | .non => .type "NoneType" | .bl => .type "bool" | .int => .type "int" | .str => .type "str" | .tup => .type "tuple" | .lst => .type "list" | .obj c => .ref (G.cm c)
structure InC (K : PySem.W.Frag) (C : Addr) : Prop where
  cl : Cls K C
  ca : PySem.W.findIn K (.ref C) "__class__" = some (some (.builtin "object.__class__"))
  cn : PySem.W.specialIn K (.builtin "object.__class__") "__get__" = some (some (.builtin "getset_descriptor.__get__"))
  ct : PySem.W.takesIn K (.builtin "object.__class__") = some true
  cm : PySem.W.mroIn K C (.type "object") = some true
def isiP (tb : Kd → Option Bool) (p : PV) : R PV := match kdP p with | some k => (match tb k with | some b => .ok (.bl b) | none => .bad) | none => .bad
structure IsT (G : Gb) (u : Value) (tb : Kd → Option Bool) : Prop where
  kit : ∀ k b, tb k = some b → PySem.W.kitOne G.K (kdV G k) u = some b
  own : ∀ c b, tb (.obj c) = some b → InC G.K (G.cm c)
structure IsTs (G : Gb) (us : List Value) (tb : Kd → Option Bool) : Prop where
  kit : ∀ k b, tb k = some b → PySem.W.kitAny G.K (kdV G k) us = some b
  own : ∀ c b, tb (.obj c) = some b → InC G.K (G.cm c)
theorem kd_ty {G : Gb} {Hf H : Hp} {p : PV} {v : V} {k : Kd} (own : ∀ c, k = .obj c → InC G.K (G.cm c)) (s : Same Hf H) (r : Rep G Hf p v) (h : kdP p = some k) : TyX G.K H v (kdV G k) := by
  cases r with
  | non => cases h; exact .base .non
  | bl b => cases h; exact .base (.bl b)
  | int i => cases h; exact .base (.int i)
  | str x => cases h; exact .base (.str x)
  | fr ho =>
    cases h
    have q := own 0 rfl
    exact .base (.ins (s _ _ ho) q.cl q.ca q.cn q.ct q.cm)
  | tup ht hr =>
    cases h
    rcases Bp.seqT s ht with (z | ⟨o, z⟩) | ⟨o, its, n, hk, hc, _⟩
    · exact .base (.tup z)
    · exact .fTuple z
    · exact .kTuple hk hc
  | lst ht hr =>
    cases h
    rcases s.seq ht with (z | ⟨o, z⟩) | ⟨o, its, n, hk, hc, _⟩
    · exact .base (.lst z)
    · exact .base (.frz z)
    · exact .kList hk hc
  | obj ho hf =>
    cases h
    have q := own _ rfl
    exact .base (.ins (s _ _ ho) q.cl q.ca q.cn q.ct q.cm)
  | cls c => cases h
  | typ n => cases h
  | dic _ _ => cases h
variable {p0 : Pos}
theorem je_isi {u : Value} {cv : V} {tb : Kd → Option Bool} (T : IsT G u tb) (hK : X.K = G.K) (hm : X.mg "isinstance" = none) (h : JE G X W a d) (hc : PE X b (tC cv)) (k : ClsV cv u) (hg : Gl X "isinstance" := by rfl)
    (s1 : starEach [a, b] X.env = (false, eval a X.env) :: starEach [b] X.env := by rfl) (s2 : starEach [b] X.env = (false, eval b X.env) :: starEach [] X.env := by rfl) (hpl : (backTo pos (starEach [b] X.env)).any (·.1) = false := by rfl) :
    JE G X W (.Call (.Name "isinstance" p0) [a, b] [] pos) (un1 (isiP tb) d) := by
  obtain ⟨t, pt, jt⟩ := h
  refine ⟨_, pe_callB call_isi hg hm (by decide +kernel) (pa_cons pt (pa_cons hc pa_nil s2) s1) (by decide) (by decide) s1 hpl, fun H0 Hf H env σ Q s E h => jt H0 Hf H env σ _ s E (PostG.bind h fun p v Hf1 H1 _ g1 r1 h1 => ?_)⟩
  unfold isiP at h1
  cases ek : kdP p with
  | none => simp only [ek] at h1; exact h1.elim
  | some kk =>
    simp only [ek] at h1
    cases et : tb kk with
    | none => simp only [et] at h1; exact h1.elim
    | some b' =>
      simp only [et] at h1
      refine ⟨v, cv, _, u, b', rfl, k, by rw [hK]; exact kd_ty (fun c e => T.own c b' (e ▸ et)) g1.sub r1 ek, by rw [hK]; exact T.kit kk b' et, h1 _ Hf1 H1 (Gr.refl g1.sub) (.bl _)⟩
end
end J

namespace J
open PySem.Spec PySem PyProof.Rows
open L2 hiding St Takes XE CX takes_of PMk MkP ps_raise mk_of ps_try_as ps_try_many pmk_own passAt passes_call takes0 passL
open L2N hiding St
open Bp (takes0 passL)
open L2H (FnH RoomH HotC Hot1 cxH fn_ofH pe_callH)

section
variable {X : Cx} {C fI : Addr} {k : Nat} {fd : FuncData} {ps : List Str} {sp : Sp} {x : Str} {e : Expr} {es : List Expr} {ta : TA} {p pos : Pos}
theorem pmk_fields (T : OexC X.K C) (iC : PySem.W.findIn X.K (.ref C) "__init__" = some (some (.ref fI))) (tI : PySem.W.typeIn X.K (.ref fI) = some (.type "function"))
    (F1 : FnOk X.prog X.w X.K X.mg X.base (L2N.CX X.prog X.w) k fI fd ps sp) (hr : Room (k + 1) X.A) (hb : Binds X.K fd ps []) (hm : X.mg x = some (.ref C)) (ha : PA X (e :: es) ta) (hg : Gl X x := by rfl)
    (hdb : (x == ("__debug__" : Str)) = false := by decide) (he : starEach (e :: es) X.env = (false, eval e X.env) :: starEach es X.env := by rfl) (hpl : (backTo pos (starEach es X.env)).any (·.1) = false := by rfl) :
    L2N.PMk X (.Call (.Name x p) (e :: es) [] pos) (tMkO C sp [] ta) := by
  intro pl s σ H Q I hq
  obtain ⟨_, _, _, _, bm, _, _, _, _, _, _, _, _, _, _, hC, hbm⟩ := T.cls
  refine wpAny_Call_Name_kw (ld_glob I hg hm ?_ hdb)
  refine PySem.W.callWith_K (h₀ := X.base) I.ok.mod.kin T.kC (thn (ha.run pos pl s σ H _ I hq) fun us s1 ⟨vs, H1, I1, r1, hz, q1⟩ => ⟨I1.kIn, ?_⟩) he hpl
  obtain ⟨hp, g, dr, tk, os⟩ := s1
  have z1 : hp.objs.size ≤ hp.objs.size + 1 := Nat.le_succ _
  have z2 := q1 (hp.objs.size + 1) (I1.hok.fresh z1)
  have z3 : ∀ b o, hp.get? b = some o → ((hp.push (PySem.W.kdv_tup us)).push (PySem.HandSPX.excO C hp.objs.size)).get? b = some o := fun b o w => Heap.get?_push_of_some _ (Heap.get?_push_of_some _ w)
  have z4 : ((hp.push (PySem.W.kdv_tup us)).push (PySem.HandSPX.excO C hp.objs.size)).get? (hp.objs.size + 1) = some (PySem.HandSPX.excO C hp.objs.size) := by heap_get
  have J2 : Inv X pl σ (upd H1 (hp.objs.size + 1) (exo (hp.objs.size + 1) C none)) ⟨(hp.push (PySem.W.kdv_tup us)).push (PySem.HandSPX.excO C hp.objs.size), g, dr, tk, os⟩ :=
    I1.laid (t' := tk) z3 z1 (exo_ok z4)
  rw [List.append_nil] at z2
  have rr : Vals (V.ref (hp.objs.size + 1) :: vs) (Value.ref (hp.objs.size + 1) :: us) := .cons rfl r1
  have ll : (Value.ref (hp.objs.size + 1) :: us).length = ps.length := rr.length.symm.trans (F1.len _ _ _ _ z2)
  have lu : us.length ≤ sizeLine := by
    rw [← r1.length, sizeLine_eq]
    omega
  have bb := hb _ (Value.ref (hp.objs.size + 1) :: us) J2.kIn (by rw [List.append_nil]; exact ll)
  rw [List.append_nil] at bb
  refine wpAny_call (PySem.HandSPX.call_own F.excBase_ValueError (fun Y => PySem.HandSPX.refsVE_contains Y bm hbm) (I1.kIn _ _ hC) (PySem.W.looks_findIn I1.kIn iC) (fun me => PySem.W.bind_fn I1.kIn me tI) lu
    (codeAny_mono (F1.run _ X.stack _ _ ⟨Value.ref (hp.objs.size + 1) :: us, []⟩ _ _ _ E0 (hr.make C us []) (J2.env0.make C us []) bb rr z2) fun r s' w => ?_))
  cases r with
  | error er => exact passL pl σ _ _ er s' J2 w
  | ok fl =>
    cases fl with
    | ret u =>
      obtain ⟨v, H2, os2, ba, un2, ok2, rv, ev, d, fs, ea, ed, nd, q2⟩ := w
      subst ev
      obtain ⟨h2, g2, d2, t2, o2⟩ := s'
      obtain ⟨t0, Gh, J, kG, ge, hoe, na⟩ := mk_end0 (d2 := d2) (t2 := t2) I1 z1 z3 un2 ok2 os2 ba ea ed nd
      exact ⟨rv, hp.objs.size + 1, _, _, ⟨Gh, g2, d2, t2, o2⟩, _, .ref C, some d, rfl, J, kG, ge, hoe, ⟨rfl, rfl, fun ws hw => by cases hw; rfl⟩, rfl, rfl, na, rfl, ba, raises_own T.exC T.tyC, q2⟩
    | next => exact w.elim
    | brk => exact w.elim
    | cont => exact w.elim
end
def spX (C : Addr) (ns : List Str) : Sp := fun vs H Q _ => ∃ a xs, vs = .ref a :: xs ∧ xs.length = ns.length ∧ H a = some (exo a C none) ∧
  ∀ dx H2, H2 a = some (exo a C (some dx)) → H2 dx = some (exd dx (ns.zip xs).reverse) → H dx = none → (∀ b o, b ≠ a → H b = some o → H2 b = some o) → Q .non H2
section
variable {P : Program} {w : World} {K : PySem.W.Frag} {mg : Str → Option Value} {base : Heap}
structure EDef (P : Program) (w : World) (K : PySem.W.Frag) (mg : Str → Option Value) (base : Heap) (k : Nat) (x : Str) (C : Addr) (ns : List Str) : Prop where
  ex : ∃ f fd ps, mg x = some (.ref C) ∧ OexC K C ∧ PySem.W.findIn K (.ref C) "__init__" = some (some (.ref f)) ∧ PySem.W.typeIn K (.ref f) = some (.type "function") ∧ L2.Binds K fd ps [] ∧ FnOk P w K mg base (L2N.CX P w) k f fd ps (spX C ns)
end
section
variable {G : Ga} {X : Cx} {W : WX} {k : Nat} {x : Str} {c : Nat} {ns : List Str} {e : Expr} {es : List Expr} {p pos pos2 : Pos} {dl : Env → R (List PV)}
def zipF (ns : List Str) (l : List PV) : List (Str × PV) := (ns.zip l).reverse
theorem repF_zip {G : Gb} {Hf : Hp} : ∀ {ns : List Str} {l : List PV} {vs : List V}, Reps G Hf l vs → RepF G Hf (ns.zip l) (ns.zip vs)
  | [], _, _, _ => .nil
  | _ :: _, _, _, .nil => .nil
  | _ :: ns, _, _, .cons h r => .cons h (repF_zip r)
theorem repF_app {G : Gb} {Hf : Hp} : ∀ {l m : List (Str × PV)} {vs ws : List (Str × V)}, RepF G Hf l vs → RepF G Hf m ws → RepF G Hf (l ++ m) (vs ++ ws)
  | _, _, _, _, .nil, h => h
  | _, _, _, _, .cons h r, s => .cons h (repF_app r s)
theorem repF_rev {G : Gb} {Hf : Hp} : ∀ {l : List (Str × PV)} {vs : List (Str × V)}, RepF G Hf l vs → RepF G Hf l.reverse vs.reverse
  | _, _, .nil => .nil
  | _, _, .cons h r => by
    rw [List.reverse_cons, List.reverse_cons]
    exact repF_app (repF_rev r) (.cons h .nil)
def raiseF (c : Nat) (ns : List Str) (dl : Env → R (List PV)) (env : Env) : F := match dl env with
  | .ok l => if l.length = ns.length ∧ l ≠ [] ∧ ns ≠ [] ∧ ns.length ≤ 9 then .er env c (zipF ns l) else .bad
  | .er c fs => .er env c fs
  | .bad => .bad
theorem js_raise {C : Addr} (D : EDef X.prog X.w X.K X.mg X.base k x C ns) (hC : C = G.cm c) (hr : Room (k + 1) X.A) (tk : Takes X W) (ha : JA G X W (e :: es) dl) (hc : X.calm = true := by rfl) (hg : Gl X x := by rfl)
    (hdb : (x == ("__debug__" : Str)) = false := by decide) (he : starEach (e :: es) X.env = (false, eval e X.env) :: starEach es X.env := by rfl) (hpl : (backTo pos (starEach es X.env)).any (·.1) = false := by rfl) :
    JS G X W (.Raise (some (.Call (.Name x p) (e :: es) [] pos)) none pos2) (raiseF c ns dl) := by
  obtain ⟨f, fd, ps, hm, T, iC, tI, hb, F1⟩ := D.ex
  obtain ⟨t, pt, jt⟩ := ha
  subst hC
  refine ⟨_, L2N.ps_raise hc tk (pmk_fields T iC tI F1 hr hb hm pt hg hdb he hpl), fun Hf0 H0 Hf H env σ D S h => ?_⟩
  refine jt H0 Hf H env σ _ S.gr.sub S.env ?_
  unfold raiseF at h
  cases ed : dl env with
  | bad => rw [ed] at h; exact h.elim
  | er c' fs =>
    rw [ed] at h
    exact fun Hf' H' d g r => h σ Hf' H' d (S.grow g) g.fz r
  | ok l =>
    rw [ed] at h
    intro vs Hf1 H1 g1 r1
    by_cases z : l.length = ns.length ∧ l ≠ [] ∧ ns ≠ [] ∧ ns.length ≤ 9
    · simp only [if_pos z] at h
      have hl : vs.length = ns.length := by rw [← r1.length]; exact z.1
      have S1 := S.grow g1
      refine ⟨by have := z.2.2.2; omega, fun a ha => ⟨a, vs, by rw [List.append_nil], hl, upd_same, fun dx H2 h2 h3 nd kp => ?_⟩⟩
      have nda : dx ≠ a := fun y => by
        rw [y, upd_same] at nd
        cases nd
      have n1 : H1 dx = none := by rw [upd_ne nda] at nd; exact nd
      have sm : Same H1 (upd (del H2 a) dx (.xd (ns.zip vs).reverse)) := fun b o hb => by
        have nba : b ≠ a := ne_of_none hb ha
        rw [upd_ne (ne_of_none hb n1), L2.del_ne nba]
        exact kp b o nba (by rw [upd_ne nba]; exact hb)
      refine ⟨rfl, dx, _, h2, h3, n1, ?_⟩
      refine h σ Hf1 _ (some dx) (S1.grow (Gr.up g1.sub sm)) g1.fz ?_
      have rf := repF_rev (repF_zip (ns := ns) r1)
      unfold zipF
      cases ef : (ns.zip l).reverse with
      | nil =>
        exfalso
        have y : ns.zip l = [] := by simpa using ef
        cases ns with
        | nil => exact z.2.2.1 rfl
        | cons n1 nr =>
          cases l with
          | nil => exact z.2.1 rfl
          | cons l1 lr => cases y
      | cons u us => exact ⟨dx, _, rfl, upd_same, by rw [← ef]; exact rf⟩
    · simp only [if_neg z] at h
      exact h.elim
end
end J

namespace J
open PySem.Spec PySem PyProof.Rows
open L2 hiding St Takes XE CX takes_of PMk MkP ps_raise mk_of ps_try_as ps_try_many pmk_own passAt passes_call takes0 passL
open L2N hiding St
open Bp (takes0 passL)
open L2H (FnH RoomH HotC Hot1 cxH fn_ofH pe_callH)

def noExc (e : Env) : Bool := e.all fun s => match s with | .exc _ _ => false | _ => true
def outF (i : Nat) (f : F) : F := match f with
  | .nx e => if noExc (e.set i .no) = true then .nx (e.set i .no) else .bad
  | .bk e => if noExc (e.set i .no) = true then .bk (e.set i .no) else .bad
  | .ct e => if noExc (e.set i .no) = true then .ct (e.set i .no) else .bad
  | .rt p => .rt p
  | _ => .bad
def tryF (cat : Nat → Option Bool) (i : Nat) (fb fs : Env → F) (env : Env) : F := match fb env with
  | .er e c l => (match cat c with
    | some true => outF i (fs (e.set i (.exc c l)))
    | some false => .er e c l
    | none => .bad)
  | .nx e => .nx e | .rt p => .rt p | .bk e => .bk e | .ct e => .ct e | .bad => .bad
section
variable {G : Ga} {X : Cx} {W : WX} {Hf0 H0 Hf H : Hp} {env : Env} {σ : L2.St} {i : Nat} {x n : Str} {body suite : List Stmt} {b₀ : Stmt} {np pos pos' : Pos} {fb fs : Env → F} {cv : Value} {cat : Nat → Option Bool}
theorem sl_swap {G' : Ga} {s : Sl} {o : Option (Option V)} (hG : G'.toGb = G.toGb) (hs : G'.sa = G.sa) (hs2 : G'.sb = G.sb) (hn : ∀ c l, s ≠ .exc c l) (h : SlOk G H0 Hf H s o) : SlOk G' H0 Hf H s o := by
  obtain ⟨B, xi, sa, sb⟩ := G
  obtain ⟨B', xi', sa', sb'⟩ := G'
  cases hG
  cases hs
  cases hs2
  cases s with
  | exc c l => exact absurd rfl (hn c l)
  | no => trivial
  | val p => exact h
  | own l => exact h
  | ownD l => exact h
  | iol l => exact h
  | io2 l => exact h
  | oob c fs => exact h
  | slf c fs => exact h
  | par l => exact h
theorem noExc_at {e : Env} (h : noExc e = true) (j : Nat) : ∀ c l, e.at j ≠ .exc c l := fun c l z => by
  unfold Env.at at z
  rw [List.getD_eq_getElem?_getD] at z
  cases q : e[j]? with
  | none => rw [q] at z; cases z
  | some s =>
    rw [q] at z
    have : s = .exc c l := z
    subst this
    have m := List.mem_of_getElem? q
    have := List.all_eq_true.mp h _ m
    cases this
theorem env_noX (hx : G.xi = none) (E : EnvOk G H0 Hf H env σ) (j : Nat) : ∀ c l, env.at j ≠ .exc c l := fun c l z => by
  have q := E.get j
  rw [z] at q
  obtain ⟨a, d, _, y, _⟩ := q
  rw [hx] at y
  cases y
theorem env_in {a : Addr} {c : Nat} {d : Option Addr} {l : List (Str × PV)} (hx : G.xi = none) (E : EnvOk G H0 Hf H env σ) (ed : ErD G Hf H l d) : EnvOk { G with xi := some (a, .ref (G.cm c), d) } H0 Hf H (env.set i (.exc c l)) (σ.set i (some (.ref a))) := by
  have E' : EnvOk { G with xi := some (a, .ref (G.cm c), d) } H0 Hf H env σ := ⟨E.len, fun j => sl_swap (G := G) rfl rfl rfl (env_noX hx E j) (E.get j), E.dis⟩
  exact E'.set ⟨a, d, rfl, rfl, ed⟩ fun z => nomatch z
theorem env_out {G' : Ga} (hG : G'.toGb = G.toGb) (hs : G'.sa = G.sa) (hs2 : G'.sb = G.sb) (h : noExc (env.set i .no) = true) (E : EnvOk G' H0 Hf H env σ) : EnvOk G H0 Hf H (env.set i .no) (σ.set i none) := by
  have E' := E.drop i
  exact ⟨E'.len, fun j => sl_swap hG.symm hs.symm hs2.symm (noExc_at h j) (E'.get j), E'.dis⟩
theorem js_try (i : Nat) (hx : G.xi = none) (hs : X.stack = X.env :: X.outer) (hf : X.env.frame = some X.env.locals) (nd : X.N.Nodup) (hc : Names X x cv) (tk : Takes X W) (hcat : ∀ c b, cat c = some b → PySem.W.exmOne X.K (.ref (G.cm c)) cv = some b)
    (hb : ∀ (W' : WX) (pn : List (Addr × Obj)) (xe : Value → Shared → Prop), Takes (X.tr pn xe) W' → PassesOwn (model X.prog X.w) X.A X.env xe → JSs G (X.tr pn xe) W' body fb)
    (hsu : ∀ (a : Addr) (oe : Obj) (cls : Value) (d : Option Addr) (pn : List (Addr × Obj)), Zn cls d oe → (∃ vs, oe.data = .fields vs) → JSs { G with xi := some (a, cls, d) } (X.suite a ((a, oe) :: pn)) W0 (b₀ :: suite) fs)
    (hi : X.N[i]? = some n := by rfl) (hln : X.env.kindOf n = some .local := by rfl) :
    JS G X W (.Try body [.ExceptHandler (some (.Name x np)) (some n) (b₀ :: suite) pos'] [] [] pos) (tryF cat i fb fs) := by
  refine ⟨_, L2N.ps_try_as (tb := fun W' => tsOf G W' fb) (ts := fun a cls d => tsOf { G with xi := some (a, cls, d) } W0 fs) (Wout := W) hs hf nd hi hln hc tk (fun W' pn xe t p => (hb W' pn xe t p).pss) (fun a oe cls d pn z y => (hsu a oe cls d pn z y).pss), fun Hf0 H0 Hf H env σ D S h => ?_⟩
  refine ⟨Hf0, H0, Hf, env, S, ?_⟩
  unfold tryF at h
  cases e : fb env with
  | nx e' => rw [e] at h; exact h
  | rt p => rw [e] at h; exact h
  | bk e' => rw [e] at h; exact h
  | ct e' => rw [e] at h; exact h
  | bad => rw [e] at h; exact h.elim
  | er e' c l =>
    rw [e] at h
    simp only at h
    intro σ' Hf' H' d S' s' ed
    cases ec : cat c with
    | none => rw [ec] at h; exact h.elim
    | some b =>
      rw [ec] at h
      refine ⟨b, hcat c b ec, fun hb' a ha => ?_, fun hb' => ?_⟩
      · subst hb'
        simp only at h
        refine ⟨Hf0, H0, Hf', e'.set i (.exc c l), ⟨S'.gr, env_in hx S'.env ed⟩, ?_⟩
        unfold outF at h
        cases ef : fs (e'.set i (.exc c l)) with
        | nx e2 =>
          rw [ef] at h
          by_cases y : noExc (e2.set i .no) = true
          · simp only [if_pos y] at h
            exact fun σ2 Hf2 H2 S2 s2 => h _ Hf2 H2 ⟨S2.gr, env_out (G' := { G with xi := some (a, .ref (G.cm c), d) }) rfl rfl rfl y S2.env⟩ (s'.trans s2)
          · simp only [if_neg y] at h
            exact h.elim
        | bk e2 =>
          rw [ef] at h
          by_cases y : noExc (e2.set i .no) = true
          · simp only [if_pos y] at h
            exact fun σ2 Hf2 H2 S2 s2 => h _ Hf2 H2 ⟨S2.gr, env_out (G' := { G with xi := some (a, .ref (G.cm c), d) }) rfl rfl rfl y S2.env⟩ (s'.trans s2)
          · simp only [if_neg y] at h
            exact h.elim
        | ct e2 =>
          rw [ef] at h
          by_cases y : noExc (e2.set i .no) = true
          · simp only [if_pos y] at h
            exact fun σ2 Hf2 H2 S2 s2 => h _ Hf2 H2 ⟨S2.gr, env_out (G' := { G with xi := some (a, .ref (G.cm c), d) }) rfl rfl rfl y S2.env⟩ (s'.trans s2)
          · simp only [if_neg y] at h
            exact h.elim
        | rt p => rw [ef] at h; exact fun v Hf2 H2 g2 s2 r => h v Hf2 H2 g2 (s'.trans s2) r
        | er e2 c2 l2 => rw [ef] at h; exact h.elim
        | bad => rw [ef] at h; exact h.elim
      · subst hb'
        exact h σ' Hf' H' d S' s' ed
end
def rIsEx (K : PySem.W.Frag) (a : Addr) (cls : Value) (d : Option Addr) : List V → Hp → VK → Prop := fun xs H Q => ∃ (D : Addr) (c : V) (cv : Value) (b : Bool), cls = .ref D ∧ ExcC K D ∧ (d = none ∨ ∃ dd fs, d = some dd ∧ H dd = some (.xd fs)) ∧
  xs = [.ref a, c] ∧ (∀ u, RelV c u → u = cv) ∧ PySem.W.kitOne K (.ref D) cv = some b ∧ Q (.bl b) H
theorem any_some' {K : PySem.W.Frag} {D : Addr} (h : PySem.W.hasDictIn K D = true) : (PySem.W.clsIn K D).isSome = true := by
  obtain ⟨cd, hc, _⟩ := PySem.W.any_some h
  rw [hc]
  rfl
theorem call_isEx {X : Cx} {a : Addr} {oe : Obj} {cls : Value} {d : Option Addr} {pn : List (Addr × Obj)} (hz : Zn cls d oe) (hf : ∃ vs, oe.data = .fields vs) : CallR (X.suite a ((a, oe) :: pn)) (.builtin "isinstance") (rIsEx X.K a cls d) := by
  intro pins s σ H xs us Q I r h
  obtain ⟨D, c, cv, b, rfl, T, hd, rfl, hcv, e, q⟩ := h
  obtain ⟨u1, u2, rfl, r1, r2⟩ := vals2 r
  cases (show u1 = Value.ref a from r1)
  cases hcv _ r2
  obtain ⟨hg, _⟩ := I.pin (a, oe) (List.mem_append.mpr (.inl List.mem_cons_self))
  obtain ⟨vs, hv⟩ := hf
  obtain ⟨oc, od, oda, osl⟩ := oe
  obtain ⟨h1, h2, _⟩ := hz
  dsimp only at h1 h2 hv
  subst h1 h2 hv
  have J : ∃ od', PySem.W.InstAt s.heap a ⟨.ref D, od, .fields vs, osl⟩ D od' := by
    rcases hd with rfl | ⟨dd, fs, rfl, hdd⟩
    · exact ⟨none, hg, rfl, rfl, trivial⟩
    · obtain ⟨mA, hns, _⟩ := (show ObjOk X.prog X.w H s.heap dd (.xd fs) from I.hok dd _ hdd)
      obtain ⟨o2, ho, _⟩ := lookIn_ns hns
      exact ⟨some o2, hg, rfl, rfl, ho⟩
  obtain ⟨od', J⟩ := J
  exact PySem.W.kia_one (PySem.W.kitx_exc (any_some' T.hd) T.hg T.hk T.hs T.ha T.hn T.ht T.hm) I.kIn J e (fun z => nomatch z) fun tk => ⟨.bl b, H, I.kept (t' := tk) fun _ _ z => z, rfl, q⟩
section
variable {G : Ga} {X : Cx} {W : WX} {a : Addr} {oe : Obj} {cls : Value} {d : Option Addr} {pn : List (Addr × Obj)} {i : Nat} {x n m : Str} {b e : Expr} {es : List Expr} {p0 p1 pos : Pos} {tb : Nat → Option Bool} {dl : Env → R (List PV)}
def isxP (tb : Nat → Option Bool) (i : Nat) (env : Env) : R PV := match env.at i with | .exc c _ => (match tb c with | some b => .ok (.bl b) | none => .bad) | _ => .bad
theorem je_isx {u : Value} {cv : V} (i : Nat) (hz : Zn cls d oe) (hf : ∃ vs, oe.data = .fields vs) (T : ∀ c b, tb c = some b → ExcC G.K (G.cm c) ∧ PySem.W.kitOne G.K (.ref (G.cm c)) u = some b) (hK : X.K = G.K) (hm : X.mg "isinstance" = none) (hc : PE (X.suite a ((a, oe) :: pn)) b (tC cv)) (k : ClsV cv u)
    (hi : X.N[i]? = some n := by rfl) (hv : Vis X.env.scope n := by first | exact Or.inl rfl | exact Or.inr (Or.inl rfl)) (hg : Gl X "isinstance" := by rfl) (hd : (n == ("__debug__" : Str)) = false := by decide) (hcd : (n == ("__classdict__" : Str)) = false := by decide)
    (s1 : starEach [.Name n p1, b] X.env = (false, eval (.Name n p1) X.env) :: starEach [b] X.env := by rfl) (s2 : starEach [b] X.env = (false, eval b X.env) :: starEach [] X.env := by rfl) (hpl : (backTo pos (starEach [b] X.env)).any (·.1) = false := by rfl) :
    JE { G with xi := some (a, cls, d) } (X.suite a ((a, oe) :: pn)) W (.Call (.Name "isinstance" p0) [.Name n p1, b] [] pos) (isxP tb i) := by
  refine ⟨_, pe_callB (call_isEx hz hf) hg hm (by decide +kernel) (pa_cons (pe_var hi hv hd hcd) (pa_cons hc pa_nil s2) s1) (by decide) (by decide) s1 hpl, fun H0 Hf H env σ Q s E h => ?_⟩
  unfold isxP at h
  have q := E.get i
  cases e : env.at i with
  | exc c l =>
    rw [e] at h q
    obtain ⟨a', d', ea, xi, ed⟩ := q
    simp only [Option.some.injEq, Prod.mk.injEq] at xi
    obtain ⟨rfl, rfl, rfl⟩ := xi
    simp only at h
    cases et : tb c with
    | none => simp only [et] at h; exact h.elim
    | some b' =>
      simp only [et] at h
      obtain ⟨t1, t2⟩ := T c b' et
      refine ⟨_, ea, _, cv, u, b', rfl, hK ▸ t1, ?_, rfl, fun w r => k.eq r, hK ▸ t2, h _ Hf H (Gr.refl s) (.bl _)⟩
      cases l with
      | nil => exact .inl ed
      | cons f fs =>
        obtain ⟨dd, vfs, ed1, ed2, _⟩ := ed
        exact .inr ⟨dd, vfs, ed1, ed2⟩
  | _ => rw [e] at h; exact h.elim
def fldx (cs : List Nat) (m : Str) (i : Nat) (env : Env) : R PV := match env.at i with
  | .exc c l => if c ∈ cs then (match l.lookup m with | some q => .ok q | none => .bad) else .bad
  | _ => .bad
theorem je_fldx {cs : List Nat} (i : Nat) (hz : Zn cls d oe) (hf : ∃ vs, oe.data = .fields vs) (hK : X.K = G.K) (T : ∀ c ∈ cs, XfC G.K (G.cm c) ∧ PySem.W.findIn G.K (.ref (G.cm c)) m = some none)
    (hi : X.N[i]? = some n := by rfl) (hv : Vis X.env.scope n := by first | exact Or.inl rfl | exact Or.inr (Or.inl rfl)) (hd : (n == ("__debug__" : Str)) = false := by decide) (hcd : (n == ("__classdict__" : Str)) = false := by decide) (hb : attributeBase (.Name n p1) m X.env (eval (.Name n p1) X.env) = eval (.Name n p1) X.env := by rfl) :
    JE { G with xi := some (a, cls, d) } (X.suite a ((a, oe) :: pn)) W (.Attribute (.Name n p1) m pos) (fldx cs m i) := by
  refine ⟨fun σ H Q => ∃ c ∈ cs, tXf a cls d (G.cm c) m (tVar i) σ H Q, ⟨fun pins s σ H Q I ⟨c, hc, h⟩ => ?_⟩, fun H0 Hf H env σ Q s E h => ?_⟩
  · obtain ⟨t1, t2⟩ := T c hc
    exact (pe_xf (C := G.cm c) (by rw [hK]; exact t1) (by rw [hK]; exact t2) hz.zc hf (pe_var hi hv hd hcd) hb).run pins s σ H Q I h
  · unfold fldx at h
    have q := E.get i
    cases e : env.at i with
    | exc c l =>
      rw [e] at h q
      obtain ⟨a', d', ea, xi, ed⟩ := q
      simp only [Option.some.injEq, Prod.mk.injEq] at xi
      obtain ⟨rfl, rfl, rfl⟩ := xi
      simp only at h
      by_cases hc : c ∈ cs
      · simp only [if_pos hc] at h
        cases el : l.lookup m with
        | none => simp only [el] at h; exact h.elim
        | some q =>
          simp only [el] at h
          cases l with
          | nil => cases el
          | cons f fs =>
            obtain ⟨dd, vfs, ed1, ed2, ed3⟩ := ed
            obtain ⟨v, ev, rv⟩ := ed3.lookup el
            exact ⟨c, hc, _, ea, rfl, rfl, dd, vfs, v, ed1, ed2, ev, h v Hf H (Gr.refl s) rv⟩
      · simp only [if_neg hc] at h
        exact h.elim
    | _ => rw [e] at h; exact h.elim
end
structure DefH (P : Program) (w : World) (K : PySem.W.Frag) (mg : Str → Option Value) (base : Heap) (k : Nat) (x : Str) (ps : List Str) (sp : Sp) : Prop where
  ex : ∃ f fd, mg x = some (.ref f) ∧ PySem.W.keepIn K (.ref f) = true ∧ L2.Binds K fd ps [] ∧ FnH P w K mg base (L2N.CX P w) k f fd ps sp
theorem hot_suite {X : Cx} {a : Addr} {oe : Obj} {cls : Value} {d : Option Addr} {pn : List (Addr × Obj)} (hz : Zn cls d oe) (hf : ∃ vs, oe.data = .fields vs) : HotC (X.suite a ((a, oe) :: pn)) := by
  obtain ⟨vs, hv⟩ := hf
  exact ⟨(a, oe), ⟨rfl, vs, hv, hz.2.2 vs hv⟩, List.mem_cons_self⟩
section
variable {G : Ga} {X : Cx} {W : WX} {x : Str} {e : Expr} {es : List Expr} {p0 pos : Pos} {dl : Env → R (List PV)} {f : List PV → R PV} {k : Nat} {ps : List Str}
theorem je_callH (D : DefH X.prog X.w X.K X.mg X.base k x ps (spJ G f)) (hr : RoomH k X.A) (hh : HotC X) (tk : Takes X W) (ha : JA G X W (e :: es) dl) (hg : Gl X x := by rfl) (hdb : (x == ("__debug__" : Str)) = false := by decide)
    (he : starEach (e :: es) X.env = (false, eval e X.env) :: starEach es X.env := by rfl) (hpl : (backTo pos (starEach es X.env)).any (·.1) = false := by rfl) : JE G X W (.Call (.Name x p0) (e :: es) [] pos) (callE f dl) := by
  obtain ⟨f', fd, g, kp, b, F⟩ := D.ex
  obtain ⟨t, pt, jt⟩ := ha
  exact ⟨_, pe_callH F hr hh hg g kp b (fun σ => passAt tk σ) pt hdb he hpl, fun H0 Hf H env σ Q s E h => jt H0 Hf H env σ _ s E (PostG.bind h fun l vs Hf1 H1 _ g1 r1 h1 => ⟨Hf1, l, g1.sub, r1, post_E (E := WE W) h1⟩)⟩
end
section
variable {P : Program} {w : World} {K : PySem.W.Frag} {mg : Str → Option Value} {base : Heap} {G : Gb}
theorem jdefH {x : Str} {st : Stmt} {ps N : List Str} {k : Nat} {d : Env → F} (F : Bp.GFun K mg x st ps) (S : FnScope N ps (defScope st))
    (h : ∀ (f : Addr) (cdv : Value) (A : Around) (outer : List PySem.Env) (s : Shared) (H : Hp) (E : XK) (p : Addr × Obj), Hot1 A p → RoomH k (A.deeper (envOfC x (defScope st) s.heap.objs.size f cdv)) → JSs ⟨G, none, none, none⟩ (cxH (L2N.CX P w) P w K mg base N x (defScope st) f cdv A outer s H E p) (WD E) (defBody st) d) :
    DefH P w K mg base (k + 1) x ps (spJ G (fnJ ps.length N.length d)) := by
  obtain ⟨f, fd, Fn, g, b⟩ := F.ex
  refine ⟨f, fd, g, Fn.kp, b, ?_⟩
  obtain ⟨_, _, _, _, _, _, c, _, _, e, hk, hc⟩ := Fn.ex
  subst e
  exact fn_ofH hk hc S len_ok fun A outer s H vs Q E p hot hr q => body_ok (h f c A outer s H E p hot hr) q
end
end J

namespace J
open PySem.Spec PySem PyProof.Rows
open L2 hiding St Takes XE CX takes_of PMk MkP ps_raise mk_of ps_try_as ps_try_many pmk_own passAt passes_call takes0 passL
open L2N hiding St
open Bp (takes0 passL)

theorem EnvOk.upd {G : Ga} {H0 Hf H : Hp} {env : Env} {σ : L2.St} {i : Nat} {a : Addr} {s : Sl} {o u : HO} (E : EnvOk G H0 Hf H env σ) (hi : (env.at i).isOwn = true) (ea : σ[i]? = some (some (.ref a))) (af : Hf a = none) (ah : H a = some u) (nu : ∀ fs, u ≠ .xd fs)
    (hs : SlOk G H0 Hf (upd H a o) s (some (some (.ref a)))) : EnvOk G H0 Hf (upd H a o) (env.set i s) σ := by
  have away : ∀ j b, j ≠ i → (env.at j).isOwn = true → σ[j]? = some (some (.ref b)) → b ≠ a := fun j b nj hj ej z => by
    subst z
    exact nj (E.dis j i b hj hi ej ea)
  have hl : i < σ.length := by
    by_cases l : i < σ.length
    · exact l
    · rw [List.getElem?_eq_none (by omega)] at ea
      cases ea
  refine ⟨by simp [E.len], fun j => ?_, fun j k b hj hk ej ek => ?_⟩
  · rw [Env.at_set]
    by_cases e : i = j ∧ j < env.length
    · obtain ⟨rfl, _⟩ := e
      rw [if_pos ⟨rfl, by rw [E.len]; exact hl⟩, ea]
      exact hs
    · rw [if_neg e]
      have nj : j ≠ i := fun z => e ⟨z.symm, by rw [z, E.len]; exact hl⟩
      have q := E.get j
      cases ej : env.at j with
      | no => trivial
      | val p => rw [ej] at q; exact q
      | slf c fs => rw [ej] at q; exact q
      | par l => rw [ej] at q; exact q
      | own m =>
        rw [ej] at q
        obtain ⟨b, ws, eb, b0, bf, bh, rr⟩ := q
        exact ⟨b, ws, eb, b0, bf, by rw [upd_ne (away j b nj (by rw [ej]; rfl) eb)]; exact bh, rr⟩
      | ownD m =>
        rw [ej] at q
        obtain ⟨b, ws, eb, b0, bf, bh, rr⟩ := q
        exact ⟨b, ws, eb, b0, bf, by rw [upd_ne (away j b nj (by rw [ej]; rfl) eb)]; exact bh, rr⟩
      | iol m =>
        rw [ej] at q
        obtain ⟨b, ws, eb, z, b0, bf, bh, rr⟩ := q
        exact ⟨b, ws, eb, z, b0, bf, by rw [upd_ne (away j b nj (by rw [ej]; rfl) eb)]; exact bh, rr⟩
      | io2 m =>
        rw [ej] at q
        obtain ⟨b, ws, eb, z, b0, bf, bh, rr⟩ := q
        exact ⟨b, ws, eb, z, b0, bf, by rw [upd_ne (away j b nj (by rw [ej]; rfl) eb)]; exact bh, rr⟩
      | oob c fs =>
        rw [ej] at q
        obtain ⟨b, dx, ws, eb, z, b0, bf, bh, rr⟩ := q
        exact ⟨b, dx, ws, eb, z, b0, bf, by rw [upd_ne (away j b nj (by rw [ej]; rfl) eb)]; exact bh, rr⟩
      | exc c fs =>
        rw [ej] at q
        obtain ⟨b, d, eb, xi, rr⟩ := q
        refine ⟨b, d, eb, xi, ?_⟩
        cases fs with
        | nil => exact rr
        | cons v us =>
          obtain ⟨x, vfs, e1, e2, e3⟩ := rr
          refine ⟨x, vfs, e1, ?_, e3⟩
          rw [upd_ne]
          · exact e2
          · intro z
            subst z
            rw [ah] at e2
            cases e2
            exact nu _ rfl
  · rw [Env.at_set] at hj hk
    have red : ∀ m, (if i = m ∧ m < env.length then s else env.at m).isOwn = true → σ[m]? = some (some (.ref b)) → (m = i ∧ a = b) ∨ (m ≠ i ∧ b ≠ a ∧ (env.at m).isOwn = true) := fun m hm em => by
      by_cases e : i = m ∧ m < env.length
      · obtain ⟨rfl, _⟩ := e
        rw [ea] at em
        cases em
        exact .inl ⟨rfl, rfl⟩
      · rw [if_neg e] at hm
        have nm : m ≠ i := fun z => e ⟨z.symm, by rw [z, E.len]; exact hl⟩
        exact .inr ⟨nm, away m b nm hm em, hm⟩
    rcases red j hj ej with ⟨rfl, rfl⟩ | ⟨nj, nb, hj'⟩
    · rcases red k hk ek with ⟨rfl, _⟩ | ⟨_, nb, _⟩
      · rfl
      · exact absurd rfl nb
    · rcases red k hk ek with ⟨rfl, rfl⟩ | ⟨_, _, hk'⟩
      · exact absurd rfl nb
      · exact E.dis j k b hj' hk' ej ek
theorem StOk.upd {G : Ga} {Hf0 H0 Hf H : Hp} {env : Env} {σ : L2.St} {i : Nat} {a : Addr} {s : Sl} {o u : HO} (S : StOk G Hf0 H0 Hf H env σ) (hi : (env.at i).isOwn = true) (ea : σ[i]? = some (some (.ref a))) (a0 : H0 a = none) (af : Hf a = none) (ah : H a = some u) (nu : ∀ fs, u ≠ .xd fs)
    (hs : SlOk G H0 Hf (L2.upd H a o) s (some (some (.ref a)))) : StOk G Hf0 H0 Hf (L2.upd H a o) (env.set i s) σ :=
  ⟨⟨S.gr.fz, fun b w hb => by rw [upd_ne (ne_of_none hb a0)]; exact S.gr.hp _ _ hb, fun b w hb => by rw [upd_ne (ne_of_none hb af)]; exact S.gr.sub _ _ hb, S.gr.new⟩, S.env.upd hi ea af ah nu hs⟩
section
variable {G : Ga} {X : Cx} {W : WX} {e b : Expr} {d db : Env → R PV} {i : Nat} {x m : Str} {pos p1 p2 : Pos} {cs : List Nat}
def fldF (cs : List Nat) (i : Nat) (m : Str) (d : Env → R PV) (env : Env) : F := match env.at i with
  | .oob c fs => liftF (d env) env fun p => if c ∈ cs ∧ fs.length < 900 then .nx (env.set i (.oob c (putP m p fs))) else .bad
  | _ => .bad
theorem js_fld (i : Nat) (hK : X.K = G.K) (hc : ∀ c ∈ cs, Cls G.K (G.cm c) ∧ NoAttr G.K (G.cm c) m) (h : JE G X W e d) (hi : X.N[i]? = some x := by rfl) (hv : Vis X.env.scope x := by first | exact Or.inl rfl | exact Or.inr (Or.inl rfl) | exact Or.inr (Or.inr rfl)) (hd : (x == ("__debug__" : Str)) = false := by decide) (hcd : (x == ("__classdict__" : Str)) = false := by decide)
    (hs : swapsWith e (some (.Attribute (.Name x p1) m p2)) pos.line X.env = pure false := by rfl) : JS G X W (.Assign [.Attribute (.Name x p1) m p2] e pos) (fldF cs i m d) := by
  obtain ⟨t, pt, jt⟩ := h
  refine ⟨_, ps_fld (pe_var hi hv hd hcd) pt hs, fun Hf0 H0 Hf H env σ D S h => ?_⟩
  unfold fldF at h
  cases el : env.at i with
  | oob c fs =>
    rw [el] at h
    simp only at h
    refine jt H0 Hf H env σ _ S.gr.sub S.env (post_lift S h fun p v Hf' H' g S' rp k => ?_)
    have q := S'.env.get i
    rw [el] at q
    obtain ⟨a, dx, vfs, ea, z, a0, af, ah, rr⟩ := q
    by_cases y : c ∈ cs ∧ fs.length < 900
    · rw [if_pos y] at k
      obtain ⟨c1, c2⟩ := hc c y.1
      refine ⟨.ref a, ea, a, _, dx, vfs, rfl, ah, hK ▸ c1, hK ▸ c2, by rw [← rr.length]; omega, ?_⟩
      exact k σ Hf' _ (S'.upd (by rw [el]; rfl) ea a0 af ah (fun _ w => nomatch w) ⟨a, dx, _, rfl, z, a0, af, upd_same, rr.put rp⟩) (fun _ _ h => h)
    · rw [if_neg y] at k
      exact k.elim
  | _ => rw [el] at h; exact h.elim
def setI (i : Nat) (dk d : Env → R PV) (env : Env) : F := match env.at i with
  | .own l => liftF (d env) env fun p => liftF (dk env) env fun k => match k with
    | .int j => (match ixN l.length j with | some n => .nx (env.set i (.own (l.set n p))) | none => .bad)
    | _ => .bad
  | _ => .bad
end
def spI (G : Gb) (c : Nat) (f : List PV → R PV) : Sp := fun vs H Q E => ∃ Hf l a dx ws, vs = .ref a :: ws ∧ Hf a = none ∧ H a = some (.ins (G.cm c) dx []) ∧ Same Hf H ∧ Reps G Hf l ws ∧ (match f l with
  | .ok p => ∀ Hf' H', Gr Hf (del H a) Hf' H' → Rep G Hf' p (.ref a) → Q .non H'
  | .er c fs => ∀ Hf' H' d, Gr Hf (del H a) Hf' H' → ErD G Hf' H' fs d → E (.ref (G.cm c)) d H'
  | .bad => False)
def ansI (f : F) : R PV := match f with
  | .nx e => (match (frz 0 e).at 0 with | .slf c fs => .ok (.obj c fs) | _ => .bad)
  | .er _ c fs => .er c fs
  | _ => .bad
def fnI (np nn c : Nat) (d : Env → F) (l : List PV) : R PV := if l.length + 1 = np then ansI (d (.oob c [] :: env0 (nn - 1) l)) else .bad
section
variable {G : Gb} {P : Program} {w : World} {K : PySem.W.Frag} {mg : Str → Option Value} {base : Heap}
theorem init_env {N : List Str} {ws : List V} {l : List PV} {Hf H : Hp} {a dx : Addr} {c : Nat} (hN : 0 < N.length) (af : Hf a = none) (ah : H a = some (.ins (G.cm c) dx [])) (s : Same Hf H) (r : Reps G Hf l ws) :
    Gr Hf (del H a) Hf H ∧ EnvOk ⟨G, none, some a, none⟩ (del H a) Hf H (.oob c [] :: env0 (N.length - 1) l) (L2.start N (.ref a :: ws)) := by
  have e0 : L2.start N (.ref a :: ws) = some (.ref a) :: (ws.map some ++ List.replicate ((N.length - 1) - ws.length) none) := by
    unfold L2.start
    rw [List.map_cons, List.cons_append, List.length_cons, show N.length - (ws.length + 1) = N.length - 1 - ws.length by omega]
  have hl := r.length
  have g0 : Gr Hf (del H a) Hf H := ⟨fun _ _ h => h, fun b o hb => by
    by_cases e : b = a
    · subst e; rw [L2.del_same] at hb; cases hb
    · rw [L2.del_ne e] at hb; exact hb, s, fun _ _ h => .inl h⟩
  have en : EnvOk ⟨G, none, some a, none⟩ (del H a) Hf H (.oob c [] :: env0 (N.length - 1) l) (L2.start N (.ref a :: ws)) := by
    have E1 : EnvOk ⟨G, none, none, none⟩ H Hf H (env0 (List.replicate (N.length - 1) ("" : Str)).length l) (L2.start (List.replicate (N.length - 1) ("" : Str)) ws) := env0_ok r
    rw [List.length_replicate] at E1
    have e1 : L2.start (List.replicate (N.length - 1) ("" : Str)) ws = ws.map some ++ List.replicate ((N.length - 1) - ws.length) none := by
      unfold L2.start
      rw [List.length_replicate]
    rw [e1] at E1
    rw [e0]
    have nown : ∀ j, ((env0 (N.length - 1) l).at j).isOwn = false := fun j => by
      unfold env0 Env.at
      rw [List.getD_eq_getElem?_getD]
      by_cases hj : j < l.length
      · rw [List.getElem?_append_left (by simpa using hj), List.getElem?_map, List.getElem?_eq_getElem hj]
        rfl
      · rw [List.getElem?_append_right (by simpa using Nat.le_of_not_lt hj), List.getElem?_replicate]
        split <;> rfl
    refine ⟨by simp [E1.len], fun j => ?_, fun j k b hj hk ej ek => ?_⟩
    · cases j with
      | zero => exact ⟨a, dx, [], rfl, fun b hb => Option.some.inj hb, L2.del_same, af, ah, .nil⟩
      | succ j =>
        have q := E1.get j
        show SlOk _ _ _ _ ((env0 (N.length - 1) l).at j) _
        have nn := nown j
        cases ej : (env0 (N.length - 1) l).at j with
        | no => trivial
        | val p => rw [ej] at q; exact q
        | own m => rw [ej] at nn; cases nn
        | ownD m => rw [ej] at nn; cases nn
        | iol m => rw [ej] at nn; cases nn
        | io2 m => rw [ej] at nn; cases nn
        | oob c fs => rw [ej] at nn; cases nn
        | slf c fs =>
          exfalso
          unfold env0 Env.at at ej
          rw [List.getD_eq_getElem?_getD] at ej
          by_cases hj : j < l.length
          · rw [List.getElem?_append_left (by simpa using hj), List.getElem?_map, List.getElem?_eq_getElem hj] at ej
            cases ej
          · rw [List.getElem?_append_right (by simpa using Nat.le_of_not_lt hj), List.getElem?_replicate] at ej
            split at ej <;> cases ej
        | par m =>
          exfalso
          unfold env0 Env.at at ej
          rw [List.getD_eq_getElem?_getD] at ej
          by_cases hj : j < l.length
          · rw [List.getElem?_append_left (by simpa using hj), List.getElem?_map, List.getElem?_eq_getElem hj] at ej
            cases ej
          · rw [List.getElem?_append_right (by simpa using Nat.le_of_not_lt hj), List.getElem?_replicate] at ej
            split at ej <;> cases ej
        | exc c fs =>
          exfalso
          unfold env0 Env.at at ej
          rw [List.getD_eq_getElem?_getD] at ej
          by_cases hj : j < l.length
          · rw [List.getElem?_append_left (by simpa using hj), List.getElem?_map, List.getElem?_eq_getElem hj] at ej
            cases ej
          · rw [List.getElem?_append_right (by simpa using Nat.le_of_not_lt hj), List.getElem?_replicate] at ej
            split at ej <;> cases ej
    · cases j with
      | zero =>
        cases k with
        | zero => rfl
        | succ k =>
          have : ((env0 (N.length - 1) l).at k).isOwn = true := hk
          rw [nown] at this
          cases this
      | succ j =>
        have : ((env0 (N.length - 1) l).at j).isOwn = true := hj
        rw [nown] at this
        cases this
  exact ⟨g0, en⟩
theorem init_core {E : XK} {t : Addr → TS} {d : Env → F} {N ps : List Str} {vs : List V} {Q : VK} {H : Hp} {c : Nat} (hN : 0 < N.length) (jt : ∀ a, TSJ ⟨G, none, some a, none⟩ (WD E) (t a) d) (q : spI G c (fnI ps.length N.length c d) vs H Q E) :
    ∃ a ws, vs = .ref a :: ws ∧ (t a) { nx := fun _ H' => Q .non H', rt := Q } (L2.start N vs) H := by
  obtain ⟨Hf, l, a, dx, ws, rfl, af, ah, s, r, q⟩ := q
  refine ⟨a, ws, rfl, ?_⟩
  obtain ⟨g0, en⟩ := init_env (N := N) hN af ah s r
  refine jt a Hf (del H a) Hf H _ _ _ ⟨g0, en⟩ ?_
  unfold fnI at q
  by_cases hp : l.length + 1 = ps.length
  · rw [if_pos hp] at q
    unfold ansI at q
    cases e : d (.oob c [] :: env0 (N.length - 1) l) with
    | nx e' =>
      rw [e] at q
      simp only at q
      intro σ' Hf' H' S _
      obtain ⟨Hf2, s2, S2⟩ := S.frz 0
      cases es : (frz 0 e').at 0 with
      | slf c' fs =>
        simp only [es] at q
        have z := S2.env.get 0
        rw [es] at z
        obtain ⟨b, eb, hb, rb⟩ := z
        have := hb a rfl
        subst this
        exact q Hf2 H' S2.gr rb
      | _ => simp only [es] at q
    | er e' c' fs => rw [e] at q; exact fun σ' Hf' H' d S _ ed => q Hf' H' d S.gr ed
    | rt p => rw [e] at q; exact q.elim
    | bk e' => rw [e] at q; exact q.elim
    | ct e' => rw [e] at q; exact q.elim
    | bad => rw [e] at q; exact q.elim
  · rw [if_neg hp] at q
    exact q.elim
theorem init_body {X : Cx} {E : XK} {sts : List Stmt} {d : Env → F} {N ps : List Str} {vs : List V} {Q : VK} {H : Hp} {c : Nat} (hN : 0 < N.length) (h : ∀ a, JSs ⟨G, none, some a, none⟩ X (WD E) sts d) (q : spI G c (fnI ps.length N.length c d) vs H Q E) :
    ∃ t, PSs X sts t ∧ t { nx := fun _ H' => Q .non H', rt := Q } (L2.start N vs) H := by
  obtain ⟨a, ws, e, z⟩ := init_core (t := fun a => tsOf ⟨G, none, some a, none⟩ (WD E) d) hN (fun a => tsj_of) q
  exact ⟨_, (h a).pss, z⟩
theorem init_len {ps : List Str} {n c : Nat} {d : Env → F} : ∀ vs H Q E, spI G c (fnI ps.length n c d) vs H Q E → vs.length = ps.length := fun vs H Q E ⟨Hf, l, a, dx, ws, e, _, _, _, r, q⟩ => by
  subst e
  unfold fnI at q
  by_cases hp : l.length + 1 = ps.length
  · rw [List.length_cons, ← r.length, hp]
  · rw [if_neg hp] at q
    exact q.elim
theorem jinit {qual : Str} {st : Stmt} {f : Addr} {fd : FuncData} {ps N : List Str} {k c : Nat} {d : Env → F} (F : L2.Fun K "__init__" qual st f fd) (S : FnScope N ps (defScope st)) (hN : 0 < N.length)
    (h : ∀ (cdv : Value) (A : Around) (outer : List PySem.Env) (s : Shared) (H : Hp) (E : XK) (a : Addr), Room k (A.deeper (envOfC qual (defScope st) s.heap.objs.size f cdv)) → JSs ⟨G, none, some a, none⟩ (cxOf (L2N.CX P w) P w K mg base N qual (defScope st) f cdv A outer s H E) (WD E) (defBody st) d) :
    FnOk P w K mg base (L2N.CX P w) (k + 1) f fd ps (spI G c (fnI ps.length N.length c d)) := Bp.okN F S init_len fun cdv A outer s H vs Q E hr q => init_body hN (fun a => h cdv A outer s H E a hr) q
end
def makeE (f : List PV → R PV) (ds : List PV) (dl : Env → R (List PV)) (env : Env) : R PV := (dl env).bind fun l => f (l ++ ds)
section
variable {G : Ga} {X : Cx} {W : WX} {e : Expr} {es : List Expr} {x : Str} {p0 pos : Pos} {dl : Env → R (List PV)} {f : List PV → R PV} {k c : Nat} {C : Addr} {dvs : List V} {ds : List PV}
theorem tj_make {ta : TA} (hC : C = G.cm c) (hd : ∀ Hf, Reps G Hf ds dvs) (ja : TJA G W ta dl) : TJ G W (Bp.tMakeS C (spI G c f) dvs (WE W) ta) (makeE f ds dl) := fun H0 Hf H env σ Q s E h =>
  ja H0 Hf H env σ _ s E (PostG.bind h fun l vs Hf1 H1 _ g1 r1 h1 => by
    subst hC
    intro x dx hx hdx ne
    have f1 := none_back g1.sub hx
    have f2 := none_back g1.sub hdx
    have eH : del (upd (upd H1 dx (.own x)) x (.ins (G.cm c) dx [])) x = upd H1 dx (.own x) := by
      funext b
      by_cases e : b = x
      · subst e
        rw [L2.del_same, upd_ne (Ne.symm ne)]
        exact hx.symm
      · rw [L2.del_ne e, upd_ne e]
    have s1 : Same H1 (upd H1 dx (.own x)) := Same.new hdx
    have s2 : Same Hf1 (upd (upd H1 dx (.own x)) x (.ins (G.cm c) dx [])) := fun b o hb => by
      rw [upd_ne (ne_of_none hb f1), upd_ne (ne_of_none hb f2)]
      exact g1.sub _ _ hb
    have low : ∀ {Hf' H'}, Gr Hf1 (upd H1 dx (.own x)) Hf' H' → Gr Hf1 H1 Hf' H' := fun g => ⟨g.fz, s1.trans g.hp, g.sub, fun b o hb => (g.new b o hb).elim .inl fun z => .inr (none_back s1 z)⟩
    refine ⟨Hf1, l ++ ds, x, dx, vs ++ dvs, rfl, f1, upd_same, s2, r1.append (hd Hf1), ?_⟩
    rw [eH]
    cases e : f (l ++ ds) with
    | ok p => rw [e] at h1; exact fun Hf' H' g rp => ⟨rfl, h1 _ Hf' H' (low g) rp⟩
    | er c fs => rw [e] at h1; exact fun Hf' H' d g ed => h1 Hf' H' d (low g) ed
    | bad => rw [e] at h1; exact h1.elim)
theorem je_make (D : Bp.CDef X.prog X.w X.K X.mg X.base k x C (spI G c f) dvs) (hC : C = G.cm c) (hd : ∀ Hf, Reps G Hf ds dvs) (hr : Room (k + 1) X.A) (tk : Takes X W) (ha : JA G X W (e :: es) dl) (hg : Gl X x := by rfl) (hdb : (x == ("__debug__" : Str)) = false := by decide)
    (he : starEach (e :: es) X.env = (false, eval e X.env) :: starEach es X.env := by rfl) (hpl : (backTo pos (starEach es X.env)).any (·.1) = false := by rfl) : JE G X W (.Call (.Name x p0) (e :: es) [] pos) (makeE f ds dl) := by
  obtain ⟨t, pt, jt⟩ := ha
  exact ⟨_, Bp.pe_makeD D hr tk pt hg hdb he hpl, tj_make hC hd jt⟩
end
end J

namespace J
open PySem.Spec PySem PyProof.Rows
open L2 hiding St Takes XE CX takes_of PMk MkP ps_raise mk_of ps_try_as ps_try_many pmk_own passAt passes_call takes0 passL
open L2N hiding St
open Bp (takes0 passL OpS R2S IsI rOwn rRef rDecl NoNum rOth rORf IntT IntC FnNI)

section
variable {G : Gb} {Hf H : Hp} {p : PV} {v : V} {c : Nat}
end
structure OwT (K : PySem.W.Frag) (C : Addr) : Prop where
  self : PySem.W.selfFirst K C = true
  subI : PySem.W.subIn K (.type "int") (.ref C) = some false
  subN : PySem.W.subIn K (.type "NoneType") (.ref C) = some false
  subS : PySem.W.subIn K (.type "str") (.ref C) = some false
  subC : PySem.W.subIn K (.ref C) (.type "int") = some false
structure OpF (K : PySem.W.Frag) (C : Addr) (nm : String) : Prop where
  hr : ∃ rc, PySem.W.findIn K (.ref C) (dunderR nm) = some rc ∧ (rc = none ∨ ∃ g : Addr, rc = some (.ref g))
  h1 : ∃ fo, PySem.W.findIn K (.type "int") (PySem.dunder nm) = some fo
  h2 : ∃ ro, PySem.W.findIn K (.type "int") (dunderR nm) = some ro
structure NDef (P : Program) (w : World) (K : PySem.W.Frag) (mg : Str → Option Value) (base : Heap) (k : Nat) (C : Addr) (m : Str) (ps : List Str) (pre : List V → Hp → Prop) : Prop where
  ex : ∃ f fd, Meth K C m f ∧ L2.Binds K fd ps [] ∧ FnNI P w K mg base k f fd ps pre
section
variable {P : Program} {w : World} {K : PySem.W.Frag} {mg : Str → Option Value} {base : Heap} {G : Gb}
end
section
variable {G : Ga} {X : Cx} {W : WX} {k c c2 : Nat} {C C2 : Addr} {m : Str} {ps : List Str} {f : List PV → R PV} {pre : List PV → Bool}
end
end J

namespace J
open PySem.Spec PySem PyProof.Rows
open L2 hiding St Takes XE CX takes_of PMk MkP ps_raise mk_of ps_try_as ps_try_many pmk_own passAt passes_call takes0 passL
open L2N hiding St
open Bp (takes0 passL OpS R2S IsI)

section
variable {G : Ga} {X : Cx} {W : WX} {k n : Nat} {ps : List Str} {f fo : List PV → R PV}
def augF (i : Nat) (f : PV → PV → R PV) (d : Env → R PV) (env : Env) : F := liftF (rdV i env) env fun a => liftF (d env) env fun b => liftF (f a b) env fun p => .nx (env.set i (.val p))
theorem js_aug {op : Operator} {x : Str} {e : Expr} {d : Env → R PV} {f : PV → PV → R PV} {pos pos' : Pos} (i : Nat) (nd : X.N.Nodup) (ho : OpJ G X W (inplaceOp op) f) (h : JE G X W e d) (hi : X.N[i]? = some x := by rfl) (hx : X.env.scope.names.lookup x = some .local := by rfl) :
    JS G X W (.AugAssign (.Name x pos') op e pos) (augF i f d) := by
  obtain ⟨r, o, kk⟩ := ho
  obtain ⟨t, pt, jt⟩ := h
  refine ⟨_, Bp.ps_augOwn nd hi hx pt o, fun Hf0 H0 Hf H env σ D S h => ?_⟩
  unfold augF at h
  cases e1 : env.at i with
  | val a =>
    have er : rdV i env = .ok a := by unfold rdV; rw [e1]
    rw [er] at h
    obtain ⟨v, ev, ra⟩ := S.env.val e1
    refine ⟨v, ev, jt H0 Hf H env σ _ S.gr.sub S.env (post_lift S (k := fun b => liftF (f a b) env fun p => .nx (env.set i (.val p))) h fun b u Hf' H' g S' rb kq => ?_)⟩
    exact kk Hf' H' σ v u a b _ g.sub (ra.mono g.fz) rb (post_lift S' kq fun p w Hf2 H2 g2 S2 rp kz => kz _ Hf2 H2 ⟨S2.gr, S2.env.setV rp⟩ (fun _ _ h => h))
  | slf c fs =>
    have er : rdV i env = .ok (.obj c fs) := by unfold rdV; rw [e1]
    rw [er] at h
    have q := S.env.get i
    rw [e1] at q
    obtain ⟨ad, ev, _, ra⟩ := q
    refine ⟨_, ev, jt H0 Hf H env σ _ S.gr.sub S.env (post_lift S (k := fun b => liftF (f (.obj c fs) b) env fun p => .nx (env.set i (.val p))) h fun b u Hf' H' g S' rb kq => ?_)⟩
    exact kk Hf' H' σ _ u (.obj c fs) b _ g.sub (ra.mono g.fz) rb (post_lift S' kq fun p w Hf2 H2 g2 S2 rp kz => kz _ Hf2 H2 ⟨S2.gr, S2.env.setV rp⟩ (fun _ _ h => h))
  | _ =>
    have er : rdV i env = .bad := by unfold rdV; rw [e1]
    rw [er] at h
    exact h.elim
theorem i_add : OpJ G X W (inplaceOp .Add) addI := ⟨fun _ => ipI fun i j => i + j, fun pins s σ H x y v u Q I rx ry q => ip_add pins s σ H x y v u Q I rx ry q, fun Hf H σ x y a b Q s ra rb h => by
  unfold addI iOp0 at h
  split at h
  · rename_i i j
    exact ⟨i, j, ra.of_int, rb.of_int, h _ Hf H (Gr.refl s) (.int _)⟩
  · exact h.elim⟩
structure NoIn (K : PySem.W.Frag) (C : Addr) (nm : String) : Prop where
  cls : ∃ cd, PySem.W.clsIn K C = some cd ∧ cd.mro = [.ref C, .type "object"]
  n1 : PySem.W.findIn K (.ref C) (dunderI nm) = some none
  n2 : PySem.W.findIn K (.type "object") (dunderI nm) = some none
end
end J

namespace J
open PySem.Spec PySem PyProof.Rows
open L2 hiding St Takes XE CX takes_of PMk MkP ps_raise mk_of ps_try_as ps_try_many pmk_own passAt passes_call takes0 passL
open L2N hiding St
open Bp (takes0 passL OpS R2S IsI)

theorem blk_ok {N : List Str} {sc scope : Scope} {own : List (Str × Nat)} (h : blkC N sc scope own = true) : blkC N sc scope own = true := h
abbrev gA (K : PySem.W.Frag) (cm : Nat → Addr) : Ga := ⟨⟨K, cm⟩, none, none, none⟩
section
variable {G : Ga} {X : Cx} {W : WX} {x : Str} {e e2 : Expr} {es : List Expr} {p0 pos : Pos} {dl : Env → R (List PV)}
theorem je_gint {n : Int} {pos : Pos} (h : ∃ t, X.mg x = some (.int n t)) (hg : Gl X x := by rfl) (hd : (x == ("__debug__" : Str)) = false := by decide) : JE G X W (.Name x pos) (fun _ => .ok (.int n)) := by
  obtain ⟨t, h⟩ := h
  exact je_glob (v := .int n) h ⟨t, rfl⟩ (fun _ => .int n) hg hd
def catL (a b : PV) : R PV := match a, b with
  | .lst l, .lst m => if l.length + m.length ≤ 1000 then .ok (.lst (l ++ m)) else .bad
  | _, _ => .bad
def rCatS (K : PySem.W.Frag) : R2 := fun x y H Q => ∃ a b xs ys, x = .ref a ∧ y = .ref b ∧ SqL K H a xs ∧ SqL K H b ys ∧ xs.length + ys.length ≤ sizeLine ∧ ∀ p, H p = none → Q (.ref p) (upd H p (.lst (xs ++ ys)))
theorem op_catS : OpR X (binaryOp .Add) (rCatS X.K) := by
  intro pins s σ H x y v u Q I rx ry h
  obtain ⟨a, b, xs, ys, rfl, rfl, ha, hb, hz, q⟩ := h
  cases (show v = Value.ref a from rx)
  cases (show u = Value.ref b from ry)
  obtain ⟨i1, r1, ⟨⟨c1, d1, e1, s1⟩, n1, g1, k1, _, f1⟩, _⟩ := I.list ha
  obtain ⟨i2, r2, ⟨⟨c2, d2, e2, s2⟩, n2, g2, k2, _, f2⟩, _⟩ := I.list hb
  dsimp only at k1 f1 k2 f2
  subst k1 f1 k2 f2
  have l1 := r1.length
  have l2 := r2.length
  have hs : i1.toArray.size + i2.toArray.size ≤ sizeLine := by
    rw [List.size_toArray, List.size_toArray, ← l1, ← l2]
    exact hz
  refine concat_meets ⟨_, g1, rfl⟩ ⟨_, g2, rfl⟩ noFill_list_add seq_list_add PySem.F.slot_list_add PySem.F.entry_list_add (PySem.F.args_list_add_2 _ _) (list_addW a b i1.toArray i2.toArray n1 n2 d1 d2 s1 s2 hs) ⟨g1, g2, ?_⟩
  have ee : i1.toArray ++ i2.toArray = (i1 ++ i2).toArray := by simp
  rw [ee]
  exact ⟨.ref _, _, I.lnew (t' := s.toks) (r1.append r2) (by rw [List.length_append]; exact hz), rfl, q _ I.fresh⟩
theorem o_catL (hK : X.K = G.K) : OpJ G X W (binaryOp .Add) catL := ⟨_, OpS.of op_catS, fun Hf H σ x y a b Q s ra rb h => by
  unfold catL at h
  split at h
  · rename_i l m
    by_cases k : l.length + m.length ≤ 1000
    · rw [if_pos k] at h
      cases ra with
      | lst t1 r1 =>
        cases rb with
        | lst t2 r2 =>
          rename_i a xs b ys
          refine ⟨a, b, xs, ys, rfl, rfl, by rw [hK]; exact s.seq t1, by rw [hK]; exact s.seq t2, ?_, fun p hp => ?_⟩
          · rw [← r1.length, ← r2.length]
            exact line1000 k
          · exact h _ _ _ (Gr.one (o := .lst (xs ++ ys)) s hp) (.lst (SqL.of upd_same) ((r1.mono (Same.new (none_back s hp))).append (r2.mono (Same.new (none_back s hp)))))
    · rw [if_neg k] at h
      exact h.elim
  · exact h.elim⟩
end
def spFI (C Z : Addr) : Sp := fun vs H Q E => ∃ (x dx : Addr) (n d : Int), vs = [.ref x, .int n, .int d] ∧ H x = some (.ins C dx []) ∧ d.natAbs < 2 ^ 8000 ∧ (d = 0 → E (.ref Z) none H) ∧
  (d ≠ 0 → ∀ H', H' x = some (.ins C dx (frF (Rat.divInt n d))) → (∀ b o, b ≠ x → H b = some o → H' b = some o) → Q .non H')
structure FrI (K : PySem.W.Frag) (mg : Str → Option Value) (C Z : Addr) : Prop where
  i2 : ∀ {P : Program} {w : World} {base : Heap}, Bp.CDef P w K mg base 1 "Frac" C (spFI C Z) []
  i1 : ∀ {P : Program} {w : World} {base : Heap}, Bp.CDef P w K mg base 1 "Frac" C (spFI C Z) [.int 1]
section
variable {G : Ga} {X : Cx} {W : WX} {x : Str} {e e2 : Expr} {es : List Expr} {p0 pos : Pos} {dl : Env → R (List PV)} {z : Nat}
end
section
variable {P : Program} {w : World} {K : PySem.W.Frag} {mg : Str → Option Value} {base : Heap} {C : Addr} {n1 n2 q1 q2 qual : Str} {st : Stmt} {f : Addr} {fd : FuncData} {p1 p2 p3 p4 p5 p6 p7 p8 : Pos}
theorem e1_ok (S : FnScope ["self", q1] ["self", q1] (defScope st)) (D : L2.Fun K "__init__" qual st f fd) (T : OexC K C) (no1 : PySem.W.findIn K (.ref C) n1 = some none)
    (hb : defBody st = [.Assign [.Attribute (.Name "self" p1) n1 p2] (.Name q1 p3) p4])
    (hl : (defScope st).names.lookup ("self" : Str) = some .local := by rfl) (hl1 : (defScope st).names.lookup q1 = some .local := by rfl) (hd1 : (q1 == ("__debug__" : Str)) = false := by decide) (hc1 : (q1 == ("__classdict__" : Str)) = false := by decide) :
    FnOk P w K mg base (L2N.CX P w) 1 f fd ["self", q1] (spX C [n1]) := by
  refine Bp.okN D S (fun vs H Q E h => ?_) (fun cdv A outer s H vs Q E hr h => ?_)
  · obtain ⟨a, xs, rfl, hx, _⟩ := h
    simpa using hx
  · obtain ⟨a, xs, rfl, hx, ha, kQ⟩ := h
    match xs, hx with
    | [x], _ =>
      rw [hb]
      refine ⟨_, pss_one (ps_ost (pe_var (i := 0) rfl (.inl hl)) (pe_var (i := 1) rfl (.inl hl1) hd1 hc1)), ?_⟩
      refine ⟨x, rfl, .ref a, rfl, a, C, rfl, T, no1, .inl ⟨ha, fun dx hdx ne => ?_⟩⟩
      refine kQ dx _ upd_same ?_ hdx fun b o hb e => ?_
      · rw [upd_ne ne]
        exact upd_same
      · rw [upd_ne hb, upd_ne (ne_of_none e hdx)]
        exact e
theorem e2_ok (S : FnScope ["self", q1, q2] ["self", q1, q2] (defScope st)) (D : L2.Fun K "__init__" qual st f fd) (T : OexC K C) (no1 : PySem.W.findIn K (.ref C) n1 = some none) (no2 : PySem.W.findIn K (.ref C) n2 = some none)
    (hb : defBody st = [.Assign [.Attribute (.Name "self" p1) n1 p2] (.Name q1 p3) p4, .Assign [.Attribute (.Name "self" p5) n2 p6] (.Name q2 p7) p8])
    (hl : (defScope st).names.lookup ("self" : Str) = some .local := by rfl) (hl1 : (defScope st).names.lookup q1 = some .local := by rfl) (hl2 : (defScope st).names.lookup q2 = some .local := by rfl)
    (hd1 : (q1 == ("__debug__" : Str)) = false := by decide) (hc1 : (q1 == ("__classdict__" : Str)) = false := by decide) (hd2 : (q2 == ("__debug__" : Str)) = false := by decide) (hc2 : (q2 == ("__classdict__" : Str)) = false := by decide) :
    FnOk P w K mg base (L2N.CX P w) 1 f fd ["self", q1, q2] (spX C [n1, n2]) := by
  refine Bp.okN D S (fun vs H Q E h => ?_) (fun cdv A outer s H vs Q E hr h => ?_)
  · obtain ⟨a, xs, rfl, hx, _⟩ := h
    simpa using hx
  · obtain ⟨a, xs, rfl, hx, ha, kQ⟩ := h
    match xs, hx with
    | [x, y], _ =>
      rw [hb]
      refine ⟨_, pss_cons (ps_ost (pe_var (i := 0) rfl (.inl hl)) (pe_var (i := 1) rfl (.inl hl1) hd1 hc1)) (pss_one (ps_ost (pe_var (i := 0) rfl (.inl hl)) (pe_var (i := 2) rfl (.inl hl2) hd2 hc2))), ?_⟩
      refine ⟨x, rfl, .ref a, rfl, a, C, rfl, T, no1, .inl ⟨ha, fun dx hdx ne => ?_⟩⟩
      refine ⟨y, rfl, .ref a, rfl, a, C, rfl, T, no2, .inr ⟨dx, [(n1, x)], upd_same, ?_, by show 1 ≤ 900; decide, ?_⟩⟩
      · rw [upd_ne ne]
        exact upd_same
      · refine kQ dx _ ?_ upd_same hdx fun b o hb e => ?_
        · rw [upd_ne (Ne.symm ne)]
          exact upd_same
        · rw [upd_ne (ne_of_none e hdx), upd_ne hb, upd_ne (ne_of_none e hdx)]
          exact e
end
end J

namespace J
open PySem.Spec PySem PyProof.Rows
open L2 hiding St Takes XE CX takes_of PMk MkP ps_raise mk_of ps_try_as ps_try_many pmk_own passAt passes_call takes0 passL
open L2N hiding St

section
variable {M : Model} {A : Around} {E : Value → Shared → Prop} {s : Shared} {Z : Obj → Prop} {base : Heap} {env : PySem.Env} {outer : List PySem.Env} {L e : Addr} {fl : Value}
end
section
variable {X : Cx} {W : WX} {pins : List (Addr × Obj)} {σ : L2.St} {H H3 : Hp} {s3 : Shared}
end
section
variable {X : Cx} {W : WX} {elt tg iter : Expr} {ifs : List Expr} {scope : Scope} {own : List (Str × Nat)} {pos : Pos} {wi : TI} {g : TG} {tt : TT} {te : L2.St → TE}
end
end J

namespace J
open PySem.Spec PySem PyProof.Rows
open L2 hiding St Takes XE CX takes_of PMk MkP ps_raise mk_of ps_try_as ps_try_many pmk_own passAt passes_call takes0 passL
open L2N hiding St
theorem R.bind_assoc {α β γ : Type} (r : R α) (f : α → R β) (g : β → R γ) : (r.bind f).bind g = r.bind fun a => (f a).bind g := by cases r <;> rfl
theorem mapFR_app (t : PV → R Bool) (f : PV → R PV) : ∀ (l m : List PV), mapFR t f (l ++ m) = (mapFR t f l).bind fun r => (mapFR t f m).bind fun r' => .ok (r ++ r')
  | [], m => by
    simp only [List.nil_append, mapFR, R.bind_ok]
    cases mapFR t f m <;> rfl
  | p :: l, m => by
    simp only [List.cons_append, mapFR]
    cases t p with
    | ok b =>
      simp only [R.bind_ok]
      cases b with
      | true =>
        simp only [if_true]
        cases f p with
        | ok q =>
          simp only [R.bind_ok, mapFR_app t f l m, R.bind_assoc]
          cases mapFR t f l with
          | ok r =>
            simp only [R.bind_ok]
            cases mapFR t f m <;> rfl
          | er c fs => rfl
          | bad => rfl
        | er c fs => rfl
        | bad => rfl
      | false => simpa using mapFR_app t f l m
    | er c fs => rfl
    | bad => rfl
theorem mapFR_len (t : PV → R Bool) (f : PV → R PV) : ∀ (m r : List PV), mapFR t f m = .ok r → r.length ≤ m.length
  | [], r, h => by cases h; exact Nat.le_refl _
  | a :: m, r, h => by
    simp only [mapFR] at h
    cases et : t a with
    | ok b =>
      rw [et] at h
      simp only [R.bind_ok] at h
      cases b with
      | true =>
        simp only [if_true] at h
        cases ef : f a with
        | ok q =>
          rw [ef] at h
          simp only [R.bind_ok] at h
          cases em : mapFR t f m with
          | ok r' => rw [em] at h; cases h; exact Nat.succ_le_succ (mapFR_len t f m _ em)
          | er _ _ => rw [em] at h; cases h
          | bad => rw [em] at h; cases h
        | er _ _ => rw [ef] at h; cases h
        | bad => rw [ef] at h; cases h
      | false => exact Nat.le_succ_of_le (mapFR_len t f m _ (by simpa using h))
    | er _ _ => rw [et] at h; cases h
    | bad => rw [et] at h; cases h
section
variable {G : Ga} {X : Cx} {W : WX} {Hf H Hf' H' : Hp} {env : Env} {σ : L2.St} {pos : Pos} {e tg iter elt : Expr} {d : Env → R PV} {ifs : List Expr} {t : Env → R Bool} {dl : Env → R (List PV)} {vs : List Nat} {bn : Bnd}
theorem none_up {Hf H Hf' H' : Hp} {a : Addr} {o : HO} (g : Gr Hf H Hf' H') (n : Hf a = none) (h : H a = some o) : Hf' a = none := by
  cases e : Hf' a with
  | none => rfl
  | some u =>
    rcases g.new a u e with z | z
    · rw [n] at z; cases z
    · rw [h] at z; cases z
end
end J

namespace J
open PySem.Spec PySem PyProof.Rows
open L2 hiding St Takes XE CX takes_of PMk MkP ps_raise mk_of ps_try_as ps_try_many pmk_own passAt passes_call takes0 passL
open L2N hiding St
structure SFact (K : PySem.W.Frag) (C : Addr) (m : Str) (p g : Addr) : Prop where
  at_ : PySem.W.findCls K (.ref C) (.type "type") m = some (.get (.builtin "staticmethod.__get__") (.ref p) .none (.ref C))
  rc : ∃ rest, PySem.W.recIn K p "staticmethod" = some (.ref g :: rest)
  kp : PySem.W.keepIn K (.ref g) = true
structure SFun (K : PySem.W.Frag) (mg : Str → Option Value) (x : Str) (C : Addr) (m qual : Str) (st : Stmt) (ps : List Str) : Prop where
  ex : ∃ p f fd, L2.Fun K m qual st f fd ∧ SFact K C m p f ∧ ClX.CRead K C (.type "type") ∧ mg x = some (.ref C) ∧ L2.Binds K fd ps []
structure SDef (P : Program) (w : World) (K : PySem.W.Frag) (mg : Str → Option Value) (base : Heap) (k : Nat) (x : Str) (C : Addr) (m : Str) (ps : List Str) (sp : Sp) : Prop where
  ex : ∃ p f fd, SFact K C m p f ∧ ClX.CRead K C (.type "type") ∧ mg x = some (.ref C) ∧ L2.Binds K fd ps [] ∧ FnOk P w K mg base (L2N.CX P w) k f fd ps sp
section
variable {X : Cx} {W : WX} {k : Nat} {C : Addr} {x m : Str} {ps : List Str} {sp : Sp} {p0 pos apos : Pos} {e : Expr} {es : List Expr} {t : TA}
end
section
variable {G : Ga} {X : Cx} {W : WX} {k : Nat} {C : Addr} {x m : Str} {ps : List Str} {f : List PV → R PV} {p0 pos apos : Pos} {e : Expr} {es : List Expr} {dl : Env → R (List PV)}
end

section
variable {P : Program} {w : World} {K : PySem.W.Frag} {mg : Str → Option Value} {base : Heap} {G : Gb}
end
end J

namespace J
open PySem.Spec PySem PyProof.Rows
open L2 hiding St Takes XE CX takes_of PMk MkP ps_raise mk_of ps_try_as ps_try_many pmk_own passAt passes_call takes0 passL
open L2N hiding St
section
variable {G : Ga} {X : Cx} {W : WX} {Hf0 H0 Hf H Hf' H' : Hp} {env : Env} {σ : L2.St} {i : Nat} {x : Str} {pos p1 p2 p3 : Pos} {e a b tg iter elt : Expr} {d da db : Env → R PV} {ifs : List Expr} {t : Env → R Bool} {dl : Env → R (List PV)} {vs : List Nat} {bn : Bnd}
def ixO (i : Nat) (d : Env → R PV) (env : Env) : R PV := match env.at i with
  | .own l => (d env).bind fun k => match k with | .int j => (match atI l j with | some p => .ok p | none => .bad) | _ => .bad
  | _ => .bad
theorem je_ixO (i : Nat) (hK : X.K = G.K) (hb : JE G X W b d) (hi : X.N[i]? = some x := by rfl) (hv : Vis X.env.scope x := by first | exact Or.inl rfl | exact Or.inr (Or.inl rfl) | exact Or.inr (Or.inr rfl)) (hd : (x == ("__debug__" : Str)) = false := by decide) (hcd : (x == ("__classdict__" : Str)) = false := by decide)
    (hs : PlainIx b := by exact fun _ _ => rfl) : JE G X W (.Subscript (.Name x p1) b pos) (ixO i d) := by
  obtain ⟨u, pu, ju⟩ := hb
  refine ⟨_, pe_ix ix_seq (pe_var hi hv hd hcd) pu hs, fun H0 Hf H env σ Q s E h => ?_⟩
  unfold ixO at h
  have q := E.get i
  cases el : env.at i with
  | own l =>
    rw [el] at h q
    obtain ⟨a, ws, ea, a0, af, ah, r⟩ := q
    refine ⟨.ref a, ea, ju H0 Hf H env σ _ s E (PostG.bind h fun k w Hf1 H1 _ g1 r1 h1 => ?_)⟩
    cases r1 with
    | int j =>
      simp only at h1
      cases e : atI l j with
      | none => simp only [e] at h1; exact h1.elim
      | some z =>
        simp only [e] at h1
        obtain ⟨zv, e2, rz⟩ := reps_atI r e
        exact .inl ⟨_, _, _, zv, rfl, rfl, by rw [hK]; exact SqL.of (g1.hp _ _ ah), e2, h1 zv Hf1 H1 (Gr.refl g1.sub) (rz.mono g1.fz)⟩
    | _ => exact h1.elim
  | _ => rw [el] at h; exact h.elim
theorem js_setIO (i : Nat) (hK : X.K = G.K) (he : JE G X W e d) (hb : JE G X W b db) (hi : X.N[i]? = some x := by rfl) (hv : Vis X.env.scope x := by first | exact Or.inl rfl | exact Or.inr (Or.inl rfl) | exact Or.inr (Or.inr rfl)) (hd : (x == ("__debug__" : Str)) = false := by decide) (hcd : (x == ("__classdict__" : Str)) = false := by decide)
    (ha : ∀ v, assign (.Subscript (.Name x p1) b p2) X.env v = (do
      let ov ← holding [v] (eval (.Name x p1) X.env)
      let iv ← holding [v, ov] (eval b X.env)
      standAt p2
      holding [v, ov, iv] (setItem ov iv v)
      release [v, ov, iv] []) := by intro _; rfl)
    (hs : swapsWithSole [.Subscript (.Name x p1) b p2] e pos.line X.env = pure false := by rfl) (hw : swappedStores [.Subscript (.Name x p1) b p2] e X.env = pure none := by rfl)
    (h1 : (assignEach [.Subscript (.Name x p1) b p2] X.env).map (·.2) = [assign (.Subscript (.Name x p1) b p2) X.env] := by rfl) : JS G X W (.Assign [.Subscript (.Name x p1) b p2] e pos) (setI i db d) := by
  obtain ⟨t, pt, jt⟩ := he
  obtain ⟨u, pu, ju⟩ := hb
  refine ⟨_, ps_asg pt (pg_sub (pe_var hi hv hd hcd) pu set_list ha) hs hw h1, fun Hf0 H0 Hf H env σ D S h => ?_⟩
  unfold setI at h
  cases el : env.at i with
  | own l =>
    rw [el] at h
    simp only at h
    refine jt H0 Hf H env σ _ S.gr.sub S.env (post_lift S h fun p v Hf1 H1 g1 S1 rp h1 => ?_)
    have q := S1.env.get i
    rw [el] at q
    obtain ⟨a, ws, ea, _, _, _, _⟩ := q
    refine ⟨.ref a, ea, ju H0 Hf1 H1 env σ _ S1.gr.sub S1.env (post_lift S1 h1 fun k w Hf2 H2 g2 S2 rk h2 => ?_)⟩
    cases rk with
    | int j =>
      simp only at h2
      have q := S2.env.get i
      rw [el, ea] at q
      obtain ⟨a', ws', ea', a0, af, ah, r⟩ := q
      cases ea'
      cases e : ixN l.length j with
      | none => simp only [e] at h2; exact h2.elim
      | some n =>
        simp only [e] at h2
        refine ⟨a, ws', j, n, rfl, rfl, ah, by rw [← r.length]; exact e, ?_⟩
        exact h2 σ Hf2 _ (S2.upd (by rw [el]; rfl) ea a0 af ah (fun _ w => nomatch w) ⟨a, _, rfl, a0, af, upd_same, r.set (rp.mono g2.fz) n⟩) (fun _ _ h => h)
    | _ => exact h2.elim
  | _ => rw [el] at h; exact h.elim
def lcL (vs : List Nat) (di : Env → R (List PV)) (bn : Bnd) (t : Env → R Bool) (d : Env → R PV) (env : Env) : R (List PV) := (di env).bind fun l => if l.length ≤ 1000 then
  noE (mapFR (fun p => match bn p (wipeE env vs) with | some e => noE (t e) | none => .bad) (fun p => match bn p (wipeE env vs) with | some e => noE (d e) | none => .bad) l) else .bad
theorem PostG.noE {α β : Type} {G : Gb} {Rl : Hp → α → β → Prop} {W : WX} {Hf H : Hp} {σ : L2.St} {r : R α} {a : α} {Q : β → Hp → Prop} (e : r = .ok a) (k : ∀ v Hf' H', Gr Hf H Hf' H' → Rl Hf' a v → Q v H') : PostG G W Rl Hf H σ r Q := by rw [e]; exact k
theorem rd_lcO {wi : TI} {g : TG} {tt : TT} {te : TE} {r : List PV} {Q : VK} (ji : TJI G W wi dl) (jg : TJG G g bn vs) (jt : TJT G W0 tt t) (je : TJ G W0 te d) (s : Same Hf H) (E : EnvOk G H0 Hf H env σ) (er : lcL vs dl bn t d env = .ok r)
    (k : ∀ D acc Hf2 H2, Gr Hf H Hf2 H2 → H D = none → Hf2 D = none → H2 D = some (.lst acc) → Reps G Hf2 r acc → Q (.ref D) H2) : tLc wi g tt te vs σ H Q := by
  unfold lcL at er
  cases edl : dl env with
  | er _ _ => rw [edl] at er; cases er
  | bad => rw [edl] at er; cases er
  | ok l =>
  rw [edl] at er
  simp only [R.bind_ok] at er
  by_cases hl : l.length ≤ 1000
  case neg => rw [if_neg hl] at er; cases er
  rw [if_pos hl] at er
  refine ji H0 Hf H env σ _ s E (PostG.noE edl fun Jt Hf1 H1 g1 ⟨GG, Y, w, hG, hY⟩ => ?_)
  intro D hD
  have nf1 := none_back g1.sub hD
  generalize hT : (fun p => match bn p (wipeE env vs) with | some e => noE (t e) | none => R.bad) = T at er
  generalize hF : (fun p => match bn p (wipeE env vs) with | some e => noE (d e) | none => R.bad) = F at er
  have hT : ∀ p, T p = (match bn p (wipeE env vs) with | some e => noE (t e) | none => R.bad) := fun p => by rw [← hT]
  have hF : ∀ p, F p = (match bn p (wipeE env vs) with | some e => noE (d e) | none => R.bad) := fun p => by rw [← hF]
  have er : mapFR T F l = .ok r := by
    cases em : mapFR T F l with
    | ok z => rw [em] at er; exact er
    | er _ _ => rw [em] at er; cases er
    | bad => rw [em] at er; cases er
  refine lc_it w (fun i H2 => ∃ Hf2 acc ri, Gr Hf1 H1 Hf2 H2 ∧ H2 D = some (.lst acc) ∧ Hf2 D = none ∧ mapFR T F (l.take i) = .ok ri ∧ Reps G Hf2 ri acc)
    ⟨Hf1, [], [], Gr.up g1.sub (Same.new hD), upd_same, nf1, rfl, .nil⟩ (fun i H2 _ ⟨Hf2, _, _, g2, _⟩ => hG Hf2 H2 g2.fz g2.sub) ?_ ?_
  · rintro i x H2 H3 hi ⟨Hf2, acc, ri, g2, hacc, hfD, eri, ra⟩ y
    obtain ⟨Hf3, g3, p, ep, rp⟩ := hY i Hf2 H2 x H3 hi g2.fz g2.sub y
    have tk : l.take (i + 1) = l.take i ++ [p] := by
      rw [List.take_succ, ep]
      rfl
    have whole : l = l.take i ++ (p :: l.drop (i + 1)) := by rw [← List.singleton_append, ← List.append_assoc, ← tk, List.take_append_drop]
    have E3 : EnvOk G H0 Hf3 H3 (wipeE env vs) (wipe σ vs) := (((E.grow g1).grow g2).grow g3).wipe vs
    have n3 := none_up g3 hfD hacc
    have h1 := er
    rw [whole, mapFR_app, eri, R.bind_ok] at h1
    simp only [mapFR] at h1
    have eT := hT p
    have eF := hF p
    refine jg H0 Hf3 H3 _ _ p x _ g3.sub E3 rp ?_
    cases ebn : bn p (wipeE env vs) with
    | none =>
      simp only [ebn] at eT
      rw [eT] at h1
      cases h1
    | some e4 =>
      simp only [ebn] at eT eF
      intro σ4 E4 w4
      refine ⟨by rw [w4]; exact wipe_wipe, ?_⟩
      cases et : t e4 with
      | er c fs => rw [eT, et] at h1; cases h1
      | bad => rw [eT, et] at h1; cases h1
      | ok b =>
        rw [et] at eT
        simp only [noE] at eT
        refine jt H0 Hf3 H3 e4 σ4 _ g3.sub E4 (PostG.noE et fun v Hf5 H5 g5 rv => ?_)
        subst rv
        have g15 := (g2.trans g3).trans g5
        have hacc5 := g5.hp _ _ (g3.hp _ _ hacc)
        have n5 := none_up g5 n3 (g3.hp _ _ hacc)
        rw [eT] at h1
        simp only [R.bind_ok] at h1
        cases v with
        | false =>
          rw [if_neg Bool.false_ne_true]
          refine ⟨Hf5, acc, ri, g15, hacc5, n5, ?_, (ra.mono g3.fz).mono g5.fz⟩
          rw [tk, mapFR_app, eri]
          simp [mapFR, eT]
        | true =>
          rw [if_pos rfl]
          simp only [if_true] at h1
          cases ed : d e4 with
          | bad => rw [eF, ed] at h1; cases h1
          | er c fs => rw [eF, ed] at h1; cases h1
          | ok q =>
            rw [ed] at eF
            simp only [noE] at eF
            refine je H0 Hf5 H5 e4 σ4 _ g5.sub (E4.grow g5) (PostG.noE ed fun v Hf6 H6 g6 rv => ?_)
            have hacc6 := g6.hp _ _ hacc5
            have n6 := none_up g6 n5 hacc5
            have ra6 := ((ra.mono g3.fz).mono g5.fz).mono g6.fz
            have g16 := g15.trans g6
            have len : acc.length ≤ l.length := by
              rw [← ra.length]
              exact Nat.le_trans (mapFR_len _ _ _ _ eri) (by rw [List.length_take]; exact Nat.min_le_right _ _)
            refine ⟨acc, hacc6, Nat.lt_of_le_of_lt (Nat.le_trans len hl) (by decide), Hf6, acc ++ [v], ri ++ [q], ⟨g16.fz, fun b o hb => ?_, fun b o hb => ?_, g16.new⟩, upd_same, n6, ?_, ra6.append (.cons rv .nil)⟩
            · rw [upd_ne (ne_of_none hb hD)]
              exact g16.hp _ _ hb
            · rw [upd_ne (ne_of_none hb n6)]
              exact g16.sub _ _ hb
            · rw [tk, mapFR_app, eri]
              simp [mapFR, eT, eF]
  · rintro H2 ⟨Hf2, acc, ri, g2, hacc, hfD, eri, ra⟩
    rw [List.take_length, er] at eri
    cases eri
    exact k D acc Hf2 H2 (g1.trans g2) (none_back g1.hp hD) hfD hacc ra
theorem own_at {env : Env} {i : Nat} {σ : L2.St} {v : V} (E : EnvOk G H0 Hf H env σ) (h : (env.at i).isOwn = true) (e : σ[i]? = some (some v)) : ∃ a o, v = .ref a ∧ H a = some o := by
  have q := E.get i
  rw [e] at q
  cases es : env.at i with
  | own l =>
    rw [es] at q
    obtain ⟨b, vs, eb, _, _, hb, _⟩ := q
    cases eb
    exact ⟨b, _, rfl, hb⟩
  | oob c fs =>
    rw [es] at q
    obtain ⟨b, _, vs, eb, _, _, _, hb, _⟩ := q
    cases eb
    exact ⟨b, _, rfl, hb⟩
  | ownD l =>
    rw [es] at q
    obtain ⟨b, vs, eb, _, _, hb, _⟩ := q
    cases eb
    exact ⟨b, _, rfl, hb⟩
  | iol l =>
    rw [es] at q
    obtain ⟨b, vs, eb, z, _, _, hb, _⟩ := q
    cases eb
    exact ⟨b, _, rfl, hb⟩
  | io2 l =>
    rw [es] at q
    obtain ⟨b, vs, eb, z, _, _, hb, _⟩ := q
    cases eb
    exact ⟨b, _, rfl, hb⟩
  | _ => rw [es] at h; cases h
theorem own_put {a : Addr} {ws : List V} {l : List PV} (E : EnvOk G H0 Hf H env σ) (g : Gr Hf H Hf' H') (h0 : Same H0 H) (na : H a = none) (nf : Hf' a = none) (ha : H' a = some (.lst ws)) (r : Reps G Hf' l ws) : EnvOk G H0 Hf' H' (env.set i (.own l)) (σ.set i (some (.ref a))) :=
  (E.grow g).set ⟨a, ws, rfl, none_back h0 na, nf, ha, r⟩ fun _ j hj ho hq => by
    obtain ⟨b, o, eb, hb⟩ := own_at E ho hq
    cases eb
    rw [na] at hb
    cases hb
end
end J

namespace J
open PySem.Spec PySem PyProof.Rows
open L2 hiding St Takes XE CX takes_of PMk MkP ps_raise mk_of ps_try_as ps_try_many pmk_own passAt passes_call takes0 passL
open L2N hiding St
def PostO (G : Gb) (Hf H : Hp) (r : R (List PV)) (Q : VK) : Prop := match r with
  | .ok l => ∀ a ws Hf' H', Gr Hf H Hf' H' → H a = none → Hf' a = none → H' a = some (.lst ws) → Reps G Hf' l ws → Q (.ref a) H'
  | _ => False
def spO (G : Gb) (f : List PV → R (List PV)) : Sp := fun vs H Q E => ∃ Hf l, Same Hf H ∧ Reps G Hf l vs ∧ PostO G Hf H (f l) Q
structure JSo (G : Ga) (X : Cx) (W : WX) (st : List Stmt) (d : Env → R (List PV)) : Prop where
  ex : ∃ ts, PSs X st ts ∧ ∀ (Hf0 H0 Hf H : Hp) (env : Env) (σ : L2.St) (D : Ends), StOk G Hf0 H0 Hf H env σ →
    (∀ r, d env = .ok r → ∀ a ws Hf' H', Gr Hf0 H0 Hf' H' → H0 a = none → Hf' a = none → H' a = some (.lst ws) → Reps G Hf' r ws → D.rt (.ref a) H') → (∃ r, d env = .ok r) → ts D σ H
section
variable {G : Ga} {X : Cx} {W : WX} {Hf0 H0 Hf H Hf' H' : Hp} {env : Env} {σ : L2.St} {i : Nat} {x : Str} {pos p1 p2 p3 : Pos} {st : Stmt} {sts : List Stmt} {f : Env → F} {d : Env → R (List PV)}
def retO (i : Nat) (env : Env) : R (List PV) := match env.at i with | .own l => .ok l | _ => .bad
def seqO (f : Env → F) (g : Env → R (List PV)) (env : Env) : R (List PV) := match f env with | .nx e => g e | _ => .bad
theorem jso_ret (i : Nat) (hi : X.N[i]? = some x := by rfl) (hv : Vis X.env.scope x := by first | exact Or.inl rfl | exact Or.inr (Or.inl rfl) | exact Or.inr (Or.inr rfl)) (hd : (x == ("__debug__" : Str)) = false := by decide) (hcd : (x == ("__classdict__" : Str)) = false := by decide) :
    JSo G X W [.Return (some (.Name x p1)) pos] (retO i) := by
  refine ⟨_, pss_one (ps_ret (pe_var hi hv hd hcd)), fun Hf0 H0 Hf H env σ D S k ⟨r, er⟩ => ?_⟩
  unfold retO at er k
  have q := S.env.get i
  cases el : env.at i with
  | own l =>
    rw [el] at q er k
    cases er
    obtain ⟨a, ws, ea, a0, af, ah, rr⟩ := q
    exact ⟨.ref a, ea, k _ rfl a ws Hf H S.gr a0 af ah rr⟩
  | _ => rw [el] at er; cases er
theorem jso_cons (h : JS G X W st f) (k : JSo G X W sts d) : JSo G X W (st :: sts) (seqO f d) := by
  obtain ⟨t, pt, jt⟩ := h
  obtain ⟨u, pu, ju⟩ := k
  refine ⟨_, pss_cons pt pu, fun Hf0 H0 Hf H env σ D S k ⟨r, er⟩ => jt Hf0 H0 Hf H env σ _ S ?_⟩
  unfold seqO at er k
  cases e : f env with
  | nx e' =>
    rw [e] at er k
    exact fun σ' Hf' H' S' s' => ju Hf0 H0 Hf' H' e' σ' D S' k ⟨r, er⟩
  | _ => rw [e] at er; cases er
def fnO (np nn : Nat) (d : Env → R (List PV)) (l : List PV) : R (List PV) := if l.length = np then d (env0 nn l) else .bad
theorem bodyO {X : Cx} {E : XK} {sts : List Stmt} {d : Env → R (List PV)} {N ps : List Str} {vs : List V} {Q : VK} {G : Gb} (h : JSo ⟨G, none, none, none⟩ X (WD E) sts d) (q : spO G (fnO ps.length N.length d) vs H Q E) :
    ∃ t, PSs X sts t ∧ t { nx := fun _ H' => Q .non H', rt := Q } (L2.start N vs) H := by
  obtain ⟨t, pt, jt⟩ := h
  obtain ⟨Hf, l, s, r, q⟩ := q
  unfold fnO at q
  by_cases hl : l.length = ps.length
  · rw [if_pos hl] at q
    refine ⟨t, pt, jt Hf H Hf H _ _ _ ⟨Gr.refl s, env0_ok (N := N) r⟩ (fun r er a ws Hf' H' g h0 hf ha rr => ?_) ?_⟩
    · rw [er] at q
      exact q a ws Hf' H' g h0 hf ha rr
    · cases e : d (env0 N.length l) with
      | ok r => exact ⟨r, rfl⟩
      | er _ _ => rw [e] at q; exact q.elim
      | bad => rw [e] at q; exact q.elim
  · rw [if_neg hl] at q
    exact q.elim
theorem jdefO {P : Program} {w : World} {K : PySem.W.Frag} {mg : Str → Option Value} {base : Heap} {G : Gb} {x : Str} {st : Stmt} {ps N : List Str} {k : Nat} {d : Env → R (List PV)} (F : Bp.GFun K mg x st ps) (S : FnScope N ps (defScope st))
    (h : ∀ (f : Addr) (cdv : Value) (A : Around) (outer : List PySem.Env) (s : Shared) (H : Hp) (E : XK), Room k (A.deeper (envOfC x (defScope st) s.heap.objs.size f cdv)) → JSo ⟨G, none, none, none⟩ (cxOf (L2N.CX P w) P w K mg base N x (defScope st) f cdv A outer s H E) (WD E) (defBody st) d) :
    Bp.Def P w K mg base (k + 1) x ps (spO G (fnO ps.length N.length d)) := F.ok S (fun vs H Q E ⟨Hf, l, s, r, q⟩ => by
      unfold fnO at q
      by_cases hl : l.length = ps.length
      · rw [← r.length, hl]
      · rw [if_neg hl] at q
        exact q.elim) fun f cdv A outer s H vs Q E hr q => bodyO (h f cdv A outer s H E hr) q
structure JEO (G : Ga) (X : Cx) (e : Expr) (d : Env → R (List PV)) : Prop where
  ex : ∃ te, PE X e te ∧ ∀ (H0 Hf H : Hp) (env : Env) (σ : L2.St) (Q : VK), Same Hf H → EnvOk G H0 Hf H env σ → PostO G Hf H (d env) Q → te σ H Q
def teO (G : Ga) (d : Env → R (List PV)) : TE := fun σ H Q => ∃ H0 Hf env, Same Hf H ∧ EnvOk G H0 Hf H env σ ∧ PostO G Hf H (d env) Q
theorem JEO.pe {e : Expr} (h : JEO G X e d) : PE X e (teO G d) := let ⟨te, pe, je⟩ := h.ex; ⟨fun pins s σ H Q I ⟨H0, Hf, env, sb, E, k⟩ => pe.run pins s σ H Q I (je H0 Hf H env σ Q sb E k)⟩
def callO (f : List PV → R (List PV)) (dl : Env → R (List PV)) (env : Env) : R (List PV) := match dl env with | .ok l => f l | _ => .bad
theorem je_callO {k : Nat} {ps : List Str} {f : List PV → R (List PV)} {e : Expr} {es : List Expr} {p0 : Pos} {dl : Env → R (List PV)} (D : Bp.Def X.prog X.w X.K X.mg X.base k x ps (spO G f)) (hr : Room k X.A) (tk : Takes X W) (ha : JA G X W (e :: es) dl) (hg : Gl X x := by rfl) (hdb : (x == ("__debug__" : Str)) = false := by decide)
    (he : starEach (e :: es) X.env = (false, eval e X.env) :: starEach es X.env := by rfl) (hpl : (backTo pos (starEach es X.env)).any (·.1) = false := by rfl) : JEO G X (.Call (.Name x p0) (e :: es) [] pos) (callO f dl) := by
  obtain ⟨t, pt, jt⟩ := ha
  refine ⟨_, Bp.pe_callD D hr tk pt hg hdb he hpl, fun H0 Hf H env σ Q s E h => ?_⟩
  unfold callO at h
  cases el : dl env with
  | ok l =>
    rw [el] at h
    simp only at h
    refine jt H0 Hf H env σ _ s E (PostG.noE el fun vs Hf1 H1 g1 r1 => ⟨Hf1, l, g1.sub, r1, ?_⟩)
    cases e : f l with
    | ok r => rw [e] at h; exact fun a ws Hf' H' g na nf ha rr => h a ws Hf' H' (g1.trans g) (none_back g1.hp na) nf ha rr
    | er _ _ => rw [e] at h; exact h.elim
    | bad => rw [e] at h; exact h.elim
  | er _ _ => rw [el] at h; exact h.elim
  | bad => rw [el] at h; exact h.elim
end
structure OwnL (G : Gb) (H1 Hf H : Hp) (D : Addr) (ls : List (List PV)) (vs : List V) : Prop where
  ex : ∃ as : List Addr, vs = as.map V.ref ∧ as.Nodup ∧ as.length = ls.length ∧ ∀ (k : Nat) (l : List PV) (a : Addr), ls[k]? = some l → as[k]? = some a → H1 a = none ∧ Hf a = none ∧ a ≠ D ∧ ∃ ws, H a = some (.lst ws) ∧ Reps G Hf l ws
section
variable {G : Gb} {H1 Hf H Hf' H' : Hp} {D : Addr} {ls : List (List PV)} {vs : List V}
theorem OwnL.grow (h : OwnL G H1 Hf H D ls vs) (g : Gr Hf H Hf' H') : OwnL G H1 Hf' H' D ls vs := by
  obtain ⟨as, e, nd, hl, k⟩ := h
  refine ⟨as, e, nd, hl, fun i l a h1 h2 => ?_⟩
  obtain ⟨n1, nf, ne, ws, ha, r⟩ := k i l a h1 h2
  exact ⟨n1, none_up g nf ha, ne, ws, g.hp _ _ ha, r.mono g.fz⟩
theorem OwnL.all (h : OwnL G H1 Hf H D ls vs) : ∀ v ∈ vs, ∃ a ws, v = .ref a ∧ H1 a = none ∧ Hf a = none ∧ a ≠ D ∧ H a = some (.lst ws) := by
  obtain ⟨as, rfl, nd, hl, k⟩ := h
  intro v hv
  obtain ⟨a, ha, rfl⟩ := List.mem_map.mp hv
  obtain ⟨i, hi⟩ := List.getElem?_of_mem ha
  have hlt : i < ls.length := by
    rw [← hl]
    rcases Nat.lt_or_ge i as.length with z | z
    · exact z
    · rw [List.getElem?_eq_none z] at hi; cases hi
  obtain ⟨n1, nf, ne, ws, ha, _⟩ := k i _ a (List.getElem?_eq_getElem hlt) hi
  exact ⟨a, ws, rfl, n1, nf, ne, ha⟩
end
section
variable {G : Ga} {X : Cx} {W : WX} {Hf0 H0 Hf H Hf' H' : Hp} {env : Env} {σ : L2.St} {dl : Env → R (List PV)} {dO : Env → R (List PV)} {vs : List Nat} {bn : Bnd}
end
end J

namespace J
open PySem.Spec PySem PyProof.Rows
open L2 hiding St Takes XE CX takes_of PMk MkP ps_raise mk_of ps_try_as ps_try_many pmk_own passAt passes_call takes0 passL
open L2N hiding St
mutual
def noL : PV → Bool
  | .lst _ => false
  | .tup l => noLs l
  | .obj _ fs => noLf fs
  | .dic kvs => noLk kvs
  | _ => true
def noLs : List PV → Bool
  | [] => true
  | p :: l => noL p && noLs l
def noLf : List (Str × PV) → Bool
  | [] => true
  | (_, p) :: l => noL p && noLf l
def noLk : List (L2.Key × PV) → Bool
  | [] => true
  | (_, p) :: l => noL p && noLk l
end
section
variable {G : Gb} {Hf Hg : Hp}
mutual
theorem Rep.thaw (k : ∀ b o, Hf b = some o → (∀ ws, o ≠ .lst ws) → Hg b = some o) : ∀ {p : PV} {v : V}, Rep G Hf p v → noL p = true → Rep G Hg p v
  | _, _, .non, _ => .non
  | _, _, .bl b, _ => .bl b
  | _, _, .int i, _ => .int i
  | _, _, .str x, _ => .str x
  | _, _, .fr h, _ => .fr (k _ _ h fun _ z => nomatch z)
  | _, _, .tup h r, n => .tup (by
      rcases h with (z | ⟨o, z⟩) | c
      · exact .inl (.inl (k _ _ z fun _ z => nomatch z))
      · exact .inl (.inr ⟨o, k _ _ z fun _ z => nomatch z⟩)
      · exact .inr c) (Reps.thaw k r (by unfold noL at n; exact n))
  | _, _, .lst h r, n => by unfold noL at n; cases n
  | _, _, .obj h r, n => .obj (k _ _ h fun _ z => nomatch z) (RepF.thaw k r (by unfold noL at n; exact n))
  | _, _, .cls c, _ => .cls c
  | _, _, .typ n, _ => .typ n
  | _, _, .dic h r, n => .dic (k _ _ h fun _ z => nomatch z) (RepK.thaw k r (by unfold noL at n; exact n))
theorem Reps.thaw (k : ∀ b o, Hf b = some o → (∀ ws, o ≠ .lst ws) → Hg b = some o) : ∀ {l : List PV} {vs : List V}, Reps G Hf l vs → noLs l = true → Reps G Hg l vs
  | _, _, .nil, _ => .nil
  | _, _, .cons h r, n => by
    unfold noLs at n
    rw [Bool.and_eq_true] at n
    exact .cons (Rep.thaw k h n.1) (Reps.thaw k r n.2)
theorem RepF.thaw (k : ∀ b o, Hf b = some o → (∀ ws, o ≠ .lst ws) → Hg b = some o) : ∀ {l : List (Str × PV)} {vs : List (Str × V)}, RepF G Hf l vs → noLf l = true → RepF G Hg l vs
  | _, _, .nil, _ => .nil
  | _, _, .cons h r, n => by
    unfold noLf at n
    rw [Bool.and_eq_true] at n
    exact .cons (Rep.thaw k h n.1) (RepF.thaw k r n.2)
theorem RepK.thaw (k : ∀ b o, Hf b = some o → (∀ ws, o ≠ .lst ws) → Hg b = some o) : ∀ {l : List (L2.Key × PV)} {vs : List (L2.Key × V)}, RepK G Hf l vs → noLk l = true → RepK G Hg l vs
  | _, _, .nil, _ => .nil
  | _, _, .cons h r, n => by
    unfold noLk at n
    rw [Bool.and_eq_true] at n
    exact .cons (Rep.thaw k h n.1) (RepK.thaw k r n.2)
end
theorem reps_get : ∀ {l : List PV} {vs : List V}, l.length = vs.length → (∀ (i : Nat) p v, l[i]? = some p → vs[i]? = some v → Rep G Hf p v) → Reps G Hf l vs
  | [], [], _, _ => .nil
  | p :: l, v :: vs, h, k => .cons (k 0 p v rfl rfl) (reps_get (by simpa using h) fun i q w h1 h2 => k (i + 1) q w h1 h2)
  | [], _ :: _, h, _ => by simp at h
  | _ :: _, [], h, _ => by simp at h
end
section
variable {G : Ga} {X : Cx} {W : WX} {Hf0 H0 Hf H Hf' H' : Hp} {env : Env} {σ : L2.St}
theorem at2 {α : Type} (x y z : α) (l : List α) : atI (x :: y :: z :: l) 2 = some z := by
  unfold atI ixN
  rw [if_pos (by omega), if_pos (by simp; omega)]
  rfl
theorem EnvOk.away {a : Addr} {ws us : List V} (E : EnvOk G H0 Hf H env σ) (nf : Hf a = none) (ha : H a = some (.lst ws)) (no : ∀ j, (env.at j).isOwn = true → σ[j]? ≠ some (some (.ref a))) : EnvOk G H0 Hf (L2.upd H a (.lst us)) env σ := by
  refine ⟨E.len, fun j => ?_, E.dis⟩
  have q := E.get j
  have nj := no j
  cases ej : env.at j with
  | no => trivial
  | val p => rw [ej] at q; exact q
  | own m =>
    rw [ej] at q nj
    obtain ⟨b, vs, eb, b0, bf, bh, rr⟩ := q
    exact ⟨b, vs, eb, b0, bf, by rw [upd_ne (fun z => nj rfl (by rw [eb, z]))]; exact bh, rr⟩
  | ownD m =>
    rw [ej] at q nj
    obtain ⟨b, vs, eb, b0, bf, bh, rr⟩ := q
    exact ⟨b, vs, eb, b0, bf, by rw [upd_ne (fun z => nj rfl (by rw [eb, z]))]; exact bh, rr⟩
  | iol m =>
    rw [ej] at q nj
    obtain ⟨b, vs, eb, z, b0, bf, bh, rr⟩ := q
    exact ⟨b, vs, eb, z, b0, bf, by rw [upd_ne (fun z => nj rfl (by rw [eb, z]))]; exact bh, rr⟩
  | io2 m =>
    rw [ej] at q nj
    obtain ⟨b, vs, eb, z, b0, bf, bh, rr⟩ := q
    exact ⟨b, vs, eb, z, b0, bf, by rw [upd_ne (fun z => nj rfl (by rw [eb, z]))]; exact bh, rr⟩
  | oob c fs =>
    rw [ej] at q nj
    obtain ⟨b, dx, vs, eb, z, b0, bf, bh, rr⟩ := q
    exact ⟨b, dx, vs, eb, z, b0, bf, by rw [upd_ne (fun z => nj rfl (by rw [eb, z]))]; exact bh, rr⟩
  | slf c fs => rw [ej] at q; exact q
  | par l => rw [ej] at q; exact q
  | exc c fs =>
    rw [ej] at q
    obtain ⟨b, d, eb, xi, rr⟩ := q
    refine ⟨b, d, eb, xi, ?_⟩
    cases fs with
    | nil => exact rr
    | cons u us =>
      obtain ⟨x, vfs, e1, e2, e3⟩ := rr
      refine ⟨x, vfs, e1, ?_, e3⟩
      rw [upd_ne (fun z => by rw [z, ha] at e2; cases e2)]
      exact e2
end
end J

namespace J
open PySem.Spec PySem PyProof.Rows
open L2 hiding St Takes XE CX takes_of PMk MkP ps_raise mk_of ps_try_as ps_try_many pmk_own passAt passes_call takes0 passL
open L2N hiding St
open Bp (takes0 passL OpS R2S IsI)
section
variable {G : Ga} {X : Cx} {W : WX} {o e a b : Expr} {d de da db : Env → R PV} {id : String} {name : Str} {apos pos : Pos} {f : Str → List PV → R PV}
def jnE : List (Env → R PV) → Str → Env → R PV
  | [], acc, _ => .ok (.str acc)
  | d :: ds, acc, env => (d env).bind fun p => match p with | .str y => if (acc ++ y).length ≤ sizeLine then jnE ds (acc ++ y) env else .bad | _ => .bad
structure JJ (G : Ga) (X : Cx) (W : WX) (es : List Expr) (ds : List (Env → R PV)) : Prop where
  ex : ∃ ts, L2.PJ X es ts ∧ ∀ (acc : Str) (H0 Hf H : Hp) (env : Env) (σ : L2.St) (Q : VK), Same Hf H → EnvOk G H0 Hf H env σ → Post G W Hf H σ (jnE ds acc env) Q → tJs ts acc σ H fun out H1 => Q (.str out) H1
end
end J

namespace J
open PySem.Spec PySem PyProof.Rows
open L2 hiding St Takes XE CX takes_of PMk MkP ps_raise mk_of ps_try_as ps_try_many pmk_own passAt passes_call takes0 passL
open L2N hiding St
open Bp (takes0 passL OpS R2S IsI)
section
variable {G : Ga} {X : Cx} {W : WX}
end
end J

namespace J
open PySem.Spec PySem PyProof.Rows
open L2 hiding St Takes XE CX takes_of PMk MkP ps_raise mk_of ps_try_as ps_try_many pmk_own passAt passes_call takes0 passL
open L2N hiding St
open Bp (takes0 passL OpS R2S IsI)
section
variable {prog : Program} {w : World} {A : Around} {E : Value → Shared → Prop} {s : Shared} {K : PySem.W.Frag} {x C f : Addr} {ox : Obj} {od : Option Obj} {Q : Value → Shared → Prop}
end
section
variable {X : Cx} {k : Nat} {C : Addr} {ps : List Str} {sp : Sp}
end
end J

namespace J
open PySem.Spec PySem PyProof.Rows
open L2 hiding St Takes XE CX takes_of PMk MkP ps_raise mk_of ps_try_as ps_try_many pmk_own passAt passes_call takes0 passL
open L2N hiding St
open Bp (takes0 passL OpS R2S IsI)
section
variable {G : Ga} {X : Cx} {W : WX} {a b e : Expr} {da db d : Env → R PV} {x y : Str} {pos py p : Pos}
end
end J

namespace J
open PySem.Spec PySem PyProof.Rows
open L2 hiding St Takes XE CX takes_of PMk MkP ps_raise mk_of ps_try_as ps_try_many pmk_own passAt passes_call takes0 passL
open L2N hiding St
open Bp (takes0 passL OpS R2S IsI)
open RZ
section
variable {G : Ga} {X : Cx} {W : WX} {tg iter o : Expr} {d : Env → R PV} {x : Str} {pos p : Pos}
structure CInt (K : PySem.W.Frag) (mg : Str → Option Value) (x : Str) (C : Addr) (f : Str) (n : Int) : Prop where
  ex : ∃ mc t, ClX.CRead K C mc ∧ PySem.W.findCls K (.ref C) mc f = some (.val (.int n t)) ∧ mg x = some (.ref C)
end
end J

namespace J
open PySem.Spec PySem PyProof.Rows
open L2 hiding St Takes XE CX takes_of PMk MkP ps_raise mk_of ps_try_as ps_try_many pmk_own passAt passes_call takes0 passL
open L2N hiding St
open Bp (takes0 passL OpS R2S IsI)
section
variable {G : Ga} {X : Cx} {W : WX} {tg e : Expr} {d : Env → R PV} {pos : Pos} {bn : Bnd} {vs : List Nat}
def asgF (bn : Bnd) (d : Env → R PV) (env : Env) : F := liftF (d env) env fun p => match bn p env with | some e' => .nx e' | none => .bad
theorem js_asg (h : JE G X W e d) (hg : JG G X tg bn vs) (hs : swapsWithSole [tg] e pos.line X.env = pure false := by rfl) (hw : swappedStores [tg] e X.env = pure none := by rfl)
    (h1 : (assignEach [tg] X.env).map (·.2) = [assign tg X.env] := by rfl) : JS G X W (.Assign [tg] e pos) (asgF bn d) := by
  obtain ⟨t, pt, jt⟩ := h
  obtain ⟨g, pg, jg⟩ := hg
  refine ⟨_, ps_asg pt pg hs hw h1, fun Hf0 H0 Hf H env σ D S h => jt H0 Hf H env σ _ S.gr.sub S.env (post_lift S h fun p v Hf' H' _ S' r k => ?_)⟩
  refine jg H0 Hf' H' env σ p v _ S'.gr.sub S'.env r ?_
  cases eb : bn p env with
  | none => rw [eb] at k; exact k.elim
  | some e' =>
    rw [eb] at k
    exact fun σ' E' _ => k σ' Hf' H' ⟨S'.gr, E'⟩ (fun _ _ h => h)
end
end J

namespace J
open PySem.Spec PySem PyProof.Rows
open L2 hiding St Takes XE CX takes_of PMk MkP ps_raise mk_of ps_try_as ps_try_many pmk_own passAt passes_call takes0 passL
open L2N hiding St
open Bp (takes0 passL OpS R2S IsI)
section
variable {G : Gb} {Hf H : Hp} {p q : PV} {v u : V} {l : List PV} {vs : List V}
end
section
variable {G : Ga} {X : Cx} {W : WX} {Hf0 H0 Hf H Hf' H' : Hp} {env : Env} {σ : L2.St} {i : Nat} {x : Str} {pos pos2 p p0 p1 p2 p3 : Pos} {e e2 a b c tg iter elt : Expr} {d da db dc : Env → R PV} {es ifs : List Expr} {st : Stmt} {sts : List Stmt} {f g : Env → F} {q t : Env → R Bool} {dl : Env → R (List PV)} {vs : List Nat} {bn : Bnd}
def rDNin : R2 := fun x y H Q => ∃ a o, y = .ref a ∧ DGet H a x o ∧ Q (.bl (!o.isSome)) H
theorem op_dNin (hu : X.A.units + 1 < cLine) : OpR X (compareOp .NotIn) rDNin := by
  intro pins s σ H x y v u Q I rx ry h
  obtain ⟨a, o, rfl, g, q⟩ := h
  cases ry
  exact d_notIn hu I g rx fun s3 I3 => ⟨.bl (!o.isSome), H, I3, rfl, q⟩
theorem repk_get {G : Gb} {Hf H : Hp} {kvs : List (L2.Key × PV)} {vs : List (L2.Key × V)} {a : Addr} {k : L2.Key} (h : H a = some (.dK vs)) (r : RepK G Hf kvs vs) : ∃ o, DGet H a (kV k) o ∧ o.isSome = (valD kvs k).isSome ∧ ∀ p, valD kvs k = some p → ∃ v, o = some v ∧ Rep G Hf p v := by
  refine ⟨_, DGet.k h, ?_⟩
  rcases r.val (k := k) with ⟨e1, e2⟩ | ⟨p, v, e1, e2, rp⟩
  · rw [e1, e2]; exact ⟨rfl, fun p z => nomatch z⟩
  · rw [e1, e2]; exact ⟨rfl, fun q z => ⟨v, rfl, by cases z; exact rp⟩⟩
def ownDF (i : Nat) (env : Env) : F := .nx (env.set i (.ownD []))
theorem js_ownD {pos' pos2 : Pos} (i : Nat) (nd : X.N.Nodup) (hi : X.N[i]? = some x := by rfl) (hx : Loc X.env.scope x := by first | exact Or.inl rfl | exact Or.inr rfl) (hs : swapsWith (.Dict [] [] pos2) (some (.Name x pos')) pos.line X.env = pure false := by rfl) (hf : X.fn x = true ∨ X.env.scope.names.lookup x = some .local := by first | exact .inl rfl | exact .inr rfl) :
    JS G X W (.Assign [.Name x pos'] (.Dict [] [] pos2) pos) (ownDF i) := by
  refine ⟨_, ps_set nd hi hx pe_dnewK hs hf, fun Hf0 H0 Hf H env σ D S h => ?_⟩
  intro a ha
  have g : Gr Hf H Hf (upd H a (.dK [])) := Gr.up S.gr.sub (Same.new ha)
  have S' := S.grow g
  exact h _ Hf _ ⟨S'.gr, S'.env.set ⟨a, [], rfl, none_back S.gr.hp ha, none_back S.gr.sub ha, upd_same, .nil⟩ fun _ j hj ho hq => by
    obtain ⟨b, o, eb, hb⟩ := own_at S.env ho hq
    cases eb
    rw [ha] at hb
    cases hb⟩ (fun _ _ h => h)
def setD (i : Nat) (dk d : Env → R PV) (env : Env) : F := match env.at i with
  | .ownD kvs => liftF (d env) env fun p => liftF (dk env) env fun q => match keyP q with | some k => if kvs.length < 1000 then .nx (env.set i (.ownD (putD kvs k p))) else .bad | none => .bad
  | _ => .bad
theorem js_setD (i : Nat) (hu : X.A.units + 1 < cLine) (hd : JE G X W e d) (hb : JE G X W b db) (hi : X.N[i]? = some x := by rfl) (hv : Vis X.env.scope x := by first | exact Or.inl rfl | exact Or.inr (Or.inl rfl) | exact Or.inr (Or.inr rfl)) (hdb : (x == ("__debug__" : Str)) = false := by decide) (hcd : (x == ("__classdict__" : Str)) = false := by decide)
    (hs : swapsWith e (some (.Subscript (.Name x p1) b p2)) pos.line X.env = pure false := by rfl) : JS G X W (.Assign [.Subscript (.Name x p1) b p2] e pos) (setD i db d) := by
  obtain ⟨t, pt, jt⟩ := hd
  obtain ⟨u, pu, ju⟩ := hb
  refine ⟨_, ps_dput hu (pe_var hi hv hdb hcd) pu pt hs, fun Hf0 H0 Hf H env σ D S h => ?_⟩
  unfold setD at h
  cases el : env.at i with
  | ownD kvs =>
    rw [el] at h
    simp only at h
    refine jt H0 Hf H env σ _ S.gr.sub S.env (post_lift S h fun p v Hf1 H1 g1 S1 rp k => ?_)
    have q1 := S1.env.get i
    rw [el] at q1
    obtain ⟨a, vs, ea, _⟩ := q1
    refine ⟨.ref a, ea, ?_⟩
    refine ju H0 Hf1 H1 env σ _ S1.gr.sub S1.env (post_lift S1 (k.step (fun _ _ h => h)) fun q w Hf2 H2 g2 S2 rq k2 => ?_)
    have q2 := S2.env.get i
    rw [el] at q2
    obtain ⟨a', vs', ea', a0, af, ah, rr⟩ := q2
    rw [ea] at ea'
    cases ea'
    cases ek : keyP q with
    | none => rw [ek] at k2; exact k2.elim
    | some kk =>
      rw [ek] at k2
      by_cases hl : kvs.length < 1000
      · simp only [if_pos hl] at k2
        have ex := keyP_rep ek rq
        subst ex
        refine ⟨a, _, rfl, DPut.k ah (by rw [← rr.length]; exact Nat.lt_trans hl (by decide)), ?_⟩
        exact k2 σ Hf2 _ (S2.upd (by rw [el]; rfl) ea a0 af ah (fun _ w => nomatch w) ⟨a, _, rfl, a0, af, upd_same, rr.put (rp.mono g2.fz)⟩) (fun _ _ h => h)
      · simp only [if_neg hl] at k2
        exact k2.elim
  | _ => rw [el] at h; exact h.elim
def blsP : List PV → Option (List Bool)
  | [] => some []
  | .bl b :: l => (match blsP l with | some bs => some (b :: bs) | none => none)
  | _ :: _ => none
theorem bls_rep {G : Gb} {Hf : Hp} : ∀ {l : List PV} {vs : List V} {bs : List Bool}, Reps G Hf l vs → blsP l = some bs → vs = bs.map V.bl
  | _, _, bs, .nil, h => by
    cases h
    rfl
  | _, _, bs, .cons (p := p) (l := l) r1 r2, h => by
    cases r1 with
    | bl b =>
      unfold blsP at h
      cases e : blsP l with
      | none => rw [e] at h; cases h
      | some cs =>
        rw [e] at h
        cases h
        rw [bls_rep r2 e]
        rfl
    | _ => cases h
def revP (d : Env → R PV) (env : Env) : R PV := (d env).bind fun p => match p with | .lst l => .ok (.lst l.reverse) | _ => .bad
theorem Reps.rev {G : Gb} {Hf : Hp} {l : List PV} {vs : List V} (r : Reps G Hf l vs) : Reps G Hf l.reverse vs.reverse := by
  refine reps_get (by rw [List.length_reverse, List.length_reverse, r.length]) fun i p v h1 h2 => ?_
  have hl : i < l.length := by
    rcases Nat.lt_or_ge i l.length with z | z
    · exact z
    · rw [List.getElem?_eq_none (by rw [List.length_reverse]; exact z)] at h1; cases h1
  rw [List.getElem?_reverse hl] at h1
  rw [List.getElem?_reverse (by rw [← r.length]; exact hl), ← r.length] at h2
  obtain ⟨w, e, rw'⟩ := r.get h1
  rw [e] at h2
  cases h2
  exact rw'
theorem je_rev {k} (hK : X.K = G.K) (h : JE G X W e d) : JE G X W (.Subscript e (.Slice none none (some (.UnaryOp .USub (.Constant (.int 1) k p1) p2)) p3) pos) (revP d) := by
  obtain ⟨t, pt, jt⟩ := h
  refine ⟨_, pe_revL pt, fun H0 Hf H env σ Q s E h => jt H0 Hf H env σ _ s E (PostG.bind h fun p v Hf1 H1 _ g1 r1 h1 => ?_)⟩
  cases r1 with
  | lst ht hr => exact ⟨_, _, rfl, by rw [hK]; exact g1.sub.seq ht, fun p hp => h1 _ _ _ (Gr.one (o := .lst _) g1.sub hp) (.lst (SqL.of upd_same) (hr.rev.mono (Same.new (none_back g1.sub hp))))⟩
  | _ => exact h1.elim
end
end J

namespace J
open PySem.Spec PySem PyProof.Rows
open L2 hiding St Takes XE CX takes_of PMk MkP ps_raise mk_of ps_try_as ps_try_many pmk_own passAt passes_call takes0 passL
open L2N hiding St
open Bp (takes0 passL OpS R2S IsI)
def Turn (g : TG) (tt : TT) (tk tv : TE) (vs : List Nat) (σ : L2.St) (D : Addr) (Nx : Hp → Prop) (x : V) (H' : Hp) : Prop :=
  g x (wipe σ vs) H' fun σ2 H2 => wipe σ2 vs = wipe σ vs ∧ tt σ2 H2 fun b H3 =>
    if b = true then tk σ2 H3 fun y H4 => tv σ2 H4 fun z H5 => ∃ kvs k, y = kV k ∧ H5 D = some (.dK kvs) ∧ kvs.length < sizeLine ∧ Nx (upd H5 D (.dK (putK kvs k z))) else Nx H3
section
variable {G : Ga} {X : Cx} {W : WX} {Hf0 H0 Hf H Hf' H' : Hp} {env : Env} {σ : L2.St} {pos : Pos} {tg iter kx vx : Expr} {dk dv : Env → R PV} {dl : Env → R (List PV)} {vs : List Nat} {bn : Bnd}
variable {x y : Str} {py spos : Pos} {scope : Scope} {i : Nat}
end
end J

namespace J
open PySem.Spec PySem PyProof.Rows
open L2 hiding St Takes XE CX takes_of PMk MkP ps_raise mk_of ps_try_as ps_try_many pmk_own passAt passes_call takes0 passL
open L2N hiding St
open Bp (takes0 passL OpS R2S IsI)
structure SupScope (N ps : List Str) (sc : Scope) : Prop where
  kind : sc.kind = .function
  co : sc.isCoroutine = false
  gen : sc.isGenerator = false
  nd : N.Nodup
  pre : N.take ps.length = ps
  par : ∀ x ∈ ps, sc.names.lookup x = some .local
  nocell : ∀ y ∈ sc.names, y.2 ≠ .cell
  free : ∀ y ∈ sc.names, y.2 = .free → y.1 = "__class__"
  kcl : sc.names.lookup ("__class__" : Str) = some .free
  ksu : sc.names.lookup ("super" : Str) = some .globalImplicit
structure SupEnv (P : Program) (K : PySem.W.Frag) (mg : Str → Option Value) (D cda cc : Addr) : Prop where
  code : ∃ ccl cdd vs ccs file tf, K.lookup cda = some ⟨ccl, cdd, .fields vs, ccs⟩ ∧ vs[2]? = some (.str file tf) ∧ ((P.main.file : Str) == file) = true
  cell : ∃ cl cld csl, K.lookup cc = some ⟨cl, cld, .cell (some (.ref D)), csl⟩
  top : (P.main.scope.names.lookup ("super" : Str)).isSome = false
  cls : ∃ cd, PySem.W.clsIn K D = some cd
  sup : mg "super" = none
structure SupM (K : PySem.W.Frag) (C D : Addr) (m : Str) (g : Addr) : Prop where
  cl : ∃ cd, PySem.W.clsIn K C = some cd
  sub : PySem.W.mroIn K C (.ref D) = some true
  ho : PySem.W.nsIn K cStatics "thirdparty.any" = some none
  hm : PySem.W.ks_superIn K C D m = some (some (.ref g))
  ht : PySem.W.typeIn K (.ref g) = some (.type "function")
  fi : PySem.W.fnIn K g = true
  nc : (m == ("__class__" : Str)) = false
abbrev envS (qual : Str) (scope : Scope) (f cda cc L : Addr) : PySem.Env := PySem.W.envX qual scope L f (.ref cda) [("__class__", cc)]
section
variable {CX : CXT} {P : Program} {w : World} {K : PySem.W.Frag} {mg : Str → Option Value} {base : Heap} {N ps : List Str} {qual x : Str} {scope : Scope} {f cda cc D : Addr} {A : Around} {outer : List PySem.Env} {s : Shared} {H : Hp} {E : XK} {us : List Value} {vs : List V}
end
abbrev atC (X : Cx) (body : List Stmt) {α : Type} (t : Sem α) (Q : α → Shared → Prop) (s : Shared) : Prop := _root_.PySem.wpAt (model X.prog X.w) X.A (.func body X.env) t Q X.xe s
structure PSA (X : Cx) (body sts : List Stmt) (t : TS) : Prop where
  run : ∀ (pins : List (Addr × Obj)) (s : Shared) (σ : L2.St) (H : Hp) (D : Ends), Inv X pins σ H s → t D σ H → atC X body (execs sts X.env) (SP X pins D) s
structure PEA (X : Cx) (body : List Stmt) (e : Expr) (t : TE) : Prop where
  run : ∀ (pins : List (Addr × Obj)) (s : Shared) (σ : L2.St) (H : Hp) (Q : VK), Inv X pins σ H s → t σ H Q → atC X body (eval e X.env) (EP X pins σ Q) s
section
variable {X : Cx} {body sts rest : List Stmt} {st : Stmt} {t u : TS} {te tf : TE} {e e2 : Expr} {pos : Pos}
end

section
variable {X : Cx} {body sts rest : List Stmt} {st : Stmt} {t u : TS} {te tf : TE} {ta : TA} {e e2 b : Expr} {es : List Expr} {pos p0 p1 apos : Pos} {D f cda cc C g : Addr} {qual m self : Str} {scope : Scope} {i k : Nat} {ps : List Str} {sp : Sp} {W : WX} {pl : Sem Bool} {pins : List (Addr × Obj)} {σ : L2.St} {H : Hp} {s : Shared}
end
end J

namespace J
open PySem.Spec PySem PyProof.Rows
open L2 hiding St Takes XE CX takes_of PMk MkP ps_raise mk_of ps_try_as ps_try_many pmk_own passAt passes_call takes0 passL
open L2N hiding St
open Bp (takes0 passL OpS R2S IsI)
structure SupFn (P : Program) (K : PySem.W.Frag) (mg : Str → Option Value) (x qual : Str) (st : Stmt) (D f cda cc : Addr) (fd : FuncData) : Prop where
  env : SupEnv P K mg D cda cc
  lk : ∃ oc od dV kV doc pm an ct osl, fd = PySem.W.ksFn x qual (defArgs st) (defBody st) (defScope st) dV kV doc pm an (.ref cda) ct cc ∧ K.lookup f = some ⟨oc, od, .func fd, osl⟩
  code : PySem.W.codeIn K (.ref cda) qual = true
section
variable {P : Program} {w : World} {K : PySem.W.Frag} {mg : Str → Option Value} {base : Heap} {CXt : CXT} {x qual : Str} {st : Stmt} {D f cda cc : Addr} {fd : FuncData} {N ps : List Str} {k : Nat} {sp : Sp}
end
structure JSA (G : Ga) (X : Cx) (W : WX) (body sts : List Stmt) (d : Env → F) : Prop where
  ex : ∃ t, PSA X body sts t ∧ TSJ G W t d
section
variable {G : Ga} {X : Cx} {W : WX} {body sts rest : List Stmt} {st : Stmt} {f g d : Env → F} {Hf0 H0 Hf H Hf' H' : Hp} {env : Env} {σ : L2.St} {i k : Nat} {b e2 : Expr} {es : List Expr} {pos p0 p1 apos pos2 : Pos} {dl : Env → R (List PV)} {D fa cda cc ga : Addr} {fd gd : FuncData} {x qual m : Str} {ps : List Str} {pl : Sem Bool} {c : Nat} {f0 : Nat → List PV → R PV}
structure AtSup (X : Cx) (D cda cc fa : Addr) (fd : FuncData) (x qual sn : Str) (st : Stmt) : Prop where
  fn : SupFn X.prog X.K X.mg x qual st D fa cda cc fd
  env : X.env = envS qual (defScope st) fa cda cc X.env.locals
  ks : (defScope st).names.lookup ("super" : Str) = some .globalImplicit
  kc : (defScope st).names.lookup ("__class__" : Str) = some .free
  hd : ∃ ar : Arg, ((defArgs st).posonlyargs ++ (defArgs st).args).head? = some ar ∧ ar.arg = sn
  hN : X.N[0]? = some sn
  hl : (defScope st).names.lookup sn = some .local
theorem EnvOk.del {i : Nat} {a C dx : Addr} {fs : List (Str × V)} (E : EnvOk G H0 Hf H env σ) (hi : (env.at i).isOwn = true) (ea : σ[i]? = some (some (.ref a))) (ah : H a = some (.ins C dx fs)) : EnvOk G H0 Hf (L2.del H a) (env.set i .no) σ := by
  have E' := E.forget (i := i)
  refine ⟨E'.len, fun j => ?_, E'.dis⟩
  have q := E'.get j
  have away : ∀ b, (Env.at (env.set i .no) j).isOwn = true → σ[j]? = some (some (.ref b)) → b ≠ a := fun b hb eb z => by
    subst z
    rw [Env.at_set] at hb
    by_cases e : i = j ∧ j < env.length
    · rw [if_pos e] at hb; cases hb
    · rw [if_neg e] at hb
      have := E.dis i j b hi hb ea eb
      subst this
      exact e ⟨rfl, by
        rw [E.len]
        by_cases l : i < σ.length
        · exact l
        · rw [List.getElem?_eq_none (by omega)] at ea
          cases ea⟩
  cases ej : Env.at (env.set i .no) j with
  | no => trivial
  | val p => rw [ej] at q; exact q
  | slf c fs => rw [ej] at q; exact q
  | par l => rw [ej] at q; exact q
  | own m =>
    rw [ej] at q
    obtain ⟨b, ws, eb, b0, bf, bh, rr⟩ := q
    exact ⟨b, ws, eb, b0, bf, by rw [L2.del_ne (away b (by rw [ej]; rfl) eb)]; exact bh, rr⟩
  | ownD m =>
    rw [ej] at q
    obtain ⟨b, ws, eb, b0, bf, bh, rr⟩ := q
    exact ⟨b, ws, eb, b0, bf, by rw [L2.del_ne (away b (by rw [ej]; rfl) eb)]; exact bh, rr⟩
  | iol m =>
    rw [ej] at q
    obtain ⟨b, ws, eb, z, b0, bf, bh, rr⟩ := q
    exact ⟨b, ws, eb, z, b0, bf, by rw [L2.del_ne (away b (by rw [ej]; rfl) eb)]; exact bh, rr⟩
  | io2 m =>
    rw [ej] at q
    obtain ⟨b, ws, eb, z, b0, bf, bh, rr⟩ := q
    exact ⟨b, ws, eb, z, b0, bf, by rw [L2.del_ne (away b (by rw [ej]; rfl) eb)]; exact bh, rr⟩
  | oob c fs =>
    rw [ej] at q
    obtain ⟨b, dx, ws, eb, z, b0, bf, bh, rr⟩ := q
    exact ⟨b, dx, ws, eb, z, b0, bf, by rw [L2.del_ne (away b (by rw [ej]; rfl) eb)]; exact bh, rr⟩
  | exc c fs =>
    rw [ej] at q
    obtain ⟨b, d, eb, xi, rr⟩ := q
    refine ⟨b, d, eb, xi, ?_⟩
    cases fs with
    | nil => exact rr
    | cons u us =>
      obtain ⟨x, vfs, e1, e2, e3⟩ := rr
      refine ⟨x, vfs, e1, ?_, e3⟩
      rw [L2.del_ne (fun z => by rw [z, ah] at e2; cases e2)]
      exact e2
end
section
variable {P : Program} {w : World} {K : PySem.W.Frag} {mg : Str → Option Value} {base : Heap} {G : Gb} {x qual self : Str} {st : Stmt} {D f cda cc : Addr} {fd : FuncData} {N ps : List Str} {k c : Nat} {d : Env → F}
end
end J

namespace J
open PySem.Spec PySem PyProof.Rows
open L2 hiding St Takes XE CX takes_of PMk MkP ps_raise mk_of ps_try_as ps_try_many pmk_own passAt passes_call takes0 passL
open L2N hiding St
open Bp (takes0 passL OpS R2S IsI)
structure CKDef (P : Program) (w : World) (K : PySem.W.Frag) (mg : Str → Option Value) (base : Heap) (k : Nat) (x : Str) (C : Addr) (sp : Sp) (n : Nat) (ks : List Str) (gV : List V → List V → List V) : Prop where
  ex : ∃ f fd ps g, mg x = some (.ref C) ∧ Mk K C f ∧ KBn K fd ps (n + 1) ks g gV ∧ FnOk P w K mg base (L2N.CX P w) k f fd ps sp
section
variable {X : Cx} {k n : Nat} {f C : Addr} {ps ks : List Str} {sp : Sp} {W : WX} {x : Str} {p pos : Pos} {e : Expr} {es : List Expr} {kws : List Keyword} {t tk : TA} {gV : List V → List V → List V}
end
structure JK (G : Ga) (X : Cx) (W : WX) (kws : List Keyword) (d : Env → R (List PV)) : Prop where
  ex : ∃ ta, PK X kws ta ∧ TJA G W ta d
section
variable {G : Ga} {X : Cx} {W : WX} {k n c : Nat} {ks : List Str} {x : Str} {nm : Option Str} {p pos kpos : Pos} {e : Expr} {es : List Expr} {kws : List Keyword} {gV : List V → List V → List V} {gP : List PV → List PV → List PV} {f : List PV → R PV} {d : Env → R PV} {dl dk : Env → R (List PV)}
end
def lend (i : Nat) (d : Env → R PV) (env : Env) : R PV := match env.at i with
  | .own l => (match d (env.set i (.val (.lst l))) with | .ok p => if noL p = true then .ok p else .bad | _ => .bad)
  | _ => .bad
section
variable {G : Ga} {X : Cx} {W : WX} {H0 Hf H : Hp} {env : Env} {σ : L2.St} {i : Nat} {e : Expr} {d : Env → R PV}
theorem je_lend (i : Nat) (h : JE G X W e d) : JE G X W e (lend i d) := by
  obtain ⟨t, pt, jt⟩ := h
  refine ⟨t, pt, fun H0 Hf H env σ Q s E h => ?_⟩
  unfold lend at h
  cases el : env.at i with
  | own l =>
    rw [el] at h
    simp only at h
    have q := E.get i
    rw [el] at q
    obtain ⟨a, vs, ea, a0, af, ah, rr⟩ := q
    have S : StOk G Hf H0 Hf H env σ → True := fun _ => trivial
    -- the frozen heap with the list in it
    have s2 : Same (upd Hf a (.lst vs)) H := fun b o hb => by
      by_cases e : b = a
      · subst e
        rw [upd_same] at hb
        rw [← hb]
        exact ah
      · rw [upd_ne e] at hb
        exact s _ _ hb
    have fz : Same Hf (upd Hf a (.lst vs)) := Same.new af
    have E2 : EnvOk G H0 (upd Hf a (.lst vs)) H (env.set i (.val (.lst l))) σ := by
      have base : EnvOk G H0 (upd Hf a (.lst vs)) H (env.set i .no) σ := by
        have E' := E.forget (i := i)
        refine ⟨E'.len, fun j => ?_, E'.dis⟩
        have q := E'.get j
        have away : ∀ b, (Env.at (env.set i .no) j).isOwn = true → σ[j]? = some (some (.ref b)) → b ≠ a := fun b hb eb z => by
          subst z
          rw [Env.at_set] at hb
          by_cases e : i = j ∧ j < env.length
          · rw [if_pos e] at hb; cases hb
          · rw [if_neg e] at hb
            have := E.dis i j b (by rw [el]; rfl) hb ea eb
            subst this
            exact e ⟨rfl, by
              rw [E.len]
              by_cases l : i < σ.length
              · exact l
              · rw [List.getElem?_eq_none (by omega)] at ea
                cases ea⟩
        cases ej : Env.at (env.set i .no) j with
        | no => trivial
        | val p =>
          rw [ej] at q
          obtain ⟨v, ev, r⟩ := q
          exact ⟨v, ev, r.mono fz⟩
        | own m =>
          rw [ej] at q
          obtain ⟨b, ws, eb, b0, bf, bh, r⟩ := q
          exact ⟨b, ws, eb, b0, by rw [upd_ne (away b (by rw [ej]; rfl) eb)]; exact bf, bh, r.mono fz⟩
        | ownD m =>
          rw [ej] at q
          obtain ⟨b, ws, eb, b0, bf, bh, r⟩ := q
          exact ⟨b, ws, eb, b0, by rw [upd_ne (away b (by rw [ej]; rfl) eb)]; exact bf, bh, r.mono fz⟩
        | iol m =>
          rw [ej] at q
          obtain ⟨b, ws, eb, z, b0, bf, bh, r⟩ := q
          exact ⟨b, ws, eb, z, b0, by rw [upd_ne (away b (by rw [ej]; rfl) eb)]; exact bf, bh, r.mono fz⟩
        | io2 m =>
          rw [ej] at q
          obtain ⟨b, ws, eb, z, b0, bf, bh, r⟩ := q
          exact ⟨b, ws, eb, z, b0, by rw [upd_ne (away b (by rw [ej]; rfl) eb)]; exact bf, bh, r.mono fz⟩
        | oob c fs =>
          rw [ej] at q
          obtain ⟨b, dx, ws, eb, z, b0, bf, bh, r⟩ := q
          exact ⟨b, dx, ws, eb, z, b0, by rw [upd_ne (away b (by rw [ej]; rfl) eb)]; exact bf, bh, r.mono fz⟩
        | slf c fs =>
          rw [ej] at q
          obtain ⟨b, eb, z, r⟩ := q
          exact ⟨b, eb, z, r.mono fz⟩
        | par l =>
          rw [ej] at q
          obtain ⟨b, eb, r⟩ := q
          exact ⟨b, eb, r.mono fz⟩
        | exc c fs =>
          rw [ej] at q
          obtain ⟨b, d, eb, xi, r⟩ := q
          exact ⟨b, d, eb, xi, r.grow fz (fun _ _ h => h)⟩
      have r := base.set (i := i) (s := .val (.lst l)) (v := .ref a) ⟨_, rfl, .lst (SqL.of upd_same) (rr.mono fz)⟩ (fun z => nomatch z)
      rw [List.set_set, set_same ea] at r
      exact r
    refine jt H0 (upd Hf a (.lst vs)) H (env.set i (.val (.lst l))) σ Q s2 E2 ?_
    cases ed : d (env.set i (.val (.lst l))) with
    | ok p =>
      rw [ed] at h
      simp only at h
      by_cases nl : noL p = true
      case neg => rw [if_neg nl] at h; exact h.elim
      rw [if_pos nl] at h
      intro v Hf' H' g r
      -- thawed
      have aa := g.fz a _ (show upd Hf a (.lst vs) a = some (.lst vs) from upd_same)
      refine h v (L2.del Hf' a) H' ⟨fun b o hb => ?_, g.hp, fun b o hb => ?_, fun b o hb => ?_⟩ (r.thaw (fun b o hb hn => ?_) nl)
      · have ne : b ≠ a := ne_of_none hb af
        rw [L2.del_ne ne]
        exact g.fz _ _ (fz _ _ hb)
      · by_cases e : b = a
        · subst e; rw [L2.del_same] at hb; cases hb
        · rw [L2.del_ne e] at hb; exact g.sub _ _ hb
      · by_cases e : b = a
        · subst e; rw [L2.del_same] at hb; cases hb
        · rw [L2.del_ne e] at hb
          rcases g.new b o hb with z | z
          · rw [upd_ne e] at z; exact .inl z
          · exact .inr z
      · by_cases e : b = a
        · subst e
          rw [aa] at hb
          cases hb
          exact absurd rfl (hn vs)
        · rw [L2.del_ne e]; exact hb
    | er c fs => rw [ed] at h; exact h.elim
    | bad => rw [ed] at h; exact h.elim
  | _ => rw [el] at h; exact h.elim
end
def setCO (i : Nat) (d : Env → R (List PV)) (env : Env) : F := match d env with | .ok l => .nx (env.set i (.own l)) | _ => .bad
theorem js_setCO {G : Ga} {X : Cx} {W : WX} {e : Expr} {d : Env → R (List PV)} {y : Str} {py pos : Pos} (i : Nat) (nd : X.N.Nodup) (h : JEO G X e d) (hi : X.N[i]? = some y := by rfl) (hx : Loc X.env.scope y := by first | exact Or.inl rfl | exact Or.inr rfl)
    (hs : swapsWith e (some (.Name y py)) pos.line X.env = pure false := by rfl) (hf : X.fn y = true ∨ X.env.scope.names.lookup y = some .local := by first | exact .inl rfl | exact .inr rfl) : JS G X W (.Assign [.Name y py] e pos) (setCO i d) := by
  obtain ⟨t, pt, jt⟩ := h
  refine ⟨_, ps_set nd hi hx pt hs hf, fun Hf0 H0 Hf H env σ D S h => ?_⟩
  unfold setCO at h
  cases ed : d env with
  | ok l =>
    rw [ed] at h
    refine jt H0 Hf H env σ _ S.gr.sub S.env ?_
    rw [ed]
    exact fun a ws Hf' H' g na nf ha rr => h _ Hf' H' ⟨S.gr.trans g, own_put S.env g S.gr.hp na nf ha rr⟩ g.fz
  | er _ _ => rw [ed] at h; exact h.elim
  | bad => rw [ed] at h; exact h.elim
structure GTup (K : PySem.W.Frag) (mg : Str → Option Value) (x : Str) (ys : List Str) : Prop where
  ex : ∃ (T : Addr) (o : Obj) (its : List Value) (n : Nat), mg x = some (.ref T) ∧ K.lookup T = some o ∧ o.data = .seq its.toArray n ∧ o.cls = .type "tuple" ∧ Vals (ys.map V.str) its
end J

namespace J
open PySem.Spec PySem PyProof.Rows
open L2 hiding St Takes XE CX takes_of PMk MkP ps_raise mk_of ps_try_as ps_try_many pmk_own passAt passes_call takes0 passL
open L2N hiding St
open Bp (takes0 passL OpS R2S IsI)
structure PFun (K : PySem.W.Frag) (C : Addr) (m qual : Str) (st : Stmt) (ps : List Str) : Prop where
  ex : ∃ pr f fd, L2.Fun K m qual st f fd ∧ PropOf K C m pr f ∧ L2.Binds K fd ps []
structure PDef (P : Program) (w : World) (K : PySem.W.Frag) (mg : Str → Option Value) (base : Heap) (k : Nat) (C : Addr) (m : Str) (sp : Sp) : Prop where
  ex : ∃ pr f fd ps, PropOf K C m pr f ∧ L2.Binds K fd ps [] ∧ FnOk P w K mg base (L2N.CX P w) k f fd ps sp
section
variable {G : Ga} {X : Cx} {W : WX} {k c : Nat} {C : Addr} {m x : Str} {e : Expr} {d : Env → R PV} {f : List PV → R PV} {pos : Pos}
end
end J

namespace J
open PySem.Spec PySem PyProof.Rows
open L2 hiding St Takes XE CX takes_of PMk MkP ps_raise mk_of ps_try_as ps_try_many pmk_own passAt passes_call takes0 passL
open L2N hiding St
open Bp (takes0 passL OpS R2S IsI)
section
variable {G : Ga} {X : Cx} {W : WX} {Hf0 H0 Hf H : Hp} {env : Env} {σ : L2.St} {i j l : Nat} {x y z : Str} {a b c : Expr} {da db dc : Env → R PV} {px py pz pt pos pt2 : Pos} {kt k2} {dl : Env → R (List PV)}
end
structure ETup (K : PySem.W.Frag) (t : Addr) : Prop where
  ex : ∃ (o : Obj) (n : Nat), K.lookup t = some o ∧ o.data = .seq #[] n ∧ o.cls = .type "tuple"
theorem ETup.rep {G : Gb} {Hf : Hp} {t : Addr} (h : ETup G.K t) : Rep G Hf (.tup []) (.ref t) := by
  obtain ⟨o, n, h1, h2, h3⟩ := h.ex
  exact .tup (.inr ⟨o, #[], n, h1, h3, h2, Nat.zero_le _, .nil⟩) .nil
theorem all_n {p : Nat → Prop} : ∀ c ∈ ([] : List Nat), p c := fun c h => nomatch h
theorem all_c {p : Nat → Prop} {a : Nat} {l : List Nat} (h : p a) (k : ∀ c ∈ l, p c) : ∀ c ∈ a :: l, p c := fun c hc => by
  rcases List.mem_cons.mp hc with e | e
  · subst e; exact h
  · exact k c e
end J

namespace J
open PySem.Spec PySem PyProof.Rows
open L2 hiding St Takes XE CX takes_of PMk MkP ps_raise mk_of ps_try_as ps_try_many pmk_own passAt passes_call takes0 passL
open L2N hiding St
open RZ

structure ZSide where
  name : String
  stand : Heap → Addr → Addr → Nat → Prop
  seq : Heap → Addr → Array Value → Prop
  hold : ∀ {h h' : Heap} {c l : Addr} {k : Nat}, stand h c l k → (∀ o, h.get? c = some o → h'.get? c = some o) → stand h' c l k
  obj : ∀ {h : Heap} {c l : Addr} {k : Nat}, stand h c l k → ∃ o, h.get? c = some o ∧ ∀ v, o.data ≠ .cell v
  keep : ∀ {h h' : Heap} {l : Addr} {xs : Array Value}, seq h l xs → (∀ o, h.get? l = some o → h'.get? l = some o) → seq h' l xs
  step : ∀ {prog : Program} {w : World} {A : Around} {E : Value → Shared → Prop} {s : Shared} {c l : Addr} {k : Nat} {xs : Array Value} {x : Value} {Q : Value → Shared → Prop},
    stand s.heap c l k → seq s.heap l xs → xs[k]? = some x → (∀ h', stand h' c l (k + 1) → Heap.SameBut c s.heap h' → Q x { s with heap := h' }) → wpAny (model prog w) A (Builtin.SmallTypes.nextOf (.ref c)) Q E s
  stop : ∀ {prog : Program} {w : World} {A : Around} {E : Value → Shared → Prop} {s : Shared} {c l : Addr} {k : Nat} {xs : Array Value} {Q : Value → Shared → Prop}, A.handled = none →
    stand s.heap c l k → seq s.heap l xs → xs[k]? = none → (∀ h' e, Heap.ExtBut c s.heap h' → (∃ o, h'.get? e = some o ∧ o.cls = .type "StopIteration") → E (.ref e) { s with heap := h' }) → wpAny (model prog w) A (Builtin.SmallTypes.nextOf (.ref c)) Q E s
  iter : ∀ {prog : Program} {w : World} {A : Around} {E : Value → Shared → Prop} {s : Shared} {l : Addr} {xs : Array Value} {Q : Value → Shared → Prop}, seq s.heap l xs →
    Q (.ref s.heap.objs.size) { s with heap := s.heap.push { cls := .type name, data := .fields #[.ref l, .int 0 0] } } → wpAny (model prog w) A (pyIter (.ref l)) Q E s
  first : ∀ {h : Heap} {c l : Addr}, h.get? c = some { cls := .type name, data := .fields #[.ref l, .int 0 0] } → stand h c l 0
  sq : PySem.W.Frag → Hp → Addr → List V → Prop
  got : ∀ {X : Cx} {pins : List (Addr × Obj)} {σ : L2.St} {H : Hp} {s : Shared} {a : Addr} {xs : List V}, Inv X pins σ H s → sq X.K H a xs → ∃ its : List Value, Vals xs its ∧ seq s.heap a its.toArray ∧ a < s.heap.objs.size
  inj : ∀ {X : Cx} {pins : List (Addr × Obj)} {σ : L2.St} {H : Hp} {s : Shared} {a : Addr} {xs ys : List V}, Inv X pins σ H s → sq X.K H a xs → sq X.K H a ys → xs = ys
  same : ∀ {K : PySem.W.Frag} {H H' : Hp} {a : Addr} {xs : List V}, Same H H' → sq K H a xs → sq K H' a xs
section
variable {prog : Program} {w : World} {A : Around} {E : Value → Shared → Prop} {s : Shared} {SA SB : ZSide}
end
section
variable {G : Ga} {X : Cx} {W : WX} {e e2 : Expr} {dl : Env → R (List PV)} {pos : Pos}
theorem asL_ok {p : PV} : (∃ l, asL p = .ok l) ∨ asL p = .bad := by
  unfold asL
  split
  · exact .inl ⟨_, rfl⟩
  · exact .inl ⟨_, rfl⟩
  · exact .inr rfl
end
end J

namespace J
open PySem.Spec PySem
open Bp (Sm)
theorem at_cons_zero (a : Sl) (l : List Sl) : Env.at (a :: l) 0 = a := rfl
theorem at_cons_succ (a : Sl) (l : List Sl) (n : Nat) : Env.at (a :: l) (n + 1) = Env.at l n := rfl
def Ans (f : F) (r : R PV) : Prop := ansF f = r
theorem An.set {i : Nat} {d : Env → R PV} {g : Env → F} {e : Env} {p : PV} {r : R PV} (h : d e = .ok p) (k : Ans (g (List.set e i (.val p))) r) : Ans (seqF (setF i d) g e) r := by
  unfold seqF setF liftF; rw [h]; exact k
theorem An.ite {t : Env → R Bool} {f g k : Env → F} {e : Env} {b : Bool} {r : R PV} (h : t e = .ok b) (kt : b = true → Ans (seqF f k e) r) (kf : b = false → Ans (seqF g k e) r) : Ans (seqF (iteF t f g) k e) r := by
  unfold Ans seqF iteF; rw [h]; cases b <;> simp only [Bool.false_eq_true, if_true, if_false]
  · exact kf rfl
  · exact kt rfl
theorem An.iteT {t : Env → R Bool} {f g k : Env → F} {e : Env} {r : R PV} (h : t e = .ok true) (kt : Ans (seqF f k e) r) : Ans (seqF (iteF t f g) k e) r := An.ite h (fun _ => kt) fun z => nomatch z
theorem An.iteN {t : Env → R Bool} {f g k : Env → F} {e : Env} {r : R PV} (h : t e = .ok false) (kf : Ans (seqF g k e) r) : Ans (seqF (iteF t f g) k e) r := An.ite h (fun z => nomatch z) fun _ => kf
theorem An.next {k : Env → F} {e : Env} {r : R PV} (h : Ans (k e) r) : Ans (seqF nextF k e) r := h
theorem An.iteX {t : Env → R Bool} {f k : Env → F} {e : Env} {r : R PV} (h : t e = .ok false) (kf : Ans (k e) r) : Ans (seqF (iteF t f nextF) k e) r := An.iteN h (An.next kf)
theorem seqF_assoc (f g k : Env → F) (e : Env) : seqF (seqF f g) k e = seqF f (seqF g k) e := by
  unfold seqF
  cases f e <;> rfl
theorem An.assoc {f g k : Env → F} {e : Env} {r : R PV} (h : Ans (seqF f (seqF g k) e) r) : Ans (seqF (seqF f g) k e) r := by unfold Ans; rw [seqF_assoc]; exact h
theorem An.ret {d : Env → R PV} {e : Env} {r : R PV} (h : d e = r) (hb : r ≠ .bad) : Ans (retF d e) r := by
  unfold Ans retF liftF; rw [h]; cases r <;> first | rfl | exact absurd rfl hb
theorem An.retO {d : Env → R PV} {e : Env} {p : PV} (h : d e = .ok p) : Ans (retF d e) (.ok p) := An.ret h fun z => nomatch z
theorem An.retS {d : Env → R PV} {k : Env → F} {e : Env} {r : R PV} (h : d e = r) (hb : r ≠ .bad) : Ans (seqF (retF d) k e) r := by
  unfold Ans seqF retF liftF; rw [h]; cases r <;> first | rfl | exact absurd rfl hb
theorem An.retSO {d : Env → R PV} {k : Env → F} {e : Env} {p : PV} (h : d e = .ok p) : Ans (seqF (retF d) k e) (.ok p) := An.retS h fun z => nomatch z
theorem An.drop {d : Env → R PV} {g : Env → F} {e : Env} {p : PV} {r : R PV} (h : d e = .ok p) (k : Ans (g e) r) : Ans (seqF (dropF d) g e) r := by
  unfold Ans seqF dropF liftF; rw [h]; exact k
theorem An.own {i : Nat} {g : Env → F} {e : Env} {r : R PV} (k : Ans (g (List.set e i (.own []))) r) : Ans (seqF (ownF i) g e) r := k
theorem An.to {f g : Env → F} {e e' : Env} {r : R PV} (h : f e = .nx e') (k : Ans (g e') r) : Ans (seqF f g e) r := by
  unfold Ans seqF; rw [h]; exact k
theorem An.toR {f g : Env → F} {e : Env} {p : PV} (h : f e = .rt p) : Ans (seqF f g e) (.ok p) := by
  unfold Ans seqF; rw [h]; rfl
theorem An.fn {np nn : Nat} {d : Env → F} {l : List PV} {r : R PV} (hl : l.length = np) (h : Ans (d (env0 nn l)) r) : fnJ np nn d l = r := by unfold fnJ; rw [if_pos hl]; exact h
theorem frz_own {i : Nat} {e : Env} {l : List PV} (h : e.at i = .own l) : frz i e = List.set e i (.val (.lst l)) := by unfold frz; rw [h]
theorem forE_ok {di : Env → R (List PV)} {bn : Bnd} {body : Env → F} {e e' : Env} {l : List PV} (h : di e = .ok l) (k : forP bn body l e = .nx e') : forE di bn body e = .nx e' := by unfold forE; rw [h]; exact k
end J

namespace J
open PySem.Spec PySem
open Bp (Sm)
@[simp] theorem asB_okS (b : Bool) : asB (.bl b) = .ok b := rfl
@[simp] theorem addI_int (a b : Int) : addI (.int a) (.int b) = .ok (.int (a + b)) := rfl
@[simp] theorem subI_int (a b : Int) : subI (.int a) (.int b) = .ok (.int (a - b)) := rfl
@[simp] theorem ltI_int (a b : Int) : ltI (.int a) (.int b) = .ok (.bl (decide (a < b))) := rfl
@[simp] theorem leI_int (a b : Int) : leI (.int a) (.int b) = .ok (.bl (decide (a ≤ b))) := rfl
@[simp] theorem gtI_int (a b : Int) : gtI (.int a) (.int b) = .ok (.bl (decide (b < a))) := rfl
@[simp] theorem geI_int (a b : Int) : geI (.int a) (.int b) = .ok (.bl (decide (b ≤ a))) := rfl
@[simp] theorem negI_int (a : Int) : negI (.int a) = .ok (.int (-a)) := rfl
theorem mulI_int {a b : Int} (ha : a.natAbs < 2 ^ 400000) (hb : b.natAbs < 2 ^ 400000) : mulI (.int a) (.int b) = .ok (.int (a * b)) := by
  unfold mulI iOp
  dsimp only
  rw [if_pos ⟨⟨ha⟩, ⟨hb⟩⟩]
theorem fdivI_int {a b : Int} (h : 0 < b) (hb : b.natAbs < 2 ^ 8999) : fdivI (.int a) (.int b) = .ok (.int (a / b)) := by
  unfold fdivI iOp
  dsimp only
  rw [if_pos ⟨h, ⟨hb⟩⟩]
theorem modI_int {a b : Int} (h : 0 < b) : modI (.int a) (.int b) = .ok (.int (a % b)) := by
  unfold modI iOp
  dsimp only
  rw [if_pos h]
theorem powI_int {a b : Int} (h : 0 ≤ b ∧ b ≤ 1000) (ha : a.natAbs < 2 ^ 63) : powI (.int a) (.int b) = .ok (.int (a ^ b.toNat)) := by
  unfold powI iOp
  dsimp only
  rw [if_pos ⟨h.1, h.2, ⟨ha⟩⟩]
@[simp] theorem intB_int (a : Int) : intB [.int a] = .ok (.int a) := rfl
@[simp] theorem absB_int (a : Int) : absB [.int a] = .ok (.int (a.natAbs : Int)) := by
  show R.ok (PV.int _) = _
  congr 2
  split <;> omega
@[simp] theorem lenB_lst (l : List PV) : lenB [.lst l] = .ok (.int l.length) := rfl
@[simp] theorem lenB_tup (l : List PV) : lenB [.tup l] = .ok (.int l.length) := rfl
theorem small {a : Int} {n : Nat} (h : a.natAbs < n) (k : n ≤ 2 ^ 8000 := by decide) : a.natAbs < 2 ^ 400000 := Nat.lt_of_lt_of_le h (Nat.le_trans k (Nat.pow_le_pow_right (by decide) (by decide)))
theorem atI_map {xs : List Int} {k : Nat} (h : k < xs.length) : L2.atI (xs.map PV.int) (k : Int) = some (.int xs[k]) := by
  unfold L2.atI L2.ixN
  rw [if_pos (by omega), if_pos (by simpa using h)]
  simp [h]
abbrev scr (xs : List Int) : PV := .lst (xs.map .int)
def tq (q : Rat) : PV := .tup [.int q.num, .int q.den]
theorem app_ok {i : Nat} {d : Env → R PV} {e : Env} {l : List PV} {p : PV} (ho : e.at i = .own l) (h : d e = .ok p) (hl : l.length < 1000) : appF i d e = .nx (List.set e i (.own (l ++ [p]))) := by
  unfold appF; rw [ho]; simp only [liftF, h, if_pos hl]
theorem rng1_ok {n : Nat} (h : n ≤ 1000) : rng1 [.int (n : Int)] = .ok (rngL 0 n) := by
  unfold rng1
  simp only [Int.toNat_natCast]
  rw [if_pos (by omega)]
theorem args1_ok {d : Env → R PV} {e : Env} {p : PV} (h : d e = .ok p) : argsC d args0 e = .ok [p] := by
  unfold argsC args0
  rw [h]
  rfl
theorem rngB {r : R (List PV)} {n : Nat} (h : r = .ok [.int n]) (hn : n ≤ 1000) : r.bind rng1 = .ok (rngL 0 n) := by
  rw [h, R.bind_ok]
  exact rng1_ok hn
theorem rngE {d : Env → R PV} {e : Env} {n : Nat} (h : d e = .ok (.int n)) (hn : n ≤ 1000) : (fun env => ((argsC d args0) env).bind rng1) e = .ok (rngL 0 n) := rngB (args1_ok h) hn
theorem argsC_ok {d : Env → R PV} {r : Env → R (List PV)} {e : Env} {p : PV} {l : List PV} (h : d e = .ok p) (k : r e = .ok l) : argsC d r e = .ok (p :: l) := by
  unfold argsC
  rw [h, R.bind_ok, k, R.bind_ok]
theorem args2_ok {d d2 : Env → R PV} {e : Env} {p q : PV} (h : d e = .ok p) (k : d2 e = .ok q) : argsC d (argsC d2 args0) e = .ok [p, q] := argsC_ok h (args1_ok k)
theorem args3_ok {d d2 d3 : Env → R PV} {e : Env} {p q r : PV} (h : d e = .ok p) (k : d2 e = .ok q) (l : d3 e = .ok r) : argsC d (argsC d2 (argsC d3 args0)) e = .ok [p, q, r] := argsC_ok h (args2_ok k l)
theorem call_ok {f : List PV → R PV} {dl : Env → R (List PV)} {e : Env} {l : List PV} {r : R PV} (h : dl e = .ok l) (k : f l = r) : callE f dl e = r := by unfold callE; rw [h]; exact k
theorem rd_ok {i : Nat} {e : Env} {p : PV} (h : Env.at e i = .val p) : rdV i e = .ok p := by unfold rdV; rw [h]
theorem toB_ok {d : Env → R PV} {e : Env} {b : Bool} (h : d e = .ok (.bl b)) : toB d e = .ok b := by unfold toB; rw [h]; rfl
theorem notT_ok {t : Env → R Bool} {e : Env} {b : Bool} (h : t e = .ok b) : notT t e = .ok (!b) := by unfold notT; rw [h]; rfl
theorem orT_ok {t u : Env → R Bool} {e : Env} (h : t e = .ok false) (k : u e = .ok false) : orT t u e = .ok false := by unfold orT; rw [h, R.bind_ok]; exact k
theorem ite_t {t : Env → R Bool} {f g : Env → F} {e : Env} {r : F} (h : t e = .ok true) (k : f e = r) : iteF t f g e = r := by unfold iteF; rw [h]; exact k
theorem ite_n {t : Env → R Bool} {f g : Env → F} {e : Env} {r : F} (h : t e = .ok false) (k : g e = r) : iteF t f g e = r := by unfold iteF; rw [h]; exact k
theorem bin_ok {f : PV → PV → R PV} {d u : Env → R PV} {e : Env} {p q : PV} {r : R PV} (h : d e = .ok p) (h2 : u e = .ok q) (k : f p q = r) : bin2 f d u e = r := by unfold bin2; rw [h, R.bind_ok, h2, R.bind_ok]; exact k
theorem seq_to {f g : Env → F} {e e' : Env} {r : F} (h : f e = .nx e') (k : g e' = r) : seqF f g e = r := by unfold seqF; rw [h]; exact k
end J

namespace J
open PySem.Spec PySem PyProof.Rows
open L2 hiding St Takes XE CX takes_of PMk MkP ps_raise mk_of ps_try_as ps_try_many pmk_own passAt passes_call takes0 passL
open L2N hiding St
open Bp (takes0 passL OpS R2S IsI)
def it_int : Kd → Option Bool := fun c => match c with | .non => some false | .bl => some true | .int => some true | .str => some false | .tup => some false | .lst => some false | .obj 0 => some false | .obj 17 => some false | .obj 18 => some false | .obj 19 => some false | .obj 20 => some false | .obj 21 => some false | _ => none
def it_int_Frac : Kd → Option Bool := fun c => match c with | .non => some false | .bl => some true | .int => some true | .str => some false | .tup => some false | .lst => some false | .obj 0 => some true | .obj 17 => some false | .obj 18 => some false | .obj 19 => some false | .obj 20 => some false | .obj 21 => some false | _ => none
def it_bool : Kd → Option Bool := fun c => match c with | .non => some false | .bl => some true | .int => some false | .str => some false | .tup => some false | .lst => some false | .obj 0 => some false | .obj 17 => some false | .obj 18 => some false | .obj 19 => some false | .obj 20 => some false | .obj 21 => some false | _ => none
def it_str : Kd → Option Bool := fun c => match c with | .non => some false | .bl => some false | .int => some false | .str => some true | .tup => some false | .lst => some false | .obj 0 => some false | .obj 17 => some false | .obj 18 => some false | .obj 19 => some false | .obj 20 => some false | .obj 21 => some false | _ => none
noncomputable def p_law_cell : Env → F := (seqF (iteF (toB (bin2 ltI (rdV 1) (callE lenB (argsC (rdV 0) args0))))
  (retF (bin2 modI (callE intB (argsC (bin2 ixP (rdV 0) (rdV 1)) args0)) (bin2 powI (fun _ => .ok (.int 10)) (fun _ => .ok (.int 18)))))
  nextF)
  (retF (bin2 addI (bin2 mulI (fun _ => .ok (.int 5)) (rdV 1)) (fun _ => .ok (.int 1)))))
noncomputable def f_law_cell : List PV → R PV := fnJ 2 2 p_law_cell
noncomputable def p_check_count : Env → F := (iteF (orT (toB (bin2 ltI (rdV 1) (rdV 2))) (toB (bin2 gtI (rdV 1) (rdV 3))))
  (raiseF 4 ["what", "many"] (argsC (rdV 0) (argsC (rdV 1) args0)))
  nextF)
noncomputable def f_check_count : List PV → R PV := fnJ 4 4 p_check_count
noncomputable def p_check_width : Env → F := (iteF (toB (bin2 neS (rdV 0) (rdV 1)))
  (raiseF 14 ["have", "need"] (argsC (rdV 0) (argsC (rdV 1) args0)))
  nextF)
noncomputable def f_check_width : List PV → R PV := fnJ 2 2 p_check_width
end J

namespace J
open PySem.Spec PySem
open Bp (Sm)
theorem cell_ok (xs : List Int) (k : Nat) (hk : k ≤ 1000) : ∃ c : Int, 0 ≤ c ∧ c < 10 ^ 18 ∧ f_law_cell [scr xs, .int k] = .ok (.int c) := by
  have e10 : powI (.int 10) (.int 18) = .ok (.int (10 ^ 18)) := powI_int (by decide) (by decide)
  have m5 : mulI (.int 5) (.int k) = .ok (.int (5 * k)) := mulI_int (by decide +kernel) (small (n := 1001) (by omega) (by decide +kernel))
  unfold f_law_cell p_law_cell
  by_cases h : k < xs.length
  · refine ⟨xs[k] % 10 ^ 18, Int.emod_nonneg _ (by decide), Int.emod_lt_of_pos _ (by decide), ?_⟩
    simp only [fnJ, ansF, env0, List.length_cons, List.length_nil, List.map_cons, List.map_nil, List.cons_append, List.nil_append, List.replicate, Nat.reduceAdd, Nat.reduceSub, if_true, if_false, at_cons_zero, at_cons_succ, List.set_cons_zero, List.set_cons_succ, seqF, nextF, retF, setF, dropF, iteF, liftF, callE, argsC, args0, rdV, bin2, un1, toB, toTru, truP, asB, notT, andT, orT, notV, andV, orV, iteE, R.bind_ok, R.bind_er, R.bind_bad, ixP, Bool.false_eq_true, Bool.not_true, Bool.not_false, reduceIte]
    simp only [lenB_lst, List.length_map, R.bind_ok, ltI_int, asB, atI_map h, intB_int, e10, modI_int (show (0 : Int) < 10 ^ 18 by decide)]
    simp [h]
  · refine ⟨5 * k + 1, by omega, by omega, ?_⟩
    simp only [fnJ, ansF, env0, List.length_cons, List.length_nil, List.map_cons, List.map_nil, List.cons_append, List.nil_append, List.replicate, Nat.reduceAdd, Nat.reduceSub, if_true, if_false, at_cons_zero, at_cons_succ, List.set_cons_zero, List.set_cons_succ, seqF, nextF, retF, setF, dropF, iteF, liftF, callE, argsC, args0, rdV, bin2, un1, toB, toTru, truP, asB, notT, andT, orT, notV, andV, orV, iteE, R.bind_ok, R.bind_er, R.bind_bad, ixP, Bool.false_eq_true, Bool.not_true, Bool.not_false, reduceIte]
    simp only [lenB_lst, List.length_map, R.bind_ok, ltI_int, asB]
    simp [h, m5, at_cons_succ, at_cons_zero]
theorem cellI (xs : List Int) {k : Int} (h0 : 0 ≤ k) (h1 : k ≤ 1000) : ∃ c : Int, 0 ≤ c ∧ c < 10 ^ 18 ∧ f_law_cell [scr xs, .int k] = .ok (.int c) := by
  obtain ⟨n, rfl⟩ : ∃ n : Nat, k = n := ⟨k.toNat, by omega⟩
  exact cell_ok xs n (by omega)
def okS (s : Int) : Prop := 0 < s ∧ s ≤ 10 ^ 6
theorem app_map {i : Nat} {d : Env → R PV} {e : Env} {l : List Int} {x : Int} (ho : e.at i = .own (l.map .int)) (h : d e = .ok (.int x)) (hl : l.length < 1000) : appF i d e = .nx (List.set e i (.own ((l ++ [x]).map .int))) := by
  rw [app_ok ho h (by simpa using hl)]
  simp
end J

namespace J
open PySem.Spec PySem
open Bp (Sm)
theorem tup_ok {d : Env → R (List PV)} {e : Env} {l : List PV} (h : d e = .ok l) (hl : l.length ≤ 1000) : tupE d e = .ok (.tup l) := by unfold tupE; rw [h, R.bind_ok, if_pos hl]
theorem setCO_ok {i : Nat} {d : Env → R (List PV)} {e : Env} {l : List PV} (h : d e = .ok l) : setCO i d e = .nx (List.set e i (.own l)) := by unfold setCO; rw [h]
theorem callO_ok {f : List PV → R (List PV)} {dl : Env → R (List PV)} {e : Env} {l : List PV} {r : R (List PV)} (h : dl e = .ok l) (k : f l = r) : callO f dl e = r := by unfold callO; rw [h]; exact k
theorem ixP_lst {l : List PV} {p : PV} {k : Nat} (h : l[k]? = some p) : ixP (.lst l) (.int k) = .ok p := by
  have hk : k < l.length := by
    rcases Nat.lt_or_ge k l.length with q | q
    · exact q
    · rw [List.getElem?_eq_none q] at h; cases h
  unfold ixP
  simp only
  unfold L2.atI L2.ixN
  rw [if_pos (by omega), if_pos (by simpa using hk)]
  simp [h]
theorem ixP_tup {l : List PV} {p : PV} {k : Nat} (h : l[k]? = some p) : ixP (.tup l) (.int k) = .ok p := ixP_lst (l := l) h
theorem mod_rng (c : Int) {s : Int} (h : 0 < s) : 0 ≤ c % s ∧ c % s < s := ⟨Int.emod_nonneg _ (by omega), Int.emod_lt_of_pos _ h⟩
theorem setI_ok {i k : Nat} {d : Env → R PV} {e : Env} {l : List PV} {p : PV} (ho : Env.at e i = .own l) (h : d e = .ok p) (hk : k < l.length) : setI i (fun _ => .ok (.int k)) d e = .nx (List.set e i (.own (l.set k p))) := by
  unfold setI
  rw [ho]
  simp only [liftF, h]
  unfold L2.ixN
  rw [if_pos (by omega), if_pos (by simpa using hk)]
  simp
instance {s : Int} : Decidable (okS s) := inferInstanceAs (Decidable (_ ∧ _))
end J

namespace J
open PySem.Spec PySem
open Bp (Sm)
inductive All2 {α β : Type} (P : α → β → Prop) : List α → List β → Prop
  | nil : All2 P [] []
  | cons {a : α} {b : β} {l : List α} {m : List β} : P a b → All2 P l m → All2 P (a :: l) (b :: m)
theorem All2.length {α β : Type} {P : α → β → Prop} {l : List α} {m : List β} (h : All2 P l m) : l.length = m.length := by
  induction h with
  | nil => rfl
  | cons _ _ ih => simp [ih]
theorem All2.imp {α β : Type} {P Q : α → β → Prop} {l : List α} {m : List β} (h : All2 P l m) (k : ∀ a b, P a b → Q a b) : All2 Q l m := by
  induction h with
  | nil => exact .nil
  | cons h _ ih => exact .cons (k _ _ h) ih
theorem All2.map {α β γ : Type} {P : γ → β → Prop} {f : α → γ} {g : α → β} {l : List α} (h : ∀ a ∈ l, P (f a) (g a)) : All2 P (l.map f) (l.map g) := by
  induction l with
  | nil => exact .nil
  | cons a l ih => exact .cons (h a List.mem_cons_self) (ih fun b hb => h b (List.mem_cons_of_mem _ hb))
theorem All2.get {α β : Type} {P : α → β → Prop} {l : List α} {m : List β} (h : All2 P l m) : ∀ {i : Nat} {a : α} {b : β}, l[i]? = some a → m[i]? = some b → P a b := by
  induction h with
  | nil => intro i a b e; simp at e
  | cons h _ ih =>
    intro i a b e1 e2
    cases i with
    | zero => cases e1; cases e2; exact h
    | succ i => exact ih (by simpa using e1) (by simpa using e2)
theorem mapFR_ok {t : PV → R Bool} {f : PV → R PV} {l r : List PV} (h : All2 (fun p q => t p = .ok true ∧ f p = .ok q) l r) : mapFR t f l = .ok r := by
  induction h with
  | nil => rfl
  | cons h _ ih => simp only [mapFR, h.1, h.2, ih, R.bind_ok, if_true]
theorem noE_is {α : Type} (a : α) : noE (R.ok a) = .ok a := rfl
theorem lc_ok {vs : List Nat} {di : Env → R (List PV)} {bn : Bnd} {d : Env → R PV} {env : Env} {l r : List PV} (h : di env = .ok l) (hl : r.length ≤ 1000) (k : All2 (fun p q => ∃ e, bn p (wipeE env vs) = some e ∧ d e = .ok q) l r) : lcE vs di bn yesT d env = .ok (.lst r) := by
  unfold lcE
  rw [h, R.bind_ok]
  refine (congrArg (fun x => (noE x).bind fun r => if r.length ≤ 1000 then R.ok (PV.lst r) else .bad) (mapFR_ok (r := r) (k.imp fun p q ⟨e, e1, e2⟩ => ?_))).trans ?_
  · simp only [e1, e2, yesT, noE_is]
    exact ⟨trivial, trivial⟩
  · simp only [noE_is, R.bind_ok, if_pos hl]
theorem lcL_ok {vs : List Nat} {di : Env → R (List PV)} {bn : Bnd} {d : Env → R PV} {env : Env} {l r : List PV} (h : di env = .ok l) (hl : r.length ≤ 1000) (k : All2 (fun p q => ∃ e, bn p (wipeE env vs) = some e ∧ d e = .ok q) l r) : lcL vs di bn yesT d env = .ok r := by
  unfold lcL
  rw [h, R.bind_ok, if_pos (show l.length ≤ 1000 by rw [k.length]; exact hl)]
  refine (congrArg noE (mapFR_ok (r := r) (k.imp fun p q ⟨e, e1, e2⟩ => ?_))).trans rfl
  simp only [e1, e2, yesT, noE_is]
  exact ⟨trivial, trivial⟩
inductive SeqV : PV → List PV → Prop
  | lst (l : List PV) : SeqV (.lst l) l
  | tup (l : List PV) : SeqV (.tup l) l
end J

namespace J
open PySem.Spec PySem
open Bp (Sm)
theorem ix_in {l : List PV} {c : Int} (h0 : 0 ≤ c) (h1 : c < l.length) : ∃ p ∈ l, ixP (.lst l) (.int c) = .ok p := by
  obtain ⟨k, rfl⟩ : ∃ k : Nat, c = k := ⟨c.toNat, by omega⟩
  have hk : k < l.length := by omega
  exact ⟨l[k], List.getElem_mem _, ixP_lst (List.getElem?_eq_getElem hk)⟩
theorem ix_of {α : Type} {f : α → PV} {l : List α} {c : Int} (h0 : 0 ≤ c) (h1 : c < l.length) : ∃ x ∈ l, ixP (.lst (l.map f)) (.int c) = .ok (f x) := by
  obtain ⟨p, hp, e⟩ := ix_in (l := l.map f) h0 (by simpa using h1)
  obtain ⟨x, hx, rfl⟩ := List.mem_map.mp hp
  exact ⟨x, hx, e⟩
theorem ix_mod {α : Type} {f : α → PV} {l : List α} {d dc : Env → R PV} {e : Env} {c s : Int} (hs : 0 < s) (hl : s = l.length) (h : d e = .ok (.lst (l.map f))) (hc : dc e = .ok (.int c)) :
    ∃ x ∈ l, bin2 ixP d (bin2 modI (callE intB (argsC dc args0)) (fun _ => .ok (.int s))) e = .ok (f x) := by
  have b := mod_rng c hs
  obtain ⟨x, hx, k⟩ := ix_of (f := f) (l := l) b.1 (by omega)
  exact ⟨x, hx, bin_ok h (bin_ok (call_ok (args1_ok hc) rfl) rfl (modI_int hs)) k⟩
theorem seqO_to {f : Env → F} {g : Env → R (List PV)} {e e' : Env} {r : R (List PV)} (h : f e = .nx e') (k : g e' = r) : seqO f g e = r := by unfold seqO; rw [h]; exact k
theorem set_ok {i : Nat} {d : Env → R PV} {e : Env} {p : PV} (h : d e = .ok p) : setF i d e = .nx (List.set e i (.val p)) := by unfold setF liftF; rw [h]
theorem fnO_eq {np nn : Nat} {d : Env → R (List PV)} {l : List PV} (hl : l.length = np) : fnO np nn d l = d (env0 nn l) := by unfold fnO; rw [if_pos hl]
end J

namespace J
open PySem.Spec PySem
open Bp (Sm)
theorem An.frz {i : Nat} {g : Env → F} {e : Env} {l : List PV} {r : R PV} (ho : Env.at e i = .own l) (k : Ans (g (List.set e i (.val (.lst l)))) r) : Ans (g (J.frz i e)) r := by rw [frz_own ho]; exact k
theorem args4_ok {d d2 d3 d4 : Env → R PV} {e : Env} {p q r s : PV} (h : d e = .ok p) (k : d2 e = .ok q) (l : d3 e = .ok r) (m : d4 e = .ok s) : argsC d (argsC d2 (argsC d3 (argsC d4 args0))) e = .ok [p, q, r, s] := argsC_ok h (args3_ok k l m)
theorem args5_ok {d d2 d3 d4 d5 : Env → R PV} {e : Env} {p q r s t : PV} (h : d e = .ok p) (k : d2 e = .ok q) (l : d3 e = .ok r) (m : d4 e = .ok s) (n : d5 e = .ok t) : argsC d (argsC d2 (argsC d3 (argsC d4 (argsC d5 args0)))) e = .ok [p, q, r, s, t] := argsC_ok h (args4_ok k l m n)
def Six (q : Rat) : Prop := ∃ z : Int, z.natAbs ≤ 10 ^ 14 ∧ q = Rat.divInt z 6
structure Rw where
  name : Str
  co : List Rat
  sense : Str
  right : Rat
def Rw.pv (r : Rw) : PV := .tup [.str r.name, .lst (r.co.map tq), .str r.sense, tq r.right]
def senses : List Str := ["<=", ">=", "="]
structure Rw.Ok (n : Nat) (r : Rw) : Prop where
  len : r.co.length = n
  sm : ∀ q ∈ r.co, Sm 44 q
  sense : r.sense ∈ senses
  right : Sm 44 r.right
  sx : ∀ q ∈ r.co, Six q
structure Am where
  sense : Str
  co : List Rat
  con : Rat
def Am.pv (a : Am) : PV := .tup [.str a.sense, .lst (a.co.map tq), tq a.con]
def ways : List Str := ["min", "max"]
structure Am.Ok (n : Nat) (a : Am) : Prop where
  len : a.co.length = n
  sm : ∀ q ∈ a.co, Sm 44 q
  sense : a.sense ∈ ways
  con : Sm 44 a.con
  sx : ∀ q ∈ a.co, Six q
def parts : List Int := [1, 1, 1, 2, 3]
end J

namespace J
open PySem.Spec PySem
open Bp (Sm)
end J

namespace J
open PySem.Spec PySem
open Bp (Sm)
end J

namespace J
open PySem.Spec PySem
open Bp (Sm)
structure Vr where
  name : Str
  low : Option Rat
  high : Option Rat
  whole : Bool
  pull : Option Str
def optQ : Option Rat → PV
  | none => .non
  | some q => tq q
def optS : Option Str → PV
  | none => .non
  | some s => .str s
def Vr.pv (v : Vr) : PV := .tup [.str v.name, optQ v.low, optQ v.high, .bl v.whole, optS v.pull]
def pullOk (low high : Option Rat) (p : Option Str) : Prop := p = none ∨ (p = some "up" ∧ high ≠ none) ∨ (p = some "down" ∧ low ≠ none)
def Hv (q : Rat) : Prop := ∃ z : Int, z.natAbs ≤ 10 ^ 14 ∧ q = Rat.divInt z 2
structure Vr.Ok (v : Vr) : Prop where
  ends : v.low ≠ none ∨ v.high ≠ none
  le : ∀ a b, v.low = some a → v.high = some b → a ≤ b
  whole : v.whole = true → ∃ a b : Int, v.low = some (a : Rat) ∧ v.high = some (b : Rat)
  smL : ∀ a, v.low = some a → Sm 64 a
  smH : ∀ a, v.high = some a → Sm 64 a
  pull : pullOk v.low v.high v.pull
  hlL : ∀ a, v.low = some a → Hv a
  hlH : ∀ a, v.high = some a → Hv a
section
variable (c a : Int) (nm : Str) (d0 d1 d2 d3 d4 d5 d6 d7 r : Int)
def half : Rat := ⟨1, 2, by decide, by decide⟩
end
end J

namespace J
open PySem.Spec PySem
open Bp (Sm)
end J

namespace J
open PySem.Spec PySem PyProof.Rows
open SX (S)
end J

namespace J
open PySem.Spec PySem
open Bp (Sm)
open SX (S)
def az : List Nat := ("abcdefghijklmnopqrstuvwxyz" : Str).cps.toList
def n9u : List Nat := ("0123456789_" : Str).cps.toList
def sg : List Nat := az ++ n9u
def words : List Str := ["var", "row", "min", "max", "whole", "up", "down"]
structure ValN (x : List Nat) : Prop where
  lo : 1 ≤ x.length
  hi : x.length ≤ 12
  head : ∀ c, x[0]? = some c → c ∈ az
  sg : ∀ c ∈ x, c ∈ sg
  no : S x ∉ words
theorem orT_is {t u : Env → R Bool} {e : Env} {a b : Bool} (h : t e = .ok a) (k : u e = .ok b) : orT t u e = .ok (a || b) := by
  unfold orT
  rw [h]
  cases a with
  | true => rfl
  | false => exact k
end J

namespace J
open PySem.Spec PySem
open Bp (Sm)
open SX (S)
structure PreN (n : Nat) (x : List Nat) : Prop where
  len : x.length = n
  head : ∀ c, x[0]? = some c → c ∈ az
  sg : ∀ c ∈ x, c ∈ sg
abbrev nE (c : Int) (ns : PV) (z : Int) (x : List Nat) (k w o : Sl) : Env := [.val (.int c), .val ns, .val (.str (S az)), .val (.str (S sg)), .val (.int z), .val (.str (S x)), k, w, o]
def beside (x : List Nat) (k : Nat) : List Nat := x.take 10 ++ TL.numL k
theorem rng_map (n : Nat) : rngL 0 n = (List.range n).map fun (j : Nat) => PV.int j := by
  unfold rngL
  refine List.map_congr_left fun i _ => ?_
  rw [Int.zero_add]
end J

namespace J
open PySem.Spec PySem
open Bp (Sm)
open SX (S)
def Vr.wd (v : Vr) : Int := if v.whole then (match v.low, v.high with | some a, some b => (b - a).num | _, _ => 0) else 0
def spread : List Vr → Int
  | [] => 0
  | v :: vs => v.wd + spread vs
def asg : List Vr → Int
  | [] => 1
  | v :: vs => (v.wd + 1) * asg vs
theorem spread_app (a b : List Vr) : spread (a ++ b) = spread a + spread b := by
  induction a with
  | nil => simp [spread]
  | cons v a ih => simp only [List.cons_append, spread, ih]; omega
theorem asg_app (a b : List Vr) : asg (a ++ b) = asg a * asg b := by
  induction a with
  | nil => simp [asg]
  | cons v a ih => simp only [List.cons_append, asg, ih, Int.mul_assoc]
theorem int_sub_num (x y : Int) : ((y : Rat) - (x : Rat)).num = y - x := by
  rw [← Rat.intCast_sub]
  rfl
theorem Vr.Ok.wd {v : Vr} (h : v.Ok) : 0 ≤ v.wd := by
  unfold Vr.wd
  split
  · rename_i hw
    obtain ⟨x, y, h1, h2⟩ := h.whole hw
    rw [h1, h2]
    simp only
    rw [int_sub_num]
    have := Rat.intCast_le_intCast.mp (h.le _ _ h1 h2)
    omega
  · exact Int.le_refl _
theorem Vr.Ok.plain {v : Vr} (h : v.Ok) : Vr.Ok { v with whole := false } := ⟨h.ends, h.le, (fun z => nomatch z), h.smL, h.smH, h.pull, h.hlL, h.hlH⟩
structure VsI (ns : List Str) (j : Nat) (vs : List Vr) (room ch : Int) : Prop where
  len : vs.length = j
  ok : ∀ v ∈ vs, v.Ok
  nm : vs.map Vr.name = ns.take j
  r0 : 0 ≤ room
  r1 : room = 40 - spread vs
  c0 : 1 ≤ ch
  c1 : ch * asg vs ≤ 1024
end J

namespace J
open PySem.Spec PySem
open Bp (Sm)
open SX (S)
structure Wd where
  vs : List Vr
  rs : List Rw
  am : List Am
def Wd.pv (w : Wd) : PV := .lst [.lst (w.vs.map Vr.pv), .lst (w.rs.map Rw.pv), .lst (w.am.map Am.pv)]
def Wd.names (w : Wd) : List Str := w.vs.map Vr.name ++ w.rs.map Rw.name
structure Wd.Ok (w : Wd) : Prop where
  n1 : 1 ≤ w.vs.length
  n16 : w.vs.length ≤ 16
  m16 : w.rs.length ≤ 16
  a3 : w.am.length ≤ 3
  vs : ∀ v ∈ w.vs, v.Ok
  rs : ∀ r ∈ w.rs, r.Ok w.vs.length
  am : ∀ a ∈ w.am, a.Ok w.vs.length
  sp : spread w.vs ≤ 40
  asg : asg w.vs ≤ 1024
  nd : w.names.Nodup
  nm : ∀ s ∈ w.names, ∃ x, s = S x ∧ ValN x
structure NmI (j : Nat) (l : List Str) : Prop where
  len : l.length = j
  nd : l.Nodup
  nm : ∀ s ∈ l, ∃ x, s = S x ∧ ValN x
end J

namespace J
open PySem.Spec PySem
open Bp (Sm)
inductive NumV : PV → Rat → Prop
  | int (n : Int) : NumV (.int n) n
  | fr (q : Rat) : NumV (.fr q) q
@[simp] theorem isint_int (n : Int) : isiP it_int (.int n) = .ok (.bl true) := rfl
@[simp] theorem isint_fr (q : Rat) : isiP it_int (.fr q) = .ok (.bl false) := rfl
@[simp] theorem isif_int (n : Int) : isiP it_int_Frac (.int n) = .ok (.bl true) := rfl
@[simp] theorem isif_fr (q : Rat) : isiP it_int_Frac (.fr q) = .ok (.bl true) := rfl
section
variable {p q : Rat} {b : PV}
end
end J

namespace J
open PySem.Spec PySem
open Bp (Sm)
open SX (S)
def Rw.rev (r : Rw) : Rw := { r with co := r.co.reverse }
def Am.rev (a : Am) : Am := { a with co := a.co.reverse }
def Wd.rev (w : Wd) : Wd := ⟨w.vs.reverse, w.rs.reverse.map Rw.rev, w.am.map Am.rev⟩
theorem spread_rev (vs : List Vr) : spread vs.reverse = spread vs := by
  induction vs with
  | nil => rfl
  | cons v vs ih => rw [List.reverse_cons, spread_app, ih]; simp only [spread]; omega
theorem asg_rev (vs : List Vr) : asg vs.reverse = asg vs := by
  induction vs with
  | nil => rfl
  | cons v vs ih => rw [List.reverse_cons, asg_app, ih]; simp only [asg, Int.mul_one]; exact Int.mul_comm _ _
theorem Rw.Ok.rev {n : Nat} {r : Rw} (h : r.Ok n) : r.rev.Ok n := ⟨by simpa [Rw.rev] using h.len, fun q hq => h.sm q (by simpa [Rw.rev] using hq), h.sense, h.right, fun q hq => h.sx q (by simpa [Rw.rev] using hq)⟩
theorem Am.Ok.rev {n : Nat} {r : Am} (h : r.Ok n) : r.rev.Ok n := ⟨by simpa [Am.rev] using h.len, fun q hq => h.sm q (by simpa [Am.rev] using hq), h.sense, h.con, fun q hq => h.sx q (by simpa [Am.rev] using hq)⟩
theorem nodup_rev {l : List Str} (h : l.Nodup) : l.reverse.Nodup := (List.reverse_perm l).nodup_iff.mpr h
theorem rev_names (w : Wd) : w.rev.names = (w.vs.map Vr.name).reverse ++ (w.rs.map Rw.name).reverse := by
  unfold Wd.names Wd.rev
  simp only [List.map_reverse, List.map_map]
  rfl
theorem Wd.Ok.rev {w : Wd} (h : w.Ok) : w.rev.Ok := by
  have ln : w.rev.vs.length = w.vs.length := by simp [Wd.rev]
  refine ⟨by rw [ln]; exact h.n1, by rw [ln]; exact h.n16, by simpa [Wd.rev] using h.m16, by simpa [Wd.rev] using h.a3, fun v hv => h.vs v (by simpa [Wd.rev] using hv), fun r hr => ?_, fun a ha => ?_, by
    show spread w.vs.reverse ≤ 40
    rw [spread_rev]; exact h.sp, by
    show J.asg w.vs.reverse ≤ 1024
    rw [asg_rev]; exact h.asg, ?_, fun s hs => h.nm s ?_⟩
  · rw [ln]
    obtain ⟨r', hr', rfl⟩ := List.mem_map.mp (show r ∈ w.rs.reverse.map Rw.rev from hr)
    exact (h.rs r' (List.mem_reverse.mp hr')).rev
  · rw [ln]
    obtain ⟨r', hr', rfl⟩ := List.mem_map.mp (show a ∈ w.am.map Am.rev from ha)
    exact (h.am r' hr').rev
  · have nd := h.nd
    unfold Wd.names at nd
    rw [List.nodup_append] at nd
    rw [rev_names, List.nodup_append]
    refine ⟨nodup_rev nd.1, nodup_rev nd.2.1, fun a ha b hb => nd.2.2 a (List.mem_reverse.mp ha) b (List.mem_reverse.mp hb)⟩
  · rw [rev_names] at hs
    unfold Wd.names
    simpa using hs
inductive OptV : PV → Option Rat → Prop
  | none : OptV .non none
  | some {p : PV} {q : Rat} (h : NumV p q) : OptV p (some q)
end J

namespace J
open PySem.Spec PySem
open Bp (Sm)
open SX (S)
theorem fnI_ok {np nn c c' : Nat} {d : Env → F} {l : List PV} {e : Env} {fs : List (Str × PV)} (hl : l.length + 1 = np) (h : d (.oob c [] :: env0 (nn - 1) l) = .nx e) (k : Env.at (J.frz 0 e) 0 = .slf c' fs) : fnI np nn c d l = .ok (.obj c' fs) := by
  unfold fnI
  rw [if_pos hl, h]
  unfold ansI
  simp only [k]
theorem fldF_ok {cs : List Nat} {i c : Nat} {m : Str} {d : Env → R PV} {e : Env} {fs : List (Str × PV)} {p : PV} (ho : Env.at e i = .oob c fs) (h : d e = .ok p) (hc : c ∈ cs) (hl : fs.length < 900) : fldF cs i m d e = .nx (List.set e i (.oob c (putP m p fs))) := by
  unfold fldF
  rw [ho]
  simp only [liftF, h]
  rw [if_pos ⟨hc, hl⟩]
theorem drop_ok {d : Env → R PV} {e : Env} {p : PV} (h : d e = .ok p) : dropF d e = .nx e := by unfold dropF liftF; rw [h]
theorem fld_ok {cs : List Nat} {m : Str} {d : Env → R PV} {e : Env} {c : Nat} {fs : List (Str × PV)} {p : PV} (h : d e = .ok (.obj c fs)) (hc : c ∈ cs) (k : fs.lookup m = some p) : fldE cs m d e = .ok p := by
  unfold fldE
  rw [h]
  simp only [R.bind_ok]
  rw [if_pos hc]
  unfold fldP
  simp only [k]
theorem An.nx {f : F} {e : Env} (h : f = .nx e) : Ans f (.ok .non) := by unfold Ans; rw [h]; rfl
def endV : Option Rat → PV
  | none => .non
  | some q => .fr q
def usualS : Option Rat → Str
  | none => "up"
  | some _ => "down"
def Vr.pullV (v : Vr) : Str := match v.pull with
  | some s => s
  | none => usualS v.low
def Vr.obj (v : Vr) : PV := .obj 17 [("name", .str v.name), ("low", endV v.low), ("high", endV v.high), ("whole", .bl v.whole), ("pull", .str v.pullV)]
theorem andV_is {d u : Env → R PV} {e : Env} {a b : Bool} (h : d e = .ok (.bl a)) (k : u e = .ok (.bl b)) : andV d u e = .ok (.bl (a && b)) := by
  unfold andV
  rw [h]
  cases a with
  | true => exact k
  | false => rfl
end J

namespace J
open PySem.Spec PySem
open Bp (Sm)
open SX (S)
theorem makeE_ok {f : List PV → R PV} {ds : List PV} {dl : Env → R (List PV)} {e : Env} {l : List PV} {r : R PV} (h : dl e = .ok l) (k : f (l ++ ds) = r) : makeE f ds dl e = r := by unfold makeE; rw [h]; exact k
end J

namespace J
open PySem.Spec PySem PyProof.Rows
def dkv (l : List (Str × PV)) : List (L2.Key × PV) := l.map fun x => (.inr x.1, x.2)
end J

namespace J
open PySem.Spec PySem
open Bp (Sm)
open SX (S)
theorem count_ok {w : Str} {n lo hi : Int} (h : lo ≤ n) (k : n ≤ hi) : f_check_count [.str w, .int n, .int lo, .int hi] = .ok .non := by
  unfold f_check_count p_check_count
  refine An.fn rfl ?_
  simp only [env0, List.length_cons, List.length_nil, List.map_cons, List.map_nil, List.cons_append, List.nil_append, List.replicate, Nat.reduceAdd, Nat.reduceSub]
  refine An.nx (ite_n (orT_ok (toB_ok (bin_ok (rd_ok rfl) (rd_ok rfl) ((ltI_int _ _).trans (by rw [decide_eq_false (by omega)])))) (toB_ok (bin_ok (rd_ok rfl) (rd_ok rfl) ((gtI_int _ _).trans (by rw [decide_eq_false (by omega)]))))) rfl)
def Rw.obj (r : Rw) : PV := .obj 19 [("coefficients", .tup (r.co.map .fr)), ("name", .str r.name), ("sense", .str r.sense), ("right", .fr r.right)]
def Am.obj (a : Am) : PV := .obj 20 [("coefficients", .tup (a.co.map .fr)), ("sense", .str a.sense), ("constant", .fr a.con)]
end J

namespace J
open PySem.Spec PySem
open Bp (Sm)
open SX (S)
theorem forP_step {bn : Bnd} {body : Env → F} {p : PV} {l : List PV} {e e1 e2 : Env} (h1 : bn p e = some e1) (h2 : body e1 = .nx e2) : forP bn body (p :: l) e = forP bn body l e2 := by
  rw [forP]
  simp only [h1, h2]
theorem check_width_ok (n : Int) : f_check_width [.int n, .int n] = .ok .non := by
  unfold f_check_width p_check_width
  refine An.fn rfl ?_
  simp only [env0, List.length_cons, List.length_nil, List.map_cons, List.map_nil, List.cons_append, List.nil_append, List.replicate, Nat.reduceAdd, Nat.reduceSub]
  exact An.nx (ite_n (toB_ok (bin_ok (rd_ok rfl) (rd_ok rfl) ((neS_int _ _).trans (by simp)))) rfl)
end J

namespace J
open PySem.Spec PySem
open Bp (Sm)
open SX (S)
abbrev It2 := Vr ⊕ Rw
def It2.obj : It2 → PV
  | .inl v => v.obj
  | .inr r => r.obj
def It2.name : It2 → Str
  | .inl v => v.name
  | .inr r => r.name
def Wd.items (w : Wd) : List It2 := w.vs.map .inl ++ w.rs.map .inr
def Wd.dic (w : Wd) : List (L2.Key × PV) := dkv (w.items.map fun a => (a.name, a.obj))
def Wd.obj (w : Wd) : PV := .obj 21 [("variables", .tup (w.vs.map Vr.obj)), ("rows", .tup (w.rs.map Rw.obj)), ("aims", .tup (w.am.map Am.obj)), ("n", .int w.vs.length), ("m", .int w.rs.length), ("_by_name", .dic w.dic)]
end J

namespace J
open PySem.Spec PySem
open Bp (Sm)
open SX (S)
def hf (n : Int) : Rat := ⟨2 * n + 1, 2, by decide, by
  have : Nat.gcd (2 * n + 1).natAbs 2 = 1 := by
    have h : (2 * n + 1).natAbs % 2 = 1 := by omega
    rw [Nat.gcd_comm, Nat.gcd_rec, h]
    rfl
  exact this⟩
end J

namespace J
open PySem.Spec PySem
open Bp (Sm)
open SX (S)
def dotA : Rat → List Rat → List Rat → Rat
  | acc, a :: l, b :: m => dotA (acc + a * b) l m
  | acc, _, _ => acc
end J

namespace J
open PySem.Spec PySem
open Bp (Sm)
open SX (S)
def unitQ (n k : Nat) : List Rat := (List.range n).map fun i => if i = k then 1 else 0
def Wd.row (w : Wd) (k : Nat) : List Rat := if k < w.vs.length then unitQ w.vs.length k else ((w.rs[k - w.vs.length]?).map Rw.co).getD []
def Rw.box (r : Rw) : Option Rat × Option Rat := if r.sense = "<=" then (none, some r.right) else if r.sense = ">=" then (some r.right, none) else (some r.right, some r.right)
def Wd.box (w : Wd) (k : Nat) : Option Rat × Option Rat := match w.vs[k]? with
  | some v => (v.low, v.high)
  | none => match w.rs[k - w.vs.length]? with | some r => r.box | none => (none, none)
theorem An.er {f : F} {e : Env} {c : Nat} {fs : List (Str × PV)} (h : f = .er e c fs) : Ans f (.er c fs) := by unfold Ans; rw [h]; rfl
theorem raise1 {c : Nat} {m : Str} {d : Env → R PV} {e : Env} {p : PV} (h : d e = .ok p) : raiseF c [m] (argsC d args0) e = .er e c [(m, p)] := by
  unfold raiseF
  rw [args1_ok h]
  rfl
theorem raise2 {c : Nat} {m m2 : Str} {d d2 : Env → R PV} {e : Env} {p q : PV} (h : d e = .ok p) (k : d2 e = .ok q) : raiseF c [m, m2] (argsC d (argsC d2 args0)) e = .er e c [(m2, q), (m, p)] := by
  unfold raiseF
  rw [args2_ok h k]
  rfl
theorem pn {e : Env} {w : Wd} (h : Env.at e 0 = .val w.obj) : fldE [21] "n" (rdV 0) e = .ok (.int w.vs.length) := fld_ok (rd_ok h) (by decide) rfl
theorem pm {e : Env} {w : Wd} (h : Env.at e 0 = .val w.obj) : fldE [21] "m" (rdV 0) e = .ok (.int w.rs.length) := fld_ok (rd_ok h) (by decide) rfl
end J

namespace J
open PySem.Spec PySem
open Bp (Sm)
open SX (S)
structure Pt (n : Nat) (l : List Rat) (s : PV) (g : List PV) : Prop where
  sq : SeqV s g
  nv : All2 NumV g l
  len : l.length = n
  sm : ∀ q ∈ l, Sm 10 q
theorem check_width_er {a b : Int} (h : a ≠ b) : f_check_width [.int a, .int b] = .er 14 [("need", .int b), ("have", .int a)] := by
  unfold f_check_width p_check_width
  refine An.fn rfl ?_
  simp only [env0, List.length_cons, List.length_nil, List.map_cons, List.map_nil, List.cons_append, List.nil_append, List.replicate, Nat.reduceAdd, Nat.reduceSub]
  exact An.er (ite_t (toB_ok (bin_ok (rd_ok rfl) (rd_ok rfl) ((neS_int _ _).trans (by simp [h])))) (raise2 (rd_ok rfl) (rd_ok rfl)))
end J

namespace J
open PySem.Spec PySem
open Bp (Sm)
open SX (S)
theorem cut_to (m : List PV) (k : Nat) : cutP m none (some (k : Int)) = m.take k := by
  unfold cutP
  rw [HT.sIx_none, HT.sIx_nat, List.drop_zero, Nat.sub_zero]
  rcases Nat.le_total k m.length with h | h
  · rw [Nat.min_eq_left h]
  · rw [Nat.min_eq_right h, List.take_length, List.take_of_length_le h]
theorem itE_ok {d : Env → R PV} {e : Env} {l : List PV} (h : d e = .ok (.lst l)) : itE d e = .ok l := by unfold itE; rw [h]; rfl
theorem sl_to {m : List PV} {d u : Env → R PV} {e : Env} {k : Nat} (h : d e = .ok (.lst m)) (hk : u e = .ok (.int k)) : sliceE d noB (someB u) e = .ok (.lst (m.take k)) := by
  unfold sliceE noB someB asI
  rw [h, hk]
  simp only [R.bind_ok]
  rw [cut_to]
theorem fldx_ok {cs : List Nat} {m : Str} {i c : Nat} {e : Env} {l : List (Str × PV)} {p : PV} (h : Env.at e i = .exc c l) (hc : c ∈ cs) (k : l.lookup m = some p) : fldx cs m i e = .ok p := by unfold fldx; rw [h]; simp only [if_pos hc, k]
end J

namespace J
open PySem.Spec PySem PyProof.Rows
open L2 hiding St Takes XE CX takes_of PMk MkP ps_raise mk_of ps_try_as ps_try_many pmk_own passAt passes_call takes0 passL
open L2N hiding St
open Bp (takes0 passL OpS R2S IsI)
def lstO (dl : Env → R (List PV)) (env : Env) : R (List PV) := (dl env).bind fun l => if l.length ≤ 1000 then .ok l else .bad
theorem je_lstO {G : Ga} {X : Cx} {W : WX} {es : List Expr} {dl : Env → R (List PV)} {pos : Pos} (h : JA G X W es dl) : JEO G X (.List es pos) (lstO dl) := by
  obtain ⟨t, pt, jt⟩ := h
  refine ⟨_, pe_lst pt, fun H0 Hf H env σ Q s E h => ?_⟩
  unfold lstO at h
  cases el : dl env with
  | ok l =>
    rw [el] at h
    simp only [R.bind_ok] at h
    by_cases hl : l.length ≤ 1000
    · rw [if_pos hl] at h
      refine jt H0 Hf H env σ _ s E (PostG.noE el fun vs Hf1 H1 g1 r1 => ⟨line1000 (r1.length ▸ hl), fun p hp => ?_⟩)
      exact h p vs Hf1 _ (g1.trans (Gr.up g1.sub (Same.new hp))) (none_back g1.hp hp) (none_back g1.sub hp) upd_same r1
    · rw [if_neg hl] at h
      exact h.elim
  | er _ _ => rw [el] at h; exact h.elim
  | bad => rw [el] at h; exact h.elim
end J

namespace J
open PySem.Spec PySem PyProof.Rows
open L2 hiding St Takes XE CX takes_of PMk MkP ps_raise mk_of ps_try_as ps_try_many pmk_own passAt passes_call takes0 passL
open L2N hiding St
open Bp (takes0 passL OpS R2S IsI)
end J

namespace J
open PySem.Spec PySem
open Bp (Sm)
open SX (S)
def Sd (D b : Nat) (q : Rat) : Prop := 0 < D ∧ ∃ z : Int, z.natAbs < 2 ^ b ∧ q = Rat.divInt z D
theorem Sd.mono {D b c : Nat} {q : Rat} (h : Sd D b q) (k : b ≤ c) : Sd D c q := let ⟨h0, z, h1, h2⟩ := h; ⟨h0, z, Nat.lt_of_lt_of_le h1 (Nat.pow_le_pow_right (by decide) k), h2⟩
theorem Sd.scale {D b : Nat} {q : Rat} (h : Sd D b q) {C c : Nat} (hC : 0 < C) (hc : C < 2 ^ c) : Sd (D * C) (b + c) q := by
  obtain ⟨h0, z, h1, rfl⟩ := h
  refine ⟨Nat.mul_pos h0 hC, z * C, Bp.imul_lt h1 (by simpa using hc), ?_⟩
  rw [Int.natCast_mul, Rat.divInt_mul_right (by omega)]
theorem Sd.sm {D b : Nat} {q : Rat} (h : Sd D b q) (k : D < 2 ^ b) : Sm b q := by
  obtain ⟨h0, z, h1, rfl⟩ := h
  exact Bp.sm_divInt (by omega) h1 (by simpa using k)
theorem Sd.neg {D b : Nat} {q : Rat} (h : Sd D b q) : Sd D b (-q) := by
  obtain ⟨h0, z, h1, rfl⟩ := h
  exact ⟨h0, -z, by rw [Int.natAbs_neg]; exact h1, by rw [Rat.neg_divInt]⟩
structure DotOk (l m : List Rat) : Prop where
  len : l.length = m.length
  n16 : l.length ≤ 16
  lo : ∀ q ∈ l, Sm 1000 q
  hi : ∀ q ∈ m, Sm 1000 q
  pr : ∀ (j : Nat) a b, l[j]? = some a → m[j]? = some b → Sm 1000 (a * b)
  su : ∀ j, Sm 1000 (dotA 0 (l.take j) (m.take j))
end J

namespace J
open PySem.Spec PySem
open Bp (Sm)
open SX (S)
abbrev P24 (b : Nat) (q : Rat) : Prop := Sd 24 b q
theorem Hv.p24 {q : Rat} (h : Hv q) : P24 51 q := by
  obtain ⟨z, hz, rfl⟩ := h
  exact Sd.scale (D := 2) (b := 47) (C := 12) (c := 4) ⟨by decide, z, Nat.lt_of_le_of_lt hz (by decide), rfl⟩ (by decide) (by decide)
theorem Hv.sd {q : Rat} (h : Hv q) : Sd 2 47 q := by
  obtain ⟨z, hz, rfl⟩ := h
  exact ⟨by decide, z, Nat.lt_of_le_of_lt hz (by decide), rfl⟩
theorem P24.sm {q : Rat} (h : P24 60 q) : Sm 1000 q := Bp.Sm.mono (Sd.sm h (by decide)) (by decide)
end J

namespace J
open PySem.Spec PySem
open Bp (Sm)
open SX (S)
theorem Six.sd {q : Rat} (h : Six q) : Sd 6 47 q := by
  obtain ⟨z, hz, rfl⟩ := h
  exact ⟨by decide, z, Nat.lt_of_le_of_lt hz (by decide), rfl⟩
end J

namespace J
open PySem.Spec PySem
open Bp (Sm)
open SX (S)
theorem cut_from (m : List PV) (k : Nat) : cutP m (some (k : Int)) none = m.drop k := by
  unfold cutP
  rw [HT.sIx_none, HT.sIx_nat]
  rcases Nat.le_total k m.length with h | h
  · rw [Nat.min_eq_left h, List.take_of_length_le (by rw [List.length_drop]; exact Nat.le_refl _)]
  · rw [Nat.min_eq_right h, List.drop_of_length_le h, List.drop_of_length_le (Nat.le_refl _), List.take_nil]
theorem cat_ok {x y : List PV} (h : x.length + y.length ≤ 1000) : catL (.lst x) (.lst y) = .ok (.lst (x ++ y)) := if_pos h
end J

namespace J
open PySem.Spec PySem
open Bp (Sm)
open SX (S)
def loB (q : Rat) : Option Rat → Bool
  | some a => decide (q < a)
  | none => false
def hiB (q : Rat) : Option Rat → Bool
  | some b => decide (b < q)
  | none => false
def outB (q : Rat) (lo hi : Option Rat) : Bool := loB q lo || hiB q hi
theorem and_no {t u : Env → R Bool} {e : Env} (h : t e = .ok false) : andT t u e = .ok false := by unfold andT; rw [h]; rfl
section
variable {p q : Rat} {b : PV}
end
def wbad (w : Wd) (q : Rat) (k : Nat) : Bool := match w.vs[k]? with
  | some v => v.whole && decide ((q.den : Int) ≠ 1)
  | none => false
def Wd.bad (w : Wd) (l : List Rat) (k : Nat) : Bool := outB (dotA 0 (w.row k) l) (w.box k).1 (w.box k).2 || wbad w (dotA 0 (w.row k) l) k
structure PtL (n : Nat) (l : List Rat) : Prop where
  len : l.length = n
  p24 : ∀ q ∈ l, P24 60 q
theorem PtL.sm {n : Nat} {l : List Rat} (h : PtL n l) : ∀ q ∈ l, Sm 1000 q := fun q hq => (h.p24 q hq).sm
end J

namespace J
open PySem.Spec PySem
open Bp (Sm)
open SX (S)
end J

namespace J
open PySem.Spec PySem
open Bp (Sm)
open SX (S)
def Am.at (a : Am) (l : List Rat) : Rat := dotA 0 a.co l + a.con
end J

namespace J
open PySem.Spec PySem
open Bp (Sm)
open SX (S)
end J

namespace J
open PySem.Spec PySem PyProof.Rows
open L2 hiding St Takes XE CX takes_of PMk MkP ps_raise mk_of ps_try_as ps_try_many pmk_own passAt passes_call takes0 passL
open L2N hiding St
open Bp (takes0 passL OpS R2S IsI)
end J

namespace J
open PySem.Spec PySem PyProof.Rows
open L2 hiding St Takes XE CX takes_of PMk MkP ps_raise mk_of ps_try_as ps_try_many pmk_own passAt passes_call takes0 passL
open L2N hiding St
open Bp (takes0 passL OpS R2S IsI)
section
variable {G : Ga} {X : Cx} {W : WX} {e1 e2 elt : Expr} {dl : Env → R (List PV)} {bn : Bnd} {d : Env → R PV} {scope : Scope} {elts : List Expr} {kk : Nat} {tpos p0 p1 p2 p3 p4 py pos pos2 pos3 : Pos} {y : Str}
end
end J

namespace J
open PySem.Spec PySem PyProof.Rows
open L2 hiding St Takes XE CX takes_of PMk MkP ps_raise mk_of ps_try_as ps_try_many pmk_own passAt passes_call takes0 passL
open L2N hiding St
open Bp (takes0 passL OpS R2S IsI)
end J

namespace J
open PySem.Spec PySem PyProof.Rows
open L2 hiding St Takes XE CX takes_of PMk MkP ps_raise mk_of ps_try_as ps_try_many pmk_own passAt passes_call takes0 passL
open L2N hiding St
open Bp (takes0 passL OpS R2S IsI tOpS pe_opS pe_cmpS)
def PostM {α β : Type} (G : Ga) (Rl : Hp → α → β → Prop) (Hf0 H0 Hf : Hp) (σ : L2.St) (r : R (α × Env)) (Q : β → Hp → Prop) : Prop := match r with
  | .ok (a, e) => ∀ v Hf' H', StOk G Hf0 H0 Hf' H' e σ → Same Hf Hf' → Rl Hf' a v → Q v H'
  | _ => False
def finM {α : Type} (r : R α) (e : Env) : R (α × Env) := match r with | .ok p => .ok (p, e) | _ => .bad
def RpM (G : Gb) : Hp → PV → V → Prop := fun Hf p v => Rep G Hf p v
def RsM (G : Gb) : Hp → List PV → List V → Prop := fun Hf p v => Reps G Hf p v
section
variable {α β γ δ : Type} {G : Ga} {W : WX} {Rl : Hp → α → β → Prop} {Rm : Hp → γ → δ → Prop} {Hf0 H0 Hf H Hf' H' : Hp} {env : Env} {σ : L2.St}
theorem PostM.step {r : R (α × Env)} {Q : β → Hp → Prop} (h : PostM G Rl Hf0 H0 Hf σ r Q) (s : Same Hf Hf') : PostM G Rl Hf0 H0 Hf' σ r Q := by
  cases r with
  | ok ae => obtain ⟨a, e⟩ := ae; exact fun v A B S s' rr => h v A B S (s.trans s') rr
  | er c fs => exact h
  | bad => exact h
theorem PostM.bind {r : R (γ × Env)} {k : γ × Env → R (α × Env)} {Q : β → Hp → Prop} {Q' : δ → Hp → Prop} (h : PostM G Rl Hf0 H0 Hf σ (r.bind k) Q)
    (c : ∀ a e v Hf1 H1, r = .ok (a, e) → StOk G Hf0 H0 Hf1 H1 e σ → Same Hf Hf1 → Rm Hf1 a v → PostM G Rl Hf0 H0 Hf1 σ (k (a, e)) Q → Q' v H1) : PostM G Rm Hf0 H0 Hf σ r Q' := by
  cases r with
  | ok ae => obtain ⟨a, e⟩ := ae; exact fun v A B S s rr => c a e v A B rfl S s rr (PostM.step h s)
  | er c fs => exact h
  | bad => exact h
theorem PostM.fin {r : R α} {Q : β → Hp → Prop} (h : PostM G Rl Hf0 H0 Hf σ (finM r env) Q) (S : StOk G Hf0 H0 Hf H env σ) : PostG G W Rl Hf H σ r Q := by
  cases r with
  | ok p => exact fun v A B g rr => h v A B (S.grow g) g.fz rr
  | er c fs => exact h.elim
  | bad => exact h.elim
end
def TJM (G : Ga) (te : TE) (d : Env → R (PV × Env)) : Prop := ∀ (Hf0 H0 Hf H : Hp) (env : Env) (σ : L2.St) (Q : VK), StOk G Hf0 H0 Hf H env σ → PostM G (RpM G) Hf0 H0 Hf σ (d env) Q → te σ H Q
def TJAM (G : Ga) (ta : TA) (d : Env → R (List PV × Env)) : Prop := ∀ (Hf0 H0 Hf H : Hp) (env : Env) (σ : L2.St) (Q : List V → Hp → Prop), StOk G Hf0 H0 Hf H env σ → PostM G (RsM G) Hf0 H0 Hf σ (d env) Q → ta σ H Q
structure JEM (G : Ga) (X : Cx) (e : Expr) (d : Env → R (PV × Env)) : Prop where
  ex : ∃ te, PE X e te ∧ TJM G te d
structure JAM (G : Ga) (X : Cx) (es : List Expr) (d : Env → R (List PV × Env)) : Prop where
  ex : ∃ ta, PA X es ta ∧ TJAM G ta d
section
variable {G : Ga} {X : Cx} {W : WX} {a b e : Expr} {es : List Expr} {d da db : Env → R (PV × Env)} {dl : Env → R (List PV × Env)} {pos p0 : Pos} {x : Str}
end
section
variable {G : Ga} {Hf0 H0 Hf H Hf' H' : Hp} {env : Env} {σ : L2.St} {i : Nat} {a : Addr} {ws ws' : List V} {t t' : List PV}
end
section
variable {G : Ga} {X : Cx} {W : WX} {es : List Expr} {dl : Env → R (List PV × Env)} {pos p0 p1 : Pos} {x y : Str} {k : Nat} {ps : List Str} {f : List PV → List PV → R (PV × List PV)}
end
end J

namespace J
open PySem.Spec PySem PyProof.Rows
open L2 hiding St Takes XE CX takes_of PMk MkP ps_raise mk_of ps_try_as ps_try_many pmk_own passAt passes_call takes0 passL
open L2N hiding St
open Bp (takes0 passL OpS R2S IsI tOpS pe_opS pe_cmpS pt_cmpS)
section
variable {G : Ga} {X : Cx} {W : WX} {Hf0 H0 Hf H Hf' H' : Hp} {env : Env} {σ : L2.St} {i : Nat} {a : Addr} {ws' : List V} {t t' : List PV} {x : Str} {pos p1 p2 p3 : Pos} {e b : Expr} {d db : Env → R PV}
end
inductive FM where
  | nx (e : Env) | rt (p : PV) (e : Env) | bk (e : Env) | ct (e : Env) | bad
def PostSM (G : Ga) (D : Ends) (Hf0 H0 Hf : Hp) (f : FM) : Prop := match f with
  | .nx e => ∀ σ' Hf' H', StOk G Hf0 H0 Hf' H' e σ' → Same Hf Hf' → D.nx σ' H'
  | .ct e => ∀ σ' Hf' H', StOk G Hf0 H0 Hf' H' e σ' → Same Hf Hf' → D.ct σ' H'
  | .bk e => ∀ σ' Hf' H', StOk G Hf0 H0 Hf' H' e σ' → Same Hf Hf' → D.bk σ' H'
  | .rt p e => ∀ σ' v Hf' H', StOk G Hf0 H0 Hf' H' e σ' → Same Hf Hf' → Rep G.toGb Hf' p v → D.rt v H'
  | .bad => False
def TSM (G : Ga) (ts : TS) (d : Env → FM) : Prop := ∀ (Hf0 H0 Hf H : Hp) (env : Env) (σ : L2.St) (D : Ends), StOk G Hf0 H0 Hf H env σ → PostSM G D Hf0 H0 Hf (d env) → ts D σ H
structure JSM (G : Ga) (X : Cx) (st : Stmt) (d : Env → FM) : Prop where
  ex : ∃ ts, PS X st ts ∧ TSM G ts d
structure JSsM (G : Ga) (X : Cx) (st : List Stmt) (d : Env → FM) : Prop where
  ex : ∃ ts, PSs X st ts ∧ TSM G ts d
section
variable {G : Ga} {X : Cx} {W : WX} {D : Ends} {Hf0 H0 Hf H Hf' H' : Hp} {env : Env} {σ : L2.St} {st : Stmt} {sts : List Stmt} {f g : Env → FM} {e c : Expr} {pos : Pos} {x : Str} {d : Env → R (PV × Env)}
theorem PostSM.step {f : FM} (h : PostSM G D Hf0 H0 Hf f) (s : Same Hf Hf') : PostSM G D Hf0 H0 Hf' f := by
  cases f with
  | nx e => exact fun a b c x y => h a b c x (s.trans y)
  | ct e => exact fun a b c x y => h a b c x (s.trans y)
  | bk e => exact fun a b c x y => h a b c x (s.trans y)
  | rt p e => exact fun a b c d x y z => h a b c d x (s.trans y) z
  | bad => exact h
structure JTM (G : Ga) (X : Cx) (e : Expr) (d : Env → R (Bool × Env)) : Prop where
  ex : ∃ tt, PT X e tt ∧ ∀ (Hf0 H0 Hf H : Hp) (env : Env) (σ : L2.St) (Q : Bool → Hp → Prop), StOk G Hf0 H0 Hf H env σ → PostM G (fun _ a b => b = a) Hf0 H0 Hf σ (d env) Q → tt σ H Q
end
section
variable {G : Gb}
end
end J

namespace J
open PySem.Spec PySem PyProof.Rows
open L2 hiding St Takes XE CX takes_of PMk MkP ps_raise mk_of ps_try_as ps_try_many pmk_own passAt passes_call takes0 passL
open L2N hiding St
open Bp (takes0 passL OpS R2S IsI tOpS pe_opS pe_cmpS pt_cmpS)
section
variable {G : Ga} {Hf0 H0 Hf H H0' Hf' H' : Hp} {env : Env} {σ : L2.St} {D : Addr} {o o2 : HO}
theorem SlOk.to {s : Sl} {q : Option (Option V)} (h : SlOk G H0 Hf H s q) (fz : Same Hf Hf') (ow : ∀ a u, H0 a = none → Hf a = none → H a = some u → H0' a = none ∧ Hf' a = none ∧ H' a = some u) (xd : ∀ a fs, H a = some (.xd fs) → H' a = some (.xd fs)) : SlOk G H0' Hf' H' s q := by
  cases s with
  | no => trivial
  | val p =>
    obtain ⟨v, e, r⟩ := h
    exact ⟨v, e, r.mono fz⟩
  | own l =>
    obtain ⟨a, vs, e, h0, hf, hh, r⟩ := h
    obtain ⟨b0, bf, bh⟩ := ow a _ h0 hf hh
    exact ⟨a, vs, e, b0, bf, bh, r.mono fz⟩
  | oob c fs =>
    obtain ⟨a, dx, vfs, e, z, h0, hf, hh, r⟩ := h
    obtain ⟨b0, bf, bh⟩ := ow a _ h0 hf hh
    exact ⟨a, dx, vfs, e, z, b0, bf, bh, r.mono fz⟩
  | slf c fs =>
    obtain ⟨a, e, z, r⟩ := h
    exact ⟨a, e, z, r.mono fz⟩
  | par l =>
    obtain ⟨a, e, r⟩ := h
    exact ⟨a, e, r.mono fz⟩
  | exc c fs =>
    obtain ⟨a, d, e, x, r⟩ := h
    refine ⟨a, d, e, x, ?_⟩
    cases fs with
    | nil => exact r
    | cons v us =>
      obtain ⟨y, vfs, e1, e2, e3⟩ := r
      exact ⟨y, vfs, e1, xd _ _ e2, e3.mono fz⟩
  | ownD kvs =>
    obtain ⟨a, vs, e, h0, hf, hh, r⟩ := h
    obtain ⟨b0, bf, bh⟩ := ow a _ h0 hf hh
    exact ⟨a, vs, e, b0, bf, bh, r.mono fz⟩
  | iol l =>
    obtain ⟨a, vs, e, z, h0, hf, hh, r⟩ := h
    obtain ⟨b0, bf, bh⟩ := ow a _ h0 hf hh
    exact ⟨a, vs, e, z, b0, bf, bh, r.mono fz⟩
  | io2 l =>
    obtain ⟨a, vs, e, z, h0, hf, hh, r⟩ := h
    obtain ⟨b0, bf, bh⟩ := ow a _ h0 hf hh
    exact ⟨a, vs, e, z, b0, bf, bh, r.mono fz⟩
end
def TJIM (G : Ga) (wi : TI) (d : Env → R (List PV × Env)) : Prop := ∀ (Hf0 H0 Hf H : Hp) (env : Env) (σ : L2.St) (Q : It → Hp → Prop), StOk G Hf0 H0 Hf H env σ → PostM G (fun Hf l J => Items G Hf Hf l J) Hf0 H0 Hf σ (d env) Q → wi σ H Q
structure JIM (G : Ga) (X : Cx) (tg it : Expr) (d : Env → R (List PV × Env)) : Prop where
  ex : ∃ wi, PI X tg it wi ∧ TJIM G wi d
def teM (G : Ga) (d : Env → R (PV × Env)) : TE := fun σ H Q => ∃ Hf0 H0 Hf env, StOk G Hf0 H0 Hf H env σ ∧ PostM G (RpM G.toGb) Hf0 H0 Hf σ (d env) Q
section
variable {G : Ga} {X : Cx} {W : WX} {Hf0 H0 Hf H Hf' H' : Hp} {env : Env} {σ : L2.St} {e tg iter elt a : Expr} {es : List Expr} {d : Env → R (PV × Env)} {dl : Env → R (List PV × Env)} {vs : List Nat} {bn : Bnd} {pos : Pos} {sts : List Stmt} {f : Env → FM}
theorem JEM.pe (h : JEM G X e d) : PE X e (teM G d) := let ⟨te, pe, je⟩ := h.ex; ⟨fun pins s σ H Q I ⟨Hf0, H0, Hf, env, S, k⟩ => pe.run pins s σ H Q I (je Hf0 H0 Hf H env σ Q S k)⟩
end
end J

namespace J
open PySem.Spec PySem PyProof.Rows
open L2 hiding St Takes XE CX takes_of PMk MkP ps_raise mk_of ps_try_as ps_try_many pmk_own passAt passes_call takes0 passL
open L2N hiding St
open Bp (takes0 passL OpS R2S IsI tOpS pe_opS pe_cmpS pt_cmpS)
section
variable {G : Ga} {X : Cx} {W : WX} {Hf0 H0 Hf H Hf' H' : Hp} {env : Env} {σ : L2.St} {e tg iter elt a : Expr} {es : List Expr} {d : Env → R (PV × Env)} {dl : Env → R (List PV × Env)} {vs : List Nat} {bn : Bnd} {pos p1 p2 p3 : Pos} {sts : List Stmt} {f : Env → FM} {x : Str} {i : Nat} {D : Addr} {o : HO}
end
end J

namespace J
open PySem.Spec PySem PyProof.Rows
open L2 hiding St Takes XE CX takes_of PMk MkP ps_raise mk_of ps_try_as ps_try_many pmk_own passAt passes_call takes0 passL
open L2N hiding St
open Bp (takes0 passL OpS R2S IsI tOpS pe_opS pe_cmpS pt_cmpS)
section
variable {G : Ga} {X : Cx} {W : WX}
def seqL (p : PV) : R (List PV) := match p with | .lst l => .ok l | .tup l => .ok l | _ => .bad
def listO (d : Env → R PV) (env : Env) : R (List PV) := (d env).bind seqL
theorem je_listO {e : Expr} {d : Env → R PV} {p0 pos : Pos} (hK : X.K = G.K) (h : JE G X W e d) (hm : X.mg "list" = none) (hg : Gl X "list" := by rfl)
    (he : starEach [e] X.env = (false, eval e X.env) :: starEach [] X.env := by rfl) (hpl : (backTo pos (starEach [] X.env)).any (·.1) = false := by rfl) : JEO G X (.Call (.Name "list" p0) [e] [] pos) (listO d) := by
  obtain ⟨t, pt, jt⟩ := h
  refine ⟨_, pe_callTy call_list_of hg hm PyProof.Rows.boot_list (pa_cons pt pa_nil he) (by decide) (by decide) he hpl, fun H0 Hf H env σ Q s E h => ?_⟩
  unfold listO at h
  cases ed : d env with
  | er c fs => rw [ed] at h; exact h.elim
  | bad => rw [ed] at h; exact h.elim
  | ok p =>
    rw [ed] at h
    simp only [R.bind_ok] at h
    refine jt H0 Hf H env σ _ s E ?_
    rw [ed]
    intro v Hf1 H1 g1 r1
    cases r1 with
    | tup ht hr =>
      rename_i l a vs
      refine ⟨_, _, rfl, .inr (by rw [hK]; exact Bp.seqT g1.sub ht), fun q hq => ?_⟩
      have nf := none_back g1.sub hq
      exact h q _ Hf1 _ (g1.trans (Gr.up g1.sub (Same.new hq))) (none_back g1.hp hq) nf upd_same hr
    | lst ht hr =>
      rename_i l a vs
      refine ⟨_, _, rfl, .inl (by rw [hK]; exact g1.sub.seq ht), fun q hq => ?_⟩
      have nf := none_back g1.sub hq
      exact h q _ Hf1 _ (g1.trans (Gr.up g1.sub (Same.new hq))) (none_back g1.hp hq) nf upd_same hr
    | _ => exact h.elim
end
section
variable {G : Ga} {X : Cx} {W : WX} {pos pos2 : Pos} {keys : List (Option Expr)} {vals : List Expr} {e : Expr} {d : Env → R PV} {dl : Env → R (List (Str × PV))} {x : Str}
structure JPs (G : Ga) (X : Cx) (W : WX) (pos : Pos) (keys : List (Option Expr)) (vals : List Expr) (d : Env → R (List (Str × PV))) : Prop where
  ex : ∃ trs, PPs X pos keys vals trs ∧ ∀ (H0 Hf H : Hp) (env : Env) (σ : L2.St) (Q : List (V × V) → Hp → Prop), Same Hf H → EnvOk G H0 Hf H env σ → PostG G W (fun Hf l ps => ∃ vs, ps = vs.map (fun kv => (V.str kv.1, kv.2)) ∧ RepF G.toGb Hf l vs) Hf H σ (d env) Q → tPairs trs σ H Q
end
section
variable {G : Ga} {X : Cx} {W : WX} {a b : Expr} {da db : Env → R PV} {pos : Pos}
end
end J

namespace J
open PySem.Spec PySem PyProof.Rows
open L2 hiding St Takes XE CX takes_of PMk MkP ps_raise mk_of ps_try_as ps_try_many pmk_own passAt passes_call takes0 passL
open L2N hiding St
open Bp (takes0 passL OpS R2S IsI tOpS pe_opS pe_cmpS pt_cmpS)
section
variable {G : Ga} {X : Cx} {W : WX} {e : Expr} {es : List Expr} {x y : Str} {p0 pos spos py : Pos} {dl : Env → R (List PV)} {f : Nat → List PV → R PV} {k c : Nat} {C : Addr} {a : Expr} {p : Env → R (Bool × Env)}
end
end J

namespace J
open PySem.Spec PySem PyProof.Rows
open L2 hiding St Takes XE CX takes_of PMk MkP ps_raise mk_of ps_try_as ps_try_many pmk_own passAt passes_call takes0 passL
open L2N hiding St
open Bp (takes0 passL OpS R2S IsI tOpS pe_opS pe_cmpS pt_cmpS)
mutual
def toD : PV → Option PySem.PyData
  | .non => some .none
  | .bl b => some (.bool b)
  | .int i => some (.int i)
  | .str x => some (.str x)
  | .tup l => match toDs l with | some ds => some (.tuple ds) | none => none
  | .lst l => match toDs l with | some ds => some (.list ds) | none => none
  | _ => none
def toDs : List PV → Option (List PySem.PyData)
  | [] => some []
  | p :: l => match toD p, toDs l with | some d, some ds => some (d :: ds) | _, _ => none
end
mutual
theorem toD_dp {G : Gb} {Hf H : Hp} (s : Same Hf H) : ∀ (p : PV) {v : V} {d : PySem.PyData}, Rep G Hf p v → toD p = some d → Dp G.K H v d
  | .non, _, _, .non, h => by unfold toD at h; cases h; exact .non
  | .bl b, _, _, .bl _, h => by unfold toD at h; cases h; exact .bl b
  | .int i, _, _, .int _, h => by unfold toD at h; cases h; exact .int i
  | .str x, _, _, .str _, h => by unfold toD at h; cases h; exact .str x
  | .tup l, _, _, .tup ht hr, h => by
    unfold toD at h
    cases e : toDs l with
    | none => rw [e] at h; cases h
    | some ds =>
      rw [e] at h
      cases h
      exact .tup (Bp.seqT s ht) (toDs_dp s l hr e)
  | .lst l, _, _, .lst ht hr, h => by
    unfold toD at h
    cases e : toDs l with
    | none => rw [e] at h; cases h
    | some ds =>
      rw [e] at h
      cases h
      exact .lst (s.seq ht) (toDs_dp s l hr e)
  | .fr _, _, _, _, h => by unfold toD at h; cases h
  | .obj _ _, _, _, _, h => by unfold toD at h; cases h
  | .cls _, _, _, _, h => by unfold toD at h; cases h
  | .typ _, _, _, _, h => by unfold toD at h; cases h
  | .dic _, _, _, _, h => by unfold toD at h; cases h
theorem toDs_dp {G : Gb} {Hf H : Hp} (s : Same Hf H) : ∀ (l : List PV) {vs : List V} {ds : List PySem.PyData}, Reps G Hf l vs → toDs l = some ds → DpAll G.K H vs ds
  | [], _, _, .nil, h => by unfold toDs at h; cases h; exact .nil
  | p :: l, _, _, .cons r rs, h => by
    unfold toDs at h
    cases e1 : toD p with
    | none => rw [e1] at h; cases h
    | some d =>
      cases e2 : toDs l with
      | none => rw [e1, e2] at h; cases h
      | some ds =>
        rw [e1, e2] at h
        cases h
        exact .cons (toD_dp s p r e1) (toDs_dp s l rs e2)
end
def eqA (a b : PV) : R PV := match toD a, toD b with
  | some d, some e => if (PySem.SeqAt.shaped d && PySem.SeqAt.shaped e) = true then .ok (.bl (d.eqv e)) else .bad
  | _, _ => .bad
def neA (a b : PV) : R PV := match toD a, toD b with
  | some d, some e => if (PySem.SeqAt.shaped d && PySem.SeqAt.shaped e) = true then .ok (.bl (!d.eqv e)) else .bad
  | _, _ => .bad
section
variable {G : Gb} {X : Cx} {W : WX}
theorem o_eqA (hK : X.K = G.K) (hu : X.A.units + 64 < cLine) : OpJ G X W (compareOp .Eq) eqA := ⟨_, OpS.of (op_eqD hu), fun Hf H σ x y a b Q s ra rb h => by
  unfold eqA at h
  cases ea : toD a with
  | none => rw [ea] at h; exact h.elim
  | some d =>
    cases eb : toD b with
    | none => rw [ea, eb] at h; exact h.elim
    | some e =>
      rw [ea, eb] at h
      simp only at h
      by_cases c : (PySem.SeqAt.shaped d && PySem.SeqAt.shaped e) = true
      · rw [if_pos c] at h
        obtain ⟨c1, c2⟩ := Bool.and_eq_true_iff.mp c
        exact ⟨d, e, by rw [hK]; exact toD_dp s a ra ea, by rw [hK]; exact toD_dp s b rb eb, c1, c2, h _ Hf H (Gr.refl s) (.bl _)⟩
      · rw [if_neg c] at h
        exact h.elim⟩
theorem o_neA (hK : X.K = G.K) (hu : X.A.units + 64 < cLine) : OpJ G X W (compareOp .NotEq) neA := ⟨_, OpS.of (op_neD hu), fun Hf H σ x y a b Q s ra rb h => by
  unfold neA at h
  cases ea : toD a with
  | none => rw [ea] at h; exact h.elim
  | some d =>
    cases eb : toD b with
    | none => rw [ea, eb] at h; exact h.elim
    | some e =>
      rw [ea, eb] at h
      simp only at h
      by_cases c : (PySem.SeqAt.shaped d && PySem.SeqAt.shaped e) = true
      · rw [if_pos c] at h
        obtain ⟨c1, c2⟩ := Bool.and_eq_true_iff.mp c
        exact ⟨d, e, by rw [hK]; exact toD_dp s a ra ea, by rw [hK]; exact toD_dp s b rb eb, c1, c2, h _ Hf H (Gr.refl s) (.bl _)⟩
      · rw [if_neg c] at h
        exact h.elim⟩
end
theorem hu64_of {A : Around} {k : Nat} (h : Room k A) : A.units + 64 < cLine := by
  have := h.un
  omega
end J

namespace J
open PySem.Spec PySem PyProof.Rows
open L2 hiding St Takes XE CX takes_of PMk MkP ps_raise mk_of ps_try_as ps_try_many pmk_own passAt passes_call takes0 passL
open L2N hiding St
open Bp (takes0 passL OpS R2S IsI tOpS pe_opS pe_cmpS pt_cmpS)
section
variable {G : Ga} {X : Cx} {W : WX} {e : Expr} {elo ehi : Option Expr} {d : Env → R PV} {lo hi : Env → R (Option Int)} {pos p2 : Pos}
end
end J

namespace J
open PySem.Spec PySem PyProof.Rows
open L2 hiding St Takes XE CX takes_of PMk MkP ps_raise mk_of ps_try_as ps_try_many pmk_own passAt passes_call takes0 passL
open L2N hiding St
open Bp (takes0 passL OpS R2S IsI)
noncomputable def qNotEq_A : PV → PV → R PV := neA
noncomputable def qEq_A : PV → PV → R PV := eqA
end J

namespace J
open PySem.Spec PySem PyProof.Rows
open L2 hiding St Takes XE CX takes_of PMk MkP ps_raise mk_of ps_try_as ps_try_many pmk_own passAt passes_call takes0 passL
open L2N hiding St
open Bp (takes0 passL OpS R2S IsI)
end J

namespace J
open PySem.Spec PySem PyProof.Rows
open L2 hiding St Takes XE CX takes_of PMk MkP ps_raise mk_of ps_try_as ps_try_many pmk_own passAt passes_call takes0 passL
open L2N hiding St
open Bp (takes0 passL OpS R2S IsI tOpS pe_opS pe_cmpS pt_cmpS)
section
variable {G : Ga} {X : Cx} {W : WX}
end
end J

namespace J
open PySem.Spec PySem PyProof.Rows
open L2 hiding St Takes XE CX takes_of PMk MkP ps_raise mk_of ps_try_as ps_try_many pmk_own passAt passes_call takes0 passL
open L2N hiding St
open Bp (takes0 passL OpS R2S IsI)
end J

namespace J
open PySem.Spec PySem PyProof.Rows
open L2 hiding St Takes XE CX takes_of PMk MkP ps_raise mk_of ps_try_as ps_try_many pmk_own passAt passes_call takes0 passL
open L2N hiding St
open Bp (takes0 passL OpS R2S IsI tOpS pe_opS pe_cmpS pt_cmpS)
section
variable {G : Ga} {X : Cx} {W : WX} {pos : Pos} {tg iter elt : Expr} {d : Env → R PV} {ifs : List Expr} {t : Env → R Bool} {dl : Env → R (List PV)} {bn : Bnd} {scope : Scope}
def repO (dl : Env → R (List PV)) (db : Env → R PV) (env : Env) : R (List PV) := match dl env, db env with
  | .ok l, .ok (.int k) => if l.length ≤ 1000 ∧ l.length * k.toNat ≤ 1000 ∧ -1000 ≤ k ∧ k ≤ 1000 then .ok (List.replicate k.toNat l).flatten else .bad
  | _, _ => .bad
theorem Reps.rep {G : Gb} {Hf : Hp} {l : List PV} {vs : List V} (h : Reps G Hf l vs) : ∀ k : Nat, Reps G Hf (List.replicate k l).flatten (List.replicate k vs).flatten
  | 0 => .nil
  | k + 1 => by
    rw [List.replicate_succ, List.replicate_succ, List.flatten_cons, List.flatten_cons]
    exact h.append (Reps.rep h k)
theorem je_repO {es : List Expr} {b : Expr} {db : Env → R PV} {p1 : Pos} (ha : JA G X W es dl) (hb : JE G X W b db) : JEO G X (.BinOp (.List es p1) .Mult b pos) (repO dl db) := by
  obtain ⟨t, pt, jt⟩ := ha
  obtain ⟨tb, pb, jb⟩ := hb
  refine ⟨_, Bp.pe_opS (OpS.of op_rep) (pe_lst pt) pb, fun H0 Hf H env σ Q s E h => ?_⟩
  unfold repO at h
  split at h
  · rename_i l k el ek
    by_cases hk : l.length ≤ 1000 ∧ l.length * k.toNat ≤ 1000 ∧ -1000 ≤ k ∧ k ≤ 1000
    · rw [if_pos hk] at h
      refine jt H0 Hf H env σ _ s E (PostG.noE el fun vs Hf1 H1 g1 r1 => ?_)
      have hlen : vs.length * k.toNat ≤ sizeLine := line1000 (r1.length ▸ hk.2.1)
      refine ⟨?_, fun p hp => ?_⟩
      · exact line1000 (r1.length ▸ hk.1)
      · have g : Gr Hf1 H1 Hf1 (upd H1 p (.lst vs)) := Gr.up g1.sub (Same.new hp)
        refine jb H0 Hf1 (upd H1 p (.lst vs)) env σ _ g.sub (E.grow (g1.trans g)) ?_
        rw [ek]
        intro v Hf3 H3 g3 r3
        cases r3 with
        | int _ =>
        refine ⟨p, k, vs, rfl, rfl, g3.hp _ _ upd_same, by omega, by omega, hlen, fun c hc => ?_⟩
        have gg : Gr Hf H Hf3 (upd H3 c (.lst (List.replicate k.toNat vs).flatten)) := ((g1.trans g).trans g3).trans (Gr.up g3.sub (Same.new hc))
        exact h c _ Hf3 _ gg (none_back (((g1.trans g).trans g3).hp) hc) (none_back g3.sub hc) upd_same ((r1.mono g3.fz).rep k.toNat)
    · rw [if_neg hk] at h
      exact h.elim
  · exact h.elim
end
end J

namespace J
open PySem.Spec PySem PyProof.Rows
open L2 hiding St Takes XE CX takes_of PMk MkP ps_raise mk_of ps_try_as ps_try_many pmk_own passAt passes_call takes0 passL
open L2N hiding St
open Bp (takes0 passL OpS R2S IsI)
end J

namespace J
open PySem.Spec PySem PyProof.Rows
open L2 hiding St Takes XE CX takes_of PMk MkP ps_raise mk_of ps_try_as ps_try_many pmk_own passAt passes_call takes0 passL
open L2N hiding St
open Bp (takes0 passL OpS R2S IsI tOpS pe_opS pe_cmpS pt_cmpS)
section
variable {G : Ga} {X : Cx} {W : WX} {x : Str} {pos p1 p2 p3 : Pos}
end
end J

namespace J
open PySem.Spec PySem PyProof.Rows
open L2 hiding St Takes XE CX takes_of PMk MkP ps_raise mk_of ps_try_as ps_try_many pmk_own passAt passes_call takes0 passL
open L2N hiding St
open PySem.Sem (wp)
theorem new_enumT (l : Addr) (items : Array Value) (n : Nat) (o : Obj) (hoc : o.cls = .type "tuple") (hod : o.data = .seq items n) :
    Meets (Builtin.«enumerate.__new__» ⟨[.type "enumerate", .ref l], []⟩) (fun _ R s => s.heap.get? l = some o ∧
      R (.ok (.ret (.ref (s.heap.push { cls := .type "tuple_iterator", data := .fields #[.ref l, .int 0 0] }).objs.size)))
        { s with heap := (s.heap.push { cls := .type "tuple_iterator", data := .fields #[.ref l, .int 0 0] }).push { cls := .type "enumerate", data := .fields #[.none, .bool false, .ref s.heap.objs.size, rawInt 0, .none, .none] } }) :=
  .of_wp fun prog w A R s h => by
    obtain ⟨hp, g, d, tk, os⟩ := s
    obtain ⟨hl, h⟩ := h
    obtain ⟨c, dc, dt, sl⟩ := o
    cases hoc
    cases hod
    have hsub := sub_enumerate
    have hL : Heap.IsTuple (Shared.heap ⟨hp, g, d, tk, os⟩) l items := ⟨_, hl, rfl, n, rfl⟩
    wp_walk using AutoSeq1.wpAny_loadPart' hl
    refine wpAny_stack_any fun st => wpAny_pure ?_
    split
    · rename_i c _ _ _ _ _
      cases (c == Value.type "enumerate")
      · wp_walk using AutoSeq1.wpAny_loadPart' hl, wpAny_pyIter_tuple hL
        exact ⟨_, rfl, h⟩
      · wp_walk using AutoSeq1.wpAny_loadPart' hl, wpAny_pyIter_tuple hL
        exact ⟨_, rfl, h⟩
    · wp_walk using AutoSeq1.wpAny_loadPart' hl, wpAny_pyIter_tuple hL
      exact ⟨_, rfl, h⟩
section
variable {prog : Program} {w : World} {A : Around} {E : Value → Shared → Prop} {s : Shared}
theorem call_enumT {l : Addr} {items : Array Value} {Q : Value → Shared → Prop} (hL : s.heap.IsTuple l items)
    (h : ∀ h', IsEnum h' (s.heap.objs.size + 1) s.heap.objs.size 0 .none → h'.IsTupleIter s.heap.objs.size l 0 → h'.objs.size = s.heap.objs.size + 2 →
      (∀ b o, s.heap.get? b = some o → h'.get? b = some o) → Q (.ref (s.heap.objs.size + 1)) { s with heap := h' }) :
    wpAny (model prog w) A (call (.type "enumerate") [.ref l]) Q E s := by
  obtain ⟨o, hl, hc, n, hd⟩ := hL
  refine callType_new F.called_enumerate (by decide) (F.typeCall_enumerate_1 _) (F.newCall_enumerate_1 _) (fun obj => F.args_object_init_2 obj _) F.entry_enumerate_new (new_enumT l items n o hc hd) ⟨hl, ?_⟩
  have hz : (s.heap.push { cls := .type "tuple_iterator", data := .fields #[.ref l, .int 0 0] }).objs.size = s.heap.objs.size + 1 := Heap.size_push ..
  show _ ∧ _
  rw [hz]
  have he : IsEnum ((s.heap.push { cls := .type "tuple_iterator", data := .fields #[.ref l, .int 0 0] }).push
      { cls := .type "enumerate", data := .fields #[.none, .bool false, .ref s.heap.objs.size, rawInt 0, .none, .none] }) (s.heap.objs.size + 1) s.heap.objs.size 0 .none := by
    have := Heap.get?_push_size (s.heap.push { cls := .type "tuple_iterator", data := .fields #[.ref l, .int 0 0] })
      (o := { cls := .type "enumerate", data := .fields #[.none, .bool false, .ref s.heap.objs.size, rawInt 0, .none, .none] }) rfl
    rw [hz] at this; exact this
  exact ⟨⟨_, he, rfl⟩, h _ he ⟨_, Heap.get?_push_of_some _ (Heap.get?_push_size _ rfl), rfl, rfl⟩ (by rw [Heap.size_push, hz]) fun b o x => Heap.get?_push_of_some _ (Heap.get?_push_of_some _ x)⟩
end
def IteT (K : PySem.W.Frag) (a : Addr) : It :=
  ⟨fun i H => ∃ (xs : List V) (x : V), SqT K H a xs ∧ xs[i]? = some x, fun i H v H' => ∃ T x, v = .ref T ∧ H T = none ∧ H' = upd H T (.tup [.int (i : Nat), x]) ∧ ∀ xs, SqT K H a xs → xs[i]? = some x, fun i H => ∃ xs : List V, SqT K H a xs ∧ xs.length = i⟩
theorem turn_enumT {P : Program} {w : World} {K : PySem.W.Frag} {elts : List Expr} {kk : Nat} {tpos : Pos} (a e it : Addr) :
    L2.Turn P w K (.Tuple elts kk tpos) (IteT K a) [e, it] e (fun i h => (∃ old, IsEnum h e it ((i : Nat) : Int) old) ∧ h.IsTupleIter it a i ∧ e ≠ it ∧ a ≠ it ∧ e ≠ a) where
  mem := by simp
  obj := fun i h st b hb => by
    obtain ⟨⟨old, he⟩, ⟨o, ho, hc, hd⟩, _⟩ := st
    have e' : b = e ∨ b = it := by simpa using hb
    rcases e' with z | z
    · rw [z]; exact ⟨_, he, fun v q => nomatch q⟩
    · rw [z]; exact ⟨o, ho, fun v q => by rw [hd] at q; cases q⟩
  keep := fun i h h' st k => let ⟨⟨old, he⟩, hi, hne⟩ := st; ⟨⟨old, k e (by simp) _ he⟩, hi.at fun o q => k it (by simp) o q, hne⟩
  item := by
    intro X hP hw hK hc i pins s σ H E I hf st hg
    subst hP hw hK
    obtain ⟨⟨old, he⟩, hit, hne, hai, hea⟩ := st
    obtain ⟨xs, x, hq, hx⟩ := hg
    obtain ⟨its, rv, p, hz⟩ := I.tuple hq
    obtain ⟨u, hu, ru⟩ := rv.get hx
    have hel : e < s.heap.objs.size := Heap.lt_size he
    have hil : it < s.heap.objs.size := by obtain ⟨_, q, _⟩ := hit; exact Heap.lt_size q
    have hlt : i < its.toArray.size := by
      rcases Nat.lt_or_ge i its.length with z | z
      · simpa using z
      · rw [List.getElem?_eq_none z] at hu; cases hu
    refine wpAny_pyNext_enum_itemD (Draws.tuple (prog := X.prog) (w := X.w) (A := X.A.in1) (I.ok.hd hc) it a hai its.toArray) he ⟨hit, p⟩ hlt hne (by simp [hne, hea]) fun u' h' tk hu' ho hit' hT hsz hk => ?_
    have eu : u' = u := by
      have : its[i]? = some u' := by simpa using hu'
      rw [hu] at this
      exact (Option.some.inj this).symm
    subst eu
    refine ⟨_, rfl, wpAny_letOwnedTupleGo_enum (s := { s with heap := h', toks := tk + 1 }) ho fun h'' he' sb => ?_⟩
    have hT2 : h''.get? s.heap.objs.size = some { cls := .type "tuple", data := .seq #[.int i tk, u'] } := (sb.2 _ (Nat.ne_of_gt hel)).trans hT
    have new : ObjOk X.prog X.w (upd H s.heap.objs.size (.tup [.int (i : Nat), x])) h'' s.heap.objs.size (.tup [.int (i : Nat), x]) :=
      ⟨by show 2 ≤ sizeLine; decide, [.int i tk, u'], .cons ⟨_, rfl⟩ (.cons ru .nil), ⟨_, hT2, rfl, _, rfl⟩⟩
    have I1 : Inv X pins σ (upd H s.heap.objs.size (.tup [.int (i : Nat), x])) { s with heap := h'', toks := tk + 1 } :=
      I.turnedNew (ch := [e, it]) (fun b ob hb q => (sb.2 b (fun z => hb (by simp [z]))).trans (hk b ob (fun z => hb (by simp [z])) (fun z => hb (by simp [z])) q)) hf (Nat.le_refl _) new
    refine ⟨.ref s.heap.objs.size, _, I1, rfl, ⟨_, x, rfl, I.hok.fresh (Nat.le_refl _), rfl, fun ys hy => by rw [I.tuple_inj hy hq]; exact hx⟩, ⟨⟨u', ?_⟩, hit'.1.at fun o q => (sb.2 it (Ne.symm hne)).trans q, hne, hai, hea⟩, fun b hb => ?_⟩
    · have e1 : ((i + 1 : Nat) : Int) = (i : Int) + 1 := by omega
      rw [e1]; exact he'
    · have hb' : b < s.heap.objs.size := by
        have e' : b = e ∨ b = it := by simpa using hb
        rcases e' with z | z
        · rw [z]; exact hel
        · rw [z]; exact hil
      rw [upd_ne (Nat.ne_of_lt hb')]
      exact (hf b hb).1
  done := by
    intro X hP hw hK hc i pins s σ H E I hf st hg
    subst hP hw hK
    obtain ⟨⟨old, he⟩, hit, hne, hai, hea⟩ := st
    obtain ⟨xs, hq, hx⟩ := hg
    obtain ⟨its, rv, p, hz⟩ := I.tuple hq
    obtain ⟨f0, f1, f2, f3, f4, f5⟩ := hf it (by simp)
    have hl := rv.length
    have ei : i = its.toArray.size := by rw [List.size_toArray, ← hl, hx]
    subst ei
    exact wpAny_pyNext_enum_endD (Draws.tuple (prog := X.prog) (w := X.w) (A := X.A.in1) (I.ok.hd hc) it a hai its.toArray) he ⟨hit, p⟩ fun h' eb => ⟨rfl, I.turned (t' := s.toks) (fun b o hb q => eb b o hb q) f0 f1 f3 f4 f5⟩
  self := fun A i s Q E st h => let ⟨⟨_, he⟩, _⟩ := st; wpAny_pyIter_enum he h
def iEnumS (K : PySem.W.Frag) (ta : TA) : TI := fun σ H R => ta σ H fun vs H1 => ∃ a xs, vs = [.ref a] ∧ ((SqL K H1 a xs ∧ R (Ite K a) H1) ∨ (SqT K H1 a xs ∧ R (IteT K a) H1))
theorem pi_enumS {X : Cx} {e : Expr} {ta : TA} {p pos tpos : Pos} {elts : List Expr} {kk : Nat} (hg : Gl X "enumerate") (hm : X.mg "enumerate" = none) (ha : PA X [e] ta) (hs : starEach [e] X.env = [(false, eval e X.env)] := by rfl) :
    PI X (.Tuple elts kk tpos) (.Call (.Name "enumerate" p) [e] [] pos) (iEnumS X.K ta) := by
  refine ⟨fun pins s σ H R I h => ?_⟩
  refine Call_ (ld_blt I hg hm boot_enumerate (PyProof.Rows.callWith_type1 (thn (ha.run pos pins s σ H _ I h) fun us s1 ⟨vs, H1, I1, r1, q1⟩ => ?_) hs rfl))
  obtain ⟨a, xs, ex, q⟩ := q1
  subst ex
  obtain _ | ⟨r, rr⟩ := r1
  cases rr
  cases r
  rcases q with ⟨hq, q⟩ | ⟨hq, q⟩
  · obtain ⟨its, rv, p', hz⟩ := I1.list hq
    refine call_enumerate_list p'.isList fun h' he hit hsz hk => wpAny_pyIter_enum he ?_
    have I2 : Inv X pins σ H1 { s1 with heap := h' } := I1.kept (t' := s1.toks) hk
    refine ⟨s1.heap.objs.size + 1, [s1.heap.objs.size + 1, s1.heap.objs.size], _, _, H1, rfl, I2, turn_enum a (s1.heap.objs.size + 1) s1.heap.objs.size, ⟨⟨.none, he⟩, hit, Nat.succ_ne_self _⟩, fun b hb => ?_, q⟩
    have hle : s1.heap.objs.size ≤ b := by
      have e' : b = s1.heap.objs.size + 1 ∨ b = s1.heap.objs.size := by simpa using hb
      rcases e' with z | z <;> rw [z] <;> omega
    exact I1.fpOk hle (I1.hok.fresh hle)
  · obtain ⟨its, rv, p', hz⟩ := I1.tuple hq
    have la : a < s1.heap.objs.size := by obtain ⟨o, q, _⟩ := id p'; exact Heap.lt_size q
    refine call_enumT p' fun h' he hit hsz hk => wpAny_pyIter_enum he ?_
    have I2 : Inv X pins σ H1 { s1 with heap := h' } := I1.kept (t' := s1.toks) hk
    refine ⟨s1.heap.objs.size + 1, [s1.heap.objs.size + 1, s1.heap.objs.size], _, _, H1, rfl, I2, turn_enumT a (s1.heap.objs.size + 1) s1.heap.objs.size, ⟨⟨.none, he⟩, hit, Nat.succ_ne_self _, Nat.ne_of_lt la, Nat.ne_of_gt (Nat.lt_succ_of_lt la)⟩, fun b hb => ?_, q⟩
    have hle : s1.heap.objs.size ≤ b := by
      have e' : b = s1.heap.objs.size + 1 ∨ b = s1.heap.objs.size := by simpa using hb
      rcases e' with z | z <;> rw [z] <;> omega
    exact I1.fpOk hle (I1.hok.fresh hle)
theorem walk_enumT {K : PySem.W.Frag} {a : Addr} {xs : List V} : Walk (IteT K a) xs.length (fun H => SqT K H a xs) (YPair (fun i => some (.int (i : Nat))) (fun i => xs[i]?)) :=
  ⟨fun i _ hi q => ⟨xs, xs[i], q, by simp [hi]⟩, fun _ q => ⟨xs, q, rfl⟩, fun i H v H' _ q ⟨T, x, h1, h2, h3, h4⟩ => ⟨T, .int (i : Nat), x, h1, h2, h3, rfl, h4 xs q⟩⟩
theorem reps_ints {G : Gb} {Hf : Hp} (k n : Nat) : Reps G Hf ((List.range' k n).map fun (i : Nat) => PV.int i) ((List.range' k n).map fun (i : Nat) => V.int i) := by
  induction n generalizing k with
  | zero => exact .nil
  | succ n ih =>
    rw [List.range'_succ, List.map_cons, List.map_cons]
    exact .cons (.int _) (ih (k + 1))
def enumE (d : Env → R PV) (env : Env) : R (List PV) := (d env).bind fun p => (asL p).bind fun l => .ok (List.zipWith (fun x y => .tup [x, y]) ((List.range' 0 l.length).map fun (i : Nat) => PV.int i) l)
theorem ji_enum {G : Ga} {X : Cx} {W : WX} {e : Expr} {d : Env → R PV} {p pos tpos : Pos} {elts : List Expr} {kk : Nat} (hK : X.K = G.K) (hm : X.mg "enumerate" = none) (ha : JE G X W e d) (hg : Gl X "enumerate" := by rfl) (hs : starEach [e] X.env = [(false, eval e X.env)] := by rfl) :
    JI G X W (.Tuple elts kk tpos) (.Call (.Name "enumerate" p) [e] [] pos) (enumE d) := by
  obtain ⟨t, pt, jt⟩ := ha
  refine ⟨_, pi_enumS hg hm (pa_cons pt pa_nil hs) hs, fun H0 Hf H env σ R s E h => ?_⟩
  refine jt H0 Hf H env σ _ s E (PostG.bind h fun p v Hf1 H1 _ g1 r1 h1 => ?_)
  rcases asL_ok (p := p) with ⟨l, el⟩ | el
  · rw [el] at h1
    have pick : ∀ {xs : List V} (rl : Reps G.toGb Hf1 l xs) {i : Nat} {Hf2 H2 H3 : Hp} {x : V} (s1 : Same Hf1 Hf2) (s2 : Same Hf2 H2), i < xs.length → YPair (fun i => some (V.int (i : Nat))) (fun i => xs[i]?) i H2 x H3 → ∃ Hf3, Gr Hf2 H2 Hf3 H3 ∧ ∃ p, (List.zipWith (fun x y => PV.tup [x, y]) ((List.range' 0 l.length).map fun (i : Nat) => PV.int i) l)[i]? = some p ∧ Rep G.toGb Hf3 p x := fun {xs} rl {i Hf2 H2 H3 x} s1 s2 hi y => by
      refine pair_item (xs := (List.range' 0 l.length).map fun (i : Nat) => V.int i) (reps_ints 0 l.length) rl s1 s2 ?_
      obtain ⟨T, u, v, e1, e2, e3, e4, e5⟩ := y
      refine ⟨T, u, v, e1, e2, e3, ?_, e5⟩
      show ((List.range' 0 l.length).map fun (i : Nat) => V.int i)[i]? = some u
      rw [List.getElem?_map, List.getElem?_range' (by rw [rl.length]; exact hi)]
      simpa using e4
    cases r1 with
    | lst t r =>
      cases el
      rename_i a xs _
      refine ⟨a, xs, rfl, .inl ⟨by rw [hK]; exact g1.sub.seq t, ?_⟩⟩
      rw [hK]
      exact h1 _ Hf1 H1 (Gr.refl g1.sub) ⟨_, _, by (have := walk_enum (K := G.K) (a := a) (xs := xs); rw [show (List.zipWith (fun x y => PV.tup [x, y]) ((List.range' 0 l.length).map fun (i : Nat) => PV.int i) l).length = xs.length by simp [r.length]]; exact this), fun Hf2 H2 s1 s2 => (s1.trans s2).seq t, fun i Hf2 H2 x H3 hi s1 s2 y => pick r s1 s2 (by simpa [r.length] using hi) y⟩
    | tup t r =>
      cases el
      rename_i a xs _
      refine ⟨a, xs, rfl, .inr ⟨by rw [hK]; exact Bp.seqT g1.sub t, ?_⟩⟩
      rw [hK]
      exact h1 _ Hf1 H1 (Gr.refl g1.sub) ⟨_, _, by (have := walk_enumT (K := G.K) (a := a) (xs := xs); rw [show (List.zipWith (fun x y => PV.tup [x, y]) ((List.range' 0 l.length).map fun (i : Nat) => PV.int i) l).length = xs.length by simp [r.length]]; exact this), fun Hf2 H2 s1 s2 => Bp.seqT (s1.trans s2) t, fun i Hf2 H2 x H3 hi s1 s2 y => pick r s1 s2 (by simpa [r.length] using hi) y⟩
    | _ => cases el
  · rw [el] at h1
    exact h1.elim
end J

namespace J
open PySem.Spec PySem PyProof.Rows
open L2 hiding St Takes XE CX takes_of PMk MkP ps_raise mk_of ps_try_as ps_try_many pmk_own passAt passes_call takes0 passL
open L2N hiding St
end J

namespace J
open PySem.Spec PySem PyProof.Rows
open L2 hiding St Takes XE CX takes_of PMk MkP ps_raise mk_of ps_try_as ps_try_many pmk_own passAt passes_call takes0 passL
open L2N hiding St
open Bp (takes0 passL OpS R2S IsI tOpS pe_opS pe_cmpS pt_cmpS)
section
variable {G : Ga} {X : Cx} {W : WX} {e1 e2 elt : Expr} {dl : Env → R (List PV)} {bn : Bnd} {d : Env → R PV} {scope : Scope} {elts : List Expr} {kk : Nat} {tpos p0 p1 p2 p3 p4 py pos pos2 pos3 : Pos} {y : Str}
end
end J

namespace J
open PySem.Spec PySem PyProof.Rows
open L2 hiding St Takes XE CX takes_of PMk MkP ps_raise mk_of ps_try_as ps_try_many pmk_own passAt passes_call takes0 passL
open L2N hiding St
open PySem.Sem (wp)
open RZ
structure Apart3 (zz Ti To ia ib ic a b c : Addr) : Prop where
  s : ZipSep3 zz Ti To ia ib ic [ia, a] [ib, b] [ic, c]
  ai : a ≠ ia
  bi : b ≠ ib
  ci : c ≠ ic
end J

namespace J
open PySem.Spec PySem PyProof.Rows
open L2 hiding St Takes XE CX takes_of PMk MkP ps_raise mk_of ps_try_as ps_try_many pmk_own passAt passes_call takes0 passL
open L2N hiding St
open RZ
section
variable {prog : Program} {w : World} {A : Around} {E : Value → Shared → Prop} {s : Shared} {SA SB : ZSide}
end
section
variable {prog : Program} {w : World} {A : Around} {R : Result → Shared → Prop} {SA SB : ZSide}
end
section
variable {prog : Program} {w : World} {A : Around} {E : Value → Shared → Prop} {s : Shared} {SA SB : ZSide}
end
section
variable {G : Ga} {X : Cx} {W : WX} {e1 e2 : Expr} {dl : Env → R (List PV)} {p0 p1 p2 p3 : Pos}
end
def ofO (d : Env → R (List PV)) (env : Env) : R PV := match d env with | .ok l => .ok (.lst l) | _ => .bad
theorem je_ofO {G : Ga} {X : Cx} {W : WX} {e : Expr} {d : Env → R (List PV)} (h : JEO G X e d) : JE G X W e (ofO d) := by
  obtain ⟨t, pt, jt⟩ := h
  refine ⟨_, pt, fun H0 Hf H env σ Q s E h => jt H0 Hf H env σ _ s E ?_⟩
  unfold ofO at h
  cases ed : d env with
  | er c fs => rw [ed] at h; exact h.elim
  | bad => rw [ed] at h; exact h.elim
  | ok l =>
    rw [ed] at h
    intro a ws Hf' H' g n0 nf ha r
    exact h _ _ _ (Gr.frz g n0 nf ha) (.lst (SqL.of upd_same) (r.mono (Same.new nf)))
end J

namespace J
open PySem.Spec PySem PyProof.Rows
open L2 hiding St Takes XE CX takes_of PMk MkP ps_raise mk_of ps_try_as ps_try_many pmk_own passAt passes_call takes0 passL
open L2N hiding St
open Bp (takes0 passL OpS R2S IsI)
end J

namespace J
open PySem.Spec PySem PyProof.Rows
open L2 hiding St Takes XE CX takes_of PMk MkP ps_raise mk_of ps_try_as ps_try_many pmk_own passAt passes_call takes0 passL
open L2N hiding St
end J

namespace J
open PySem.Spec PySem PyProof.Rows
open L2 hiding St Takes XE CX takes_of PMk MkP ps_raise mk_of ps_try_as ps_try_many pmk_own passAt passes_call takes0 passL
open L2N hiding St
open Bp (takes0 passL OpS R2S IsI tOpS pe_opS pe_cmpS pt_cmpS)
section
variable {G : Ga} {X : Cx} {W : WX} {H0 Hf H : Hp} {env : Env} {σ : L2.St} {i : Nat} {e : Expr} {d : Env → R PV}
end
def env2 (nn : Nat) (t l m : List PV) : Env := .iol t :: (l.map .val ++ .io2 m :: List.replicate (nn - l.length - 2) .no)
section
variable {G : Gb}
end
def RbM (G : Gb) (σ : L2.St) (j : Nat) : Hp → List PV → List V → Prop := fun Hf l vs => ∃ us b, vs = us ++ [.ref b] ∧ σ[j]? = some (some (.ref b)) ∧ Reps G Hf l us
structure JAB (G : Ga) (X : Cx) (es : List Expr) (j : Nat) (d : Env → R (List PV × Env)) : Prop where
  ex : ∃ ta, PA X es ta ∧ ∀ (Hf0 H0 Hf H : Hp) (env : Env) (σ : L2.St) (Q : List V → Hp → Prop), (∃ b, σ[j]? = some (some (.ref b))) → StOk G Hf0 H0 Hf H env σ → PostM G (RbM G σ j) Hf0 H0 Hf σ (d env) Q → ta σ H Q
section
variable {G : Ga} {X : Cx} {W : WX} {e : Expr} {es : List Expr} {d : Env → R (PV × Env)} {dl : Env → R (List PV × Env)} {pos p0 p1 : Pos} {x y z : Str} {j : Nat}
end
section
variable {G : Ga} {Hf0 H0 Hf H Hf' H' : Hp} {env : Env} {σ : L2.St} {i j : Nat} {a b : Addr} {ws xs ws' xs' : List V} {t m t' m' : List PV}
end
section
variable {G : Ga} {X : Cx} {W : WX} {es : List Expr} {dl : Env → R (List PV × Env)} {pos p0 p1 spos py : Pos} {x y z : Str} {k : Nat} {ps : List Str} {f : List PV → List PV → List PV → R (PV × List PV × List PV)} {fo : List PV → List PV → R (List PV × List PV)}
structure JSMO (G : Ga) (X : Cx) (st : List Stmt) (d : Env → R (List PV × Env)) : Prop where
  ex : ∃ ts, PSs X st ts ∧ ∀ (Hf0 H0 Hf H : Hp) (env : Env) (σ : L2.St) (D : Ends) (r : List PV) (e : Env), StOk G Hf0 H0 Hf H env σ → d env = .ok (r, e) →
    (∀ σ' Hf' H' c rs i, StOk G Hf0 H0 Hf' H' e σ' → Same Hf Hf' → Env.at e i = .own r → σ'[i]? = some (some (.ref c)) → H0 c = none → Hf' c = none → H' c = some (.lst rs) → Reps G.toGb Hf' r rs → D.rt (.ref c) H') → ts D σ H
end
section
variable {G : Gb}
end
end J

namespace J
open PySem.Spec PySem PyProof.Rows
open L2 hiding St Takes XE CX takes_of PMk MkP ps_raise mk_of ps_try_as ps_try_many pmk_own passAt passes_call takes0 passL
open L2N hiding St
section
variable {G : Ga} {X : Cx} {W : WX} {tg a b c : Expr} {pos : Pos} {dl : Env → R (List PV)} {Hf : Hp}
end
end J

namespace J
open PySem.Spec PySem PyProof.Rows
open L2 hiding St Takes XE CX takes_of PMk MkP ps_raise mk_of ps_try_as ps_try_many pmk_own passAt passes_call takes0 passL
open L2N hiding St
open Bp (takes0 passL OpS R2S IsI tOpS pe_opS pe_cmpS pt_cmpS)
section
variable {G : Ga} {X : Cx} {W : WX}
end
end J

namespace J
open PySem.Spec PySem PyProof.Rows
open L2 hiding St Takes XE CX takes_of PMk MkP ps_raise mk_of ps_try_as ps_try_many pmk_own passAt passes_call takes0 passL
open L2N hiding St
open Bp (takes0 passL OpS R2S IsI)
end J

namespace J
open PySem.Spec PySem PyProof.Rows
open L2 hiding St Takes XE CX takes_of PMk MkP ps_raise mk_of ps_try_as ps_try_many pmk_own passAt passes_call takes0 passL
open L2N hiding St
open Bp (takes0 passL OpS R2S IsI)
end J

namespace J
open PySem.Spec PySem PyProof.Rows
open L2 hiding St Takes XE CX takes_of PMk MkP ps_raise mk_of ps_try_as ps_try_many pmk_own passAt passes_call takes0 passL
open L2N hiding St
open Bp (takes0 passL OpS R2S IsI)
end J

namespace J
open PySem.Spec PySem PyProof.Rows
open L2 hiding St Takes XE CX takes_of PMk MkP ps_raise mk_of ps_try_as ps_try_many pmk_own passAt passes_call takes0 passL
open L2N hiding St
section
variable {G : Ga} {X : Cx} {W : WX} {e : Expr} {elo ehi : Option Expr} {d : Env → R (PV × Env)} {lo hi : Env → R (Option Int)} {pos p2 : Pos}
end
section
variable {G : Ga} {X : Cx} {W : WX} {pos : Pos} {a b c : Expr} {da db dc : Env → R PV}
end
end J

namespace J
open PySem.Spec PySem PyProof.Rows
open L2 hiding St Takes XE CX takes_of PMk MkP ps_raise mk_of ps_try_as ps_try_many pmk_own passAt passes_call takes0 passL
open L2N hiding St
open Bp (takes0 passL OpS R2S IsI)
end J

namespace J
open PySem.Spec PySem PyProof.Rows
open L2 hiding St Takes XE CX takes_of PMk MkP ps_raise mk_of ps_try_as ps_try_many pmk_own passAt passes_call takes0 passL
open L2N hiding St
open Bp (OpS R2S tOpS pe_opS pe_cmpS pt_cmpS IsI inst_of)

section
variable {X : Cx} {k : Nat} {C : Addr} {f : Addr} {fd : FuncData} {ps : List Str} {sp : Sp} {W : WX} {a b : Expr} {ta tb : TE} {pos : Pos} {CX' : CXT} {E : L2.St → XK}
end
section
variable {G : Ga} {X : Cx} {W : WX} {k c : Nat} {C : Addr} {x : Str} {a b e : Expr} {es : List Expr} {da db d : Env → R PV} {dl : Env → R (List PV)} {f : List PV → R PV} {pos p : Pos} {ps : List Str}
end
end J

namespace J
open PySem.Spec PySem PyProof.Rows
open L2 hiding St Takes XE CX takes_of PMk MkP ps_raise mk_of ps_try_as ps_try_many pmk_own passAt passes_call takes0 passL
open L2N hiding St
open PySem.Sem (wp)

section
variable {prog : Program} {w : World} {A : Around} {E : Value → Shared → Prop} {s : Shared}
end
def TitO (it t : Addr) (i : Nat) : HO := .ext fun h => h.IsTupleIter it t i
section
variable {X : Cx} {pins : List (Addr × Obj)} {σ : L2.St} {H : Hp} {s : Shared} {t it C a q : Addr} {i : Nat}
def spIt (K : PySem.W.Frag) (C : Addr) (fld : Str) : Sp := fun vs H Q _ => ∃ a dx fs t xs, vs = [.ref a] ∧ H a = some (.ins C dx fs) ∧ fs.lookup fld = some (.ref t) ∧ SqT K H t xs ∧ ∀ it, H it = none → Q (.ref it) (upd H it (TitO it t 0))
structure ItO (K : PySem.W.Frag) (C fi : Addr) : Prop where
  it : PySem.W.findIn K (.ref C) "__iter__" = some (some (.ref fi))
  itF : PySem.W.isFn K (.ref fi) = true
  nolen : PySem.W.findIn K (.ref C) "__len__" = some none
  nohint : PySem.W.findIn K (.ref C) "__length_hint__" = some none
variable {n k : Nat} {fi : Addr} {fdI : FuncData} {psI : List Str} {fld : Str}
end
end J

namespace J
open PySem.Spec PySem PyProof.Rows
open L2 hiding St Takes XE CX takes_of PMk MkP ps_raise mk_of ps_try_as ps_try_many pmk_own passAt passes_call takes0 passL
open L2N hiding St

structure ItD (P : Program) (w : World) (K : PySem.W.Frag) (mg : Str → Option Value) (base : Heap) (k : Nat) (C : Addr) (fld : Str) : Prop where
  ex : ∃ f fd ps, Meth K C "__iter__" f ∧ L2.Binds K fd ps [] ∧ FnOk P w K mg base (L2N.CX P w) k f fd ps (spIt K C fld)
section
variable {G : Ga} {X : Cx} {W : WX} {k c : Nat} {C : Addr} {fld : Str} {e : Expr} {d : Env → R PV} {p0 pos : Pos}
structure ItF (K : PySem.W.Frag) (C : Addr) : Prop where
  nolen : PySem.W.findIn K (.ref C) "__len__" = some none
  nohint : PySem.W.findIn K (.ref C) "__length_hint__" = some none
end
end J

namespace J
open PySem.Spec PySem PyProof.Rows
open L2 hiding St Takes XE CX takes_of PMk MkP ps_raise mk_of ps_try_as ps_try_many pmk_own passAt passes_call takes0 passL
open L2N hiding St
open Bp (takes0 passL OpS R2S IsI tOpS pe_opS pe_cmpS pt_cmpS)

section
variable {G : Ga} {X : Cx} {W : WX} {x : Str} {pos p0 p1 p2 p3 : Pos}
variable {k c : Nat} {C : Addr} {ps : List Str} {sp : Sp} {f : List PV → R PV}
variable {e : Expr} {es : List Expr} {dl : Env → R (List PV)} {ds : List PV}
end
end J

namespace J
open PySem.Spec PySem PyProof.Rows
open L2 hiding St Takes XE CX takes_of PMk MkP ps_raise mk_of ps_try_as ps_try_many pmk_own passAt passes_call takes0 passL
open L2N hiding St
open Bp (takes0 passL OpS R2S IsI)
end J

namespace J
open PySem.Spec PySem PyProof.Rows
open L2 hiding St Takes XE CX takes_of PMk MkP ps_raise mk_of ps_try_as ps_try_many pmk_own passAt passes_call takes0 passL
open L2N hiding St
open L2H (RoomH Hot1 PinOk HotC cxH inv_startH FnH)

structure FnEx (P : Program) (w : World) (K : PySem.W.Frag) (mg : Str → Option Value) (base : Heap) (k : Nat) (f : Addr) (fd : FuncData) (ps : List Str) (sp : Addr × Obj → List V → Hp → VK → Prop) : Prop where
  len : ∀ p vs H Q, sp p vs H Q → vs.length = ps.length
  run : ∀ (A : Around) (outer : List PySem.Env) (s : Shared) (H : Hp) (args : Args) (us : List Value) (vs : List V) (Q : VK) (p : Addr × Obj), RoomH k A → Hot1 A p → PinOk outer H s p → Env0 P w K mg base A outer s H → BindsTo s fd args (ps.zip us) → Vals vs us → sp p vs H Q →
    codeAny (model P w) A (.call (.ref f) args) (CR (fun _ _ _ _ _ _ => False) outer P w H s Q (fun _ _ _ => False)) s
section
variable {X : Cx} {k i : Nat} {f : Addr} {fd : FuncData} {ps : List Str} {sp : Addr × Obj → List V → Hp → VK → Prop} {x n : Str} {q p1 pos : Pos} {a : Addr} {oe : Obj} {pn : List (Addr × Obj)}
end
def ansEx (f : F) : R PV := match f with | .rt p => .ok p | .nx _ => .ok .non | _ => .bad
def fnEx (np nn : Nat) (d : Env → F) (c : Nat) (fs : List (Str × PV)) (l : List PV) : R PV := if l.length + 1 = np then ansEx (d (.exc c fs :: env0 (nn - 1) l)) else .bad
structure DefEx (P : Program) (w : World) (K : PySem.W.Frag) (mg : Str → Option Value) (base : Heap) (k : Nat) (x : Str) (ps : List Str) (sp : Addr × Obj → List V → Hp → VK → Prop) : Prop where
  ex : ∃ f fd, mg x = some (.ref f) ∧ PySem.W.keepIn K (.ref f) = true ∧ L2.Binds K fd ps [] ∧ FnEx P w K mg base k f fd ps sp
section
variable {P : Program} {w : World} {K : PySem.W.Frag} {mg : Str → Option Value} {base : Heap} {G : Gb}
end
section
variable {G : Ga} {X : Cx} {W : WX} {x n : Str} {p0 p1 pos : Pos} {k : Nat} {ps : List Str} {f : Nat → List (Str × PV) → List PV → R PV} {a : Addr} {oe : Obj} {cls : Value} {d : Option Addr} {pn : List (Addr × Obj)}
end
end J

namespace J
open PySem.Spec PySem PyProof.Rows
open L2 hiding St Takes XE CX takes_of PMk MkP ps_raise mk_of ps_try_as ps_try_many pmk_own passAt passes_call takes0 passL
open L2N hiding St
open L2H (RoomH Hot1 PinOk HotC cxH inv_startH FnH)
structure JIH (G : Ga) (X : Cx) (W : WX) (tg it : Expr) (d : Env → R (List PV)) : Prop where
  ex : ∃ wi, L2H.PIH X tg it wi ∧ TJI G W wi d
section
variable {G : Ga} {X : Cx} {W : WX} {Hf0 H0 Hf H Hf' H' : Hp} {env : Env} {σ : L2.St} {i : Nat} {x : Str} {pos : Pos} {e e2 a b c tg iter : Expr} {d da db dc : Env → R PV} {es : List Expr} {st : Stmt} {sts : List Stmt} {f g : Env → F} {p q : Env → R Bool} {dl : Env → R (List PV)} {vs : List Nat} {bn : Bnd}
end
end J

namespace J
open PySem.Spec PySem PyProof.Rows
open L2 hiding St Takes XE CX takes_of PMk MkP ps_raise mk_of ps_try_as ps_try_many pmk_own passAt passes_call takes0 passL
open L2N hiding St
theorem inv_ghost {X : Cx} {pins : List (Addr × Obj)} {σ : L2.St} {H : Hp} {s : Shared} (I : L2.Inv X pins σ H s) {g : Nat} {n : Str} (hN : X.N[g]? = some n) (hv : ¬ Vis X.env.scope n) (o : Option V) : L2.Inv X pins (σ.set g o) H s := by
  refine ⟨I.ok, I.os, I.bare, I.base, ?_, I.cell, I.free, I.freeC, I.pin, I.hok, by rw [List.length_set]; exact I.len⟩
  obtain ⟨m, hm, h⟩ := I.loc
  refine ⟨m, hm, fun i x v hx hs vis => h i x v hx ?_ vis⟩
  by_cases e : g = i
  · subst e
    rw [hN] at hx
    cases hx
    exact absurd vis hv
  · rwa [List.getElem?_set, if_neg e] at hs
def tGh (X : Cx) (sts : List Stmt) (g1 g2 : Nat) : TS := fun D σ H => ∃ o1 o2 t, PSs X sts t ∧ t D ((σ.set g1 o1).set g2 o2) H
theorem pss_gh {X : Cx} {sts : List Stmt} {g1 g2 : Nat} {n1 n2 : Str} (h1 : X.N[g1]? = some n1) (v1 : ¬ Vis X.env.scope n1) (h2 : X.N[g2]? = some n2) (v2 : ¬ Vis X.env.scope n2) : PSs X sts (tGh X sts g1 g2) :=
  ⟨fun pins s σ H D I ⟨_, _, _, p, h⟩ => p.run pins s _ H D (inv_ghost (inv_ghost I h1 v1 _) h2 v2 _) h⟩
def Sl.isPl : Sl → Bool | .no => true | .val _ => true | .own _ => true | .ownD _ => true | _ => false
def plE (env : Env) : Bool := env.all Sl.isPl
def parE (i g1 g2 : Nat) (p : PV) (env : Env) : Env := ((env.set i (.par [.inl p, .inr false, .inr true])).set g1 (.iol [])).set g2 (.io2 [])
def parF (i g1 g2 : Nat) (d : Env → R PV) (f : Env → F) (env : Env) : F :=
  if plE env = true ∧ i < env.length ∧ g1 < env.length ∧ g2 < env.length then
    match d env with
    | .ok p => (match f (parE i g1 g2 p env) with | .rt q => .rt q | _ => .bad)
    | _ => .bad
  else .bad
section
variable {G : Ga} {X : Cx} {W : WX} {Hf0 H0 Hf H Hf' H' : Hp} {env : Env} {σ : L2.St} {sts : List Stmt} {e : Expr} {d : Env → R PV} {f : Env → F} {x n1 n2 : Str} {pos p1 p2 p3 q1 q2 q3 : Pos}
theorem pl_swap {G' : Ga} {s : Sl} {o : Option (Option V)} (hG : G'.toGb = G.toGb) (hs : s.isPl = true) (h : SlOk G H0 Hf H s o) : SlOk G' H0 Hf H s o := by
  obtain ⟨B, xi, sa, sb⟩ := G
  obtain ⟨B', xi', sa', sb'⟩ := G'
  cases hG
  cases s with
  | no => trivial
  | val p => exact h
  | own l => exact h
  | ownD l => exact h
  | _ => cases hs
theorem plE_at (h : plE env = true) (j : Nat) : (env.at j).isPl = true := by
  unfold Env.at
  rw [List.getD_eq_getElem?_getD]
  cases e : env[j]? with
  | none => rfl
  | some s => exact List.all_eq_true.mp h s (List.mem_of_getElem? e)
theorem EnvOk.pl {G' : Ga} (E : EnvOk G H0 Hf H env σ) (hG : G'.toGb = G.toGb) (h : plE env = true) : EnvOk G' H0 Hf H env σ :=
  ⟨E.len, fun j => pl_swap hG (plE_at h j) (E.get j), E.dis⟩
theorem upd_some {H : Hp} {a b : Addr} {o u : HO} (n : H b = none) (h : H a = some u) : upd H b o a = some u := by rw [upd_ne (fun z => by rw [z, n] at h; cases h)]; exact h
theorem jss_par (i g1 g2 : Nat) (nd : X.N.Nodup) (h : JE G X W e d) (hr : ∀ a b : Addr, JSs { G with sa := some a, sb := some b } X W sts f)
    (dg : g1 ≠ g2 ∧ i ≠ g1 ∧ i ≠ g2 := by decide) (hi : X.N[i]? = some x := by rfl) (hx : Loc X.env.scope x := by first | exact Or.inl rfl | exact Or.inr rfl) (h1 : X.N[g1]? = some n1 := by rfl) (v1 : ¬ Vis X.env.scope n1 := by decide) (h2 : X.N[g2]? = some n2 := by rfl) (v2 : ¬ Vis X.env.scope n2 := by decide)
    (hs : swapsWith (.List [e, .List [] q1, .List [] q2] q3) (some (.Name x p1)) pos.line X.env = pure false := by rfl) (hf : X.fn x = true ∨ X.env.scope.names.lookup x = some .local := by first | exact .inl rfl | exact .inr rfl)
    (s1 : starEach [e, .List [] q1, .List [] q2] X.env = (false, eval e X.env) :: starEach [.List [] q1, .List [] q2] X.env := by rfl)
    (s2 : starEach [.List [] q1, .List [] q2] X.env = (false, eval (.List [] q1) X.env) :: starEach [.List [] q2] X.env := by rfl)
    (s3 : starEach [.List [] q2] X.env = (false, eval (.List [] q2) X.env) :: starEach [] X.env := by rfl) :
    JSs G X W (.Assign [.Name x p1] (.List [e, .List [] q1, .List [] q2] q3) pos :: sts) (parF i g1 g2 d f) := by
  obtain ⟨t, pt, jt⟩ := h
  obtain ⟨dg1, dg2, dg3⟩ := dg
  refine ⟨_, pss_cons (ps_set nd hi hx (pe_lst (pa_cons pt (pa_cons (pe_lst pa_nil) (pa_cons (pe_lst pa_nil) pa_nil s3) s2) s1)) hs hf) (pss_gh (sts := sts) h1 v1 h2 v2), fun Hf0 H0 Hf H env σ D S h => ?_⟩
  unfold parF at h
  by_cases hp : plE env = true ∧ i < env.length ∧ g1 < env.length ∧ g2 < env.length
  · rw [if_pos hp] at h
    obtain ⟨hpl, li, l1, l2⟩ := hp
    refine jt H0 Hf H env σ _ S.gr.sub S.env ?_
    cases ed : d env with
    | bad => rw [ed] at h; exact h.elim
    | er c fs => rw [ed] at h; exact h.elim
    | ok p =>
      rw [ed] at h
      simp only at h
      intro v Hf1 H1 gr1 r1
      refine ⟨Nat.zero_le _, fun b1 nb1 => ⟨Nat.zero_le _, fun b2 nb2 => ⟨(by decide : 3 ≤ sizeLine), fun a na => ?_⟩⟩⟩
      obtain ⟨t', pt', jt'⟩ := hr b1 b2
      refine ⟨some (.ref b1), some (.ref b2), t', pt', ?_⟩
      have H1b2 : H1 b2 = none := none_back (Same.new nb1) nb2
      have ne12 : b1 ≠ b2 := fun z => by rw [← z, upd_same] at nb2; cases nb2
      have nea2 : a ≠ b2 := fun z => by rw [z, upd_same] at na; cases na
      have na' : upd H1 b1 (.lst []) a = none := none_back (Same.new nb2) na
      have nea1 : a ≠ b1 := fun z => by rw [z, upd_same] at na'; cases na'
      have sub2 : Same Hf1 (upd (upd H1 b1 (.lst [])) b2 (.lst [])) := (gr1.sub.trans (Same.new nb1)).trans (Same.new nb2)
      have f1 : Hf1 b1 = none := none_back gr1.sub nb1
      have f2 : Hf1 b2 = none := none_back gr1.sub H1b2
      have g4 : Gr Hf1 H1 (upd Hf1 a (.lst [v, .ref b1, .ref b2])) (upd (upd (upd H1 b1 (.lst [])) b2 (.lst [])) a (.lst [v, .ref b1, .ref b2])) :=
        (Gr.up gr1.sub ((Same.new nb1).trans (Same.new nb2))).trans (Gr.one sub2 na)
      have S1 := S.grow gr1
      have S4 := S1.grow g4
      have E1 : EnvOk { G with sa := some b1, sb := some b2 } H0 _ _ env σ := S4.env.pl rfl hpl
      have own1 : ∀ (j : Nat) (c : Addr), (env.at j).isOwn = true → σ[j]? = some (some (.ref c)) → H1 c ≠ none := fun j c hj ej z => by
        obtain ⟨a', o, ea, ho⟩ := own_at S1.env hj ej
        cases ea
        rw [z] at ho
        cases ho
      have h0 : ∀ c, H1 c = none → H0 c = none := fun c hc => none_back S1.gr.hp hc
      have E2 := E1.set (i := i) (s := .par [.inl p, .inr false, .inr true]) (v := .ref a) ⟨a, rfl, _, upd_same, .val (r1.mono g4.fz) (.ka rfl (.kb rfl .nil))⟩ fun z => nomatch z
      have at2 : ∀ j, (Env.at (env.set i (.par [.inl p, .inr false, .inr true])) j).isOwn = true → j ≠ i ∧ (env.at j).isOwn = true := fun j hj => by
        rw [Env.at_set] at hj
        by_cases z : i = j ∧ j < env.length
        · rw [if_pos z] at hj; cases hj
        · rw [if_neg z] at hj
          refine ⟨fun w => ?_, hj⟩
          subst w
          exact z ⟨rfl, li⟩
      have E3 := E2.set (i := g1) (s := .iol []) (v := .ref b1) ⟨b1, [], rfl, fun b hb => Option.some.inj hb, h0 _ nb1, by rw [upd_ne (Ne.symm nea1)]; exact f1, upd_some na (upd_some nb2 upd_same), .nil⟩ fun _ j hj oj ej => by
        obtain ⟨ji, oj'⟩ := at2 j oj
        rw [List.getElem?_set, if_neg (Ne.symm ji)] at ej
        exact own1 j b1 oj' ej nb1
      have E4 := E3.set (i := g2) (s := .io2 []) (v := .ref b2) ⟨b2, [], rfl, fun b hb => Option.some.inj hb, h0 _ H1b2, by rw [upd_ne (Ne.symm nea2)]; exact f2, upd_some na upd_same, .nil⟩ fun _ j hj oj ej => by
        by_cases jg : j = g1
        · subst jg
          rw [List.getElem?_set, if_pos rfl] at ej
          split at ej
          · exact ne12 (by cases ej; rfl)
          · cases ej
        · rw [Env.at_set, if_neg (fun z => jg z.1.symm)] at oj
          obtain ⟨ji, oj'⟩ := at2 j oj
          rw [List.getElem?_set, if_neg (Ne.symm jg), List.getElem?_set, if_neg (Ne.symm ji)] at ej
          exact own1 j b2 oj' ej H1b2
      refine jt' Hf0 H0 _ _ (parE i g1 g2 p env) _ D ⟨S4.gr, E4⟩ ?_
      cases ef : f (parE i g1 g2 p env) with
      | rt q =>
        rw [ef] at h
        exact fun v' Hf' H' g s r => h v' Hf' H' g ((gr1.fz.trans g4.fz).trans s) r
      | nx e' => rw [ef] at h; exact h.elim
      | er e' c fs => rw [ef] at h; exact h.elim
      | bk e' => rw [ef] at h; exact h.elim
      | ct e' => rw [ef] at h; exact h.elim
      | bad => rw [ef] at h; exact h.elim
  · rw [if_neg hp] at h
    exact h.elim
end
end J

namespace J
open PySem.Spec PySem PyProof.Rows
open L2 hiding St Takes XE CX takes_of PMk MkP ps_raise mk_of ps_try_as ps_try_many pmk_own passAt passes_call takes0 passL
open L2N hiding St
theorem Kids.length {G : Gb} {sa sb : Option Addr} {Hf : Hp} {l : List (PV ⊕ Bool)} {vs : List V} (h : Kids G sa sb Hf l vs) : l.length = vs.length := by
  induction h with
  | nil => rfl
  | val _ _ ih => simp [ih]
  | ka _ _ ih => simp [ih]
  | kb _ _ ih => simp [ih]
theorem Kids.get {G : Gb} {sa sb : Option Addr} {Hf : Hp} {l : List (PV ⊕ Bool)} {vs : List V} (h : Kids G sa sb Hf l vs) : ∀ {k : Nat} {s : Bool}, l[k]? = some (.inr s) → ∃ b, (bif s then sb else sa) = some b ∧ vs[k]? = some (.ref b) := by
  induction h with
  | nil => intro k s e; cases e
  | val r _ ih =>
    intro k s e
    cases k with
    | zero => cases e
    | succ k => exact ih (k := k) e
  | ka z _ ih =>
    intro k s e
    cases k with
    | zero => cases e; exact ⟨_, z, rfl⟩
    | succ k => exact ih (k := k) e
  | kb z _ ih =>
    intro k s e
    cases k with
    | zero => cases e; exact ⟨_, z, rfl⟩
    | succ k => exact ih (k := k) e
section
variable {G : Ga} {X : Cx} {W : WX} {Hf0 H0 Hf H Hf' H' : Hp} {env : Env} {σ : L2.St} {sts : List Stmt} {e : Expr} {d : Env → R PV} {f : Env → F} {x n1 n2 : Str} {pos p0 p1 p2 p3 q1 q2 q3 : Pos}
end
end J

namespace J
open PySem.Spec PySem PyProof.Rows
open L2 hiding St Takes XE CX takes_of PMk MkP ps_raise mk_of ps_try_as ps_try_many pmk_own passAt passes_call takes0 passL
open L2N hiding St
section
variable {G : Ga} {X : Cx} {W : WX} {Hf0 H0 Hf H Hf' H' : Hp} {env : Env} {σ : L2.St} {sts : List Stmt} {e e2 : Expr} {d d2 : Env → R PV} {f : Env → F} {x n1 n2 : Str} {pos p1 p2 p3 q1 q2 q3 : Pos}
end
end J

namespace J
open PySem.Spec PySem PyProof.Rows
open L2 hiding St Takes XE CX takes_of PMk MkP ps_raise mk_of ps_try_as ps_try_many pmk_own passAt passes_call takes0 passL
open L2N hiding St
open Bp (takes0 passL OpS R2S IsI)
section
variable {G : Ga} {X : Cx} {W : WX} {H0 Hf H : Hp} {env : Env} {σ : L2.St} {i : Nat} {e : Expr} {d : Env → R Bool}
end
end J

namespace J
open PySem.Spec PySem PyProof.Rows
open L2 hiding St Takes XE CX takes_of PMk MkP ps_raise mk_of ps_try_as ps_try_many pmk_own passAt passes_call takes0 passL
open L2N hiding St
open Bp (takes0 passL OpS R2S IsI)
def cat_BestError_e : Nat → Option Bool := fun c => match c with | 3 => some true | 2 => some true | 4 => some true | 6 => some true | 7 => some true | 8 => some true | 9 => some true | 10 => some true | 11 => some true | 12 => some true | 13 => some true | 14 => some true | 15 => some true | _ => none
def xt_is_ValueError_e : Nat → Option Bool := fun c => match c with | 3 => some true | 2 => some true | 4 => some true | 6 => some true | 7 => some true | 8 => some true | 9 => some true | 10 => some true | 11 => some true | 12 => some true | 13 => some true | 14 => some true | 15 => some true | _ => none
def xt_is_BadName_e : Nat → Option Bool := fun c => match c with | 3 => some false | 2 => some false | 4 => some false | 6 => some true | 7 => some false | 8 => some false | 9 => some false | 10 => some false | 11 => some false | 12 => some false | 13 => some false | 14 => some false | 15 => some false | _ => none
def xt_is_NoEnd_e : Nat → Option Bool := fun c => match c with | 3 => some false | 2 => some false | 4 => some false | 6 => some false | 7 => some true | 8 => some false | 9 => some false | 10 => some false | 11 => some false | 12 => some false | 13 => some false | 14 => some false | 15 => some false | _ => none
def xt_is_Crossed_e : Nat → Option Bool := fun c => match c with | 3 => some false | 2 => some false | 4 => some false | 6 => some false | 7 => some false | 8 => some true | 9 => some false | 10 => some false | 11 => some false | 12 => some false | 13 => some false | 14 => some false | 15 => some false | _ => none
def xt_is_NotWhole_e : Nat → Option Bool := fun c => match c with | 3 => some false | 2 => some false | 4 => some false | 6 => some false | 7 => some false | 8 => some false | 9 => some true | 10 => some false | 11 => some false | 12 => some false | 13 => some false | 14 => some false | 15 => some false | _ => none
def xt_is_BadPull_e : Nat → Option Bool := fun c => match c with | 3 => some false | 2 => some false | 4 => some false | 6 => some false | 7 => some false | 8 => some false | 9 => some false | 10 => some true | 11 => some false | 12 => some false | 13 => some false | 14 => some false | 15 => some false | _ => none
def xt_is_BadSense_e : Nat → Option Bool := fun c => match c with | 3 => some false | 2 => some false | 4 => some false | 6 => some false | 7 => some false | 8 => some false | 9 => some false | 10 => some false | 11 => some true | 12 => some false | 13 => some false | 14 => some false | 15 => some false | _ => none
def xt_is_BadCount_e : Nat → Option Bool := fun c => match c with | 3 => some false | 2 => some false | 4 => some true | 6 => some false | 7 => some false | 8 => some false | 9 => some false | 10 => some false | 11 => some false | 12 => some false | 13 => some false | 14 => some false | 15 => some false | _ => none
def xt_is_SameName_e : Nat → Option Bool := fun c => match c with | 3 => some false | 2 => some false | 4 => some false | 6 => some false | 7 => some false | 8 => some false | 9 => some false | 10 => some false | 11 => some false | 12 => some true | 13 => some false | 14 => some false | 15 => some false | _ => none
def xt_is_TooWide_e : Nat → Option Bool := fun c => match c with | 3 => some false | 2 => some false | 4 => some false | 6 => some false | 7 => some false | 8 => some false | 9 => some false | 10 => some false | 11 => some false | 12 => some false | 13 => some true | 14 => some false | 15 => some false | _ => none
def xt_is_WrongWidth_e : Nat → Option Bool := fun c => match c with | 3 => some false | 2 => some false | 4 => some false | 6 => some false | 7 => some false | 8 => some false | 9 => some false | 10 => some false | 11 => some false | 12 => some false | 13 => some false | 14 => some true | 15 => some false | _ => none
def xt_is_NoName_e : Nat → Option Bool := fun c => match c with | 3 => some false | 2 => some false | 4 => some false | 6 => some false | 7 => some false | 8 => some false | 9 => some false | 10 => some false | 11 => some false | 12 => some false | 13 => some false | 14 => some false | 15 => some true | _ => none
noncomputable def p_law_text_of : Env → F := (seqF (iteF (toB (un1 (isiP it_str) (rdV 0)))
  (retF (rdV 0))
  nextF)
  (retF (fun _ => .ok .non)))
noncomputable def f_law_text_of : List PV → R PV := fnJ 1 1 p_law_text_of
noncomputable def p_law_number_of : Env → F := (seqF (iteF (andT (toB (un1 (isiP it_int) (rdV 0))) (notT (toB (un1 (isiP it_bool) (rdV 0)))))
  (retF (rdV 0))
  nextF)
  (retF (fun _ => .ok .non)))
noncomputable def f_law_number_of : List PV → R PV := fnJ 1 1 p_law_number_of
noncomputable def p_law_found : Env → F := (seqF (ownF 1)
  (seqF (iteF (toB (isxP xt_is_BadName_e 0))
  (appF 1 (tupE (argsC (fun _ => .ok (.str "BadName")) (argsC (callE f_law_text_of (argsC (fldx [6, 7, 8, 9, 10, 12, 15] "name" 0) args0)) args0))))
  nextF)
  (seqF (iteF (toB (isxP xt_is_NoEnd_e 0))
  (appF 1 (tupE (argsC (fun _ => .ok (.str "NoEnd")) (argsC (callE f_law_text_of (argsC (fldx [6, 7, 8, 9, 10, 12, 15] "name" 0) args0)) args0))))
  nextF)
  (seqF (iteF (toB (isxP xt_is_Crossed_e 0))
  (appF 1 (tupE (argsC (fun _ => .ok (.str "Crossed")) (argsC (callE f_law_text_of (argsC (fldx [6, 7, 8, 9, 10, 12, 15] "name" 0) args0)) args0))))
  nextF)
  (seqF (iteF (toB (isxP xt_is_NotWhole_e 0))
  (appF 1 (tupE (argsC (fun _ => .ok (.str "NotWhole")) (argsC (callE f_law_text_of (argsC (fldx [6, 7, 8, 9, 10, 12, 15] "name" 0) args0)) args0))))
  nextF)
  (seqF (iteF (toB (isxP xt_is_BadPull_e 0))
  (appF 1 (tupE (argsC (fun _ => .ok (.str "BadPull")) (argsC (callE f_law_text_of (argsC (fldx [6, 7, 8, 9, 10, 12, 15] "name" 0) args0)) args0))))
  nextF)
  (seqF (iteF (toB (isxP xt_is_BadSense_e 0))
  (appF 1 (tupE (argsC (fun _ => .ok (.str "BadSense")) (argsC (callE f_law_text_of (argsC (fldx [11] "sense" 0) args0)) args0))))
  nextF)
  (seqF (iteF (toB (isxP xt_is_BadCount_e 0))
  (appF 1 (tupE (argsC (fun _ => .ok (.str "BadCount")) (argsC (callE f_law_text_of (argsC (fldx [4] "what" 0) args0)) (argsC (callE f_law_number_of (argsC (fldx [4, 13] "many" 0) args0)) args0)))))
  nextF)
  (seqF (iteF (toB (isxP xt_is_SameName_e 0))
  (appF 1 (tupE (argsC (fun _ => .ok (.str "SameName")) (argsC (callE f_law_text_of (argsC (fldx [6, 7, 8, 9, 10, 12, 15] "name" 0) args0)) args0))))
  nextF)
  (seqF (iteF (toB (isxP xt_is_TooWide_e 0))
  (appF 1 (tupE (argsC (fun _ => .ok (.str "TooWide")) (argsC (callE f_law_number_of (argsC (fldx [13] "width" 0) args0)) (argsC (callE f_law_number_of (argsC (fldx [4, 13] "many" 0) args0)) args0)))))
  nextF)
  (seqF (iteF (toB (isxP xt_is_WrongWidth_e 0))
  (appF 1 (tupE (argsC (fun _ => .ok (.str "WrongWidth")) (argsC (callE f_law_number_of (argsC (fldx [14] "have" 0) args0)) (argsC (callE f_law_number_of (argsC (fldx [14] "need" 0) args0)) args0)))))
  nextF)
  (seqF (iteF (toB (isxP xt_is_NoName_e 0))
  (appF 1 (tupE (argsC (fun _ => .ok (.str "NoName")) (argsC (callE f_law_text_of (argsC (fldx [6, 7, 8, 9, 10, 12, 15] "name" 0) args0)) args0))))
  nextF)
  (fun env => (retF (rdV 1)) (frz 1 env))))))))))))))
noncomputable def fx_law_found : Nat → List (Str × PV) → List PV → R PV := fnEx 1 2 p_law_found
end J

namespace J
open PySem.Spec PySem
open Bp (Sm)
open SX (S)
theorem found_name6 (x : Str) : fx_law_found 6 [("name", .str x)] [] = .ok (.lst [.tup [.str "BadName", .str x]]) := by rfl
theorem found_name7 (x : Str) : fx_law_found 7 [("name", .str x)] [] = .ok (.lst [.tup [.str "NoEnd", .str x]]) := by rfl
theorem found_name8 (x : Str) : fx_law_found 8 [("name", .str x)] [] = .ok (.lst [.tup [.str "Crossed", .str x]]) := by rfl
theorem found_name9 (x : Str) : fx_law_found 9 [("name", .str x)] [] = .ok (.lst [.tup [.str "NotWhole", .str x]]) := by rfl
theorem found_name10 (x : Str) : fx_law_found 10 [("name", .str x)] [] = .ok (.lst [.tup [.str "BadPull", .str x]]) := by rfl
theorem found_sense (x : Str) : fx_law_found 11 [("sense", .str x)] [] = .ok (.lst [.tup [.str "BadSense", .str x]]) := by rfl
theorem found_same (x : Str) : fx_law_found 12 [("name", .str x)] [] = .ok (.lst [.tup [.str "SameName", .str x]]) := by rfl
end J

namespace J
open PySem.Spec PySem
open Bp (Sm)
open SX (S)
inductive Er5 where
  | badName (x : Str)
  | noEnd (x : Str)
  | crossed (x : Str)
  | notWhole (x : Str)
  | badPull (x : Str)
  | badSense (x : Str)
  | badCount (x : Str) (n : Int)
  | same (x : Str)
  | wide (m n : Int)
  | width (m n : Int)
def Er5.c : Er5 → Nat
  | badName _ => 6
  | noEnd _ => 7
  | crossed _ => 8
  | notWhole _ => 9
  | badPull _ => 10
  | badSense _ => 11
  | badCount _ _ => 4
  | same _ => 12
  | wide _ _ => 13
  | width _ _ => 14
def Er5.fs : Er5 → List (Str × PV)
  | badName x => [("name", .str x)]
  | noEnd x => [("name", .str x)]
  | crossed x => [("name", .str x)]
  | notWhole x => [("name", .str x)]
  | badPull x => [("name", .str x)]
  | badSense x => [("sense", .str x)]
  | badCount x n => [("many", .int n), ("what", .str x)]
  | same x => [("name", .str x)]
  | wide m n => [("many", .int n), ("width", .int m)]
  | width m n => [("need", .int n), ("have", .int m)]
def Er5.pv : Er5 → PV
  | badName x => .tup [.str "BadName", .str x]
  | noEnd x => .tup [.str "NoEnd", .str x]
  | crossed x => .tup [.str "Crossed", .str x]
  | notWhole x => .tup [.str "NotWhole", .str x]
  | badPull x => .tup [.str "BadPull", .str x]
  | badSense x => .tup [.str "BadSense", .str x]
  | badCount x n => .tup [.str "BadCount", .str x, .int n]
  | same x => .tup [.str "SameName", .str x]
  | wide m n => .tup [.str "TooWide", .int m, .int n]
  | width m n => .tup [.str "WrongWidth", .int m, .int n]
def Er5.opv : Option Er5 → PV
  | none => .non
  | some e => e.pv
theorem found_count2 (x : Str) (n : Int) : fx_law_found 4 [("many", .int n), ("what", .str x)] [] = .ok (.lst [.tup [.str "BadCount", .str x, .int n]]) := by rfl
theorem found_wide2 (m n : Int) : fx_law_found 13 [("many", .int n), ("width", .int m)] [] = .ok (.lst [.tup [.str "TooWide", .int m, .int n]]) := by rfl
theorem found_width2 (m n : Int) : fx_law_found 14 [("need", .int n), ("have", .int m)] [] = .ok (.lst [.tup [.str "WrongWidth", .int m, .int n]]) := by rfl
theorem Er5.found (e : Er5) : fx_law_found e.c e.fs [] = .ok (.lst [e.pv]) := by
  cases e with
  | badName x => exact found_name6 x
  | noEnd x => exact found_name7 x
  | crossed x => exact found_name8 x
  | notWhole x => exact found_name9 x
  | badPull x => exact found_name10 x
  | badSense x => exact found_sense x
  | badCount x n => exact found_count2 x n
  | same x => exact found_same x
  | wide m n => exact found_wide2 m n
  | width m n => exact found_width2 m n
theorem Er5.cat (e : Er5) : cat_BestError_e e.c = some true := by cases e <;> rfl
theorem Er5.val (e : Er5) : xt_is_ValueError_e e.c = some true := by cases e <;> rfl
abbrev sOk (x : Str) : Prop := PySem.PyData.strOk x = true
def Er5.Ok : Er5 → Prop
  | badName x => sOk x
  | noEnd x => sOk x
  | crossed x => sOk x
  | notWhole x => sOk x
  | badPull x => sOk x
  | badSense x => sOk x
  | badCount x _ => sOk x
  | same x => sOk x
  | wide _ _ => True
  | width _ _ => True
theorem names_ok : ∀ s ∈ (["BadName", "NoEnd", "Crossed", "NotWhole", "BadPull", "BadSense", "BadCount", "SameName", "TooWide", "WrongWidth", "coefficients", "variables", "rows", "aims"] : List Str), sOk s := by decide +kernel
theorem sok {s : Str} (h : s ∈ (["BadName", "NoEnd", "Crossed", "NotWhole", "BadPull", "BadSense", "BadCount", "SameName", "TooWide", "WrongWidth", "coefficients", "variables", "rows", "aims"] : List Str)) : sOk s := names_ok s h
theorem eqA_same {p : PV} {d : PySem.PyData} (h : toD p = some d) (hs : PySem.SeqAt.shaped d = true) (he : d.eqv d = true) : J.eqA p p = .ok (.bl true) := by
  unfold J.eqA
  rw [h]
  simp only
  rw [hs, he]
  rfl
theorem eqA_pair {a x : Str} (ha : sOk a) (hx : sOk x) : J.eqA (.lst [.tup [.str a, .str x]]) (.lst [.tup [.str a, .str x]]) = .ok (.bl true) := by
  refine eqA_same (d := .list [.tuple [.str a, .str x]]) (by simp [toD, toDs]) ?_ (by simp [PySem.PyData.eqv, PySem.PyData.eqvAll])
  simp [PySem.SeqAt.shaped, PySem.PyData.canLay0, PySem.PyData.canLayAll0, PySem.PyData.depth, PySem.PyData.depthAll, ha, hx]
theorem eqA_t1 {a x : Str} (n : Int) (ha : sOk a) (hx : sOk x) : J.eqA (.lst [.tup [.str a, .str x, .int n]]) (.lst [.tup [.str a, .str x, .int n]]) = .ok (.bl true) := by
  refine eqA_same (d := .list [.tuple [.str a, .str x, .int n]]) (by simp [toD, toDs]) ?_ (by simp [PySem.PyData.eqv, PySem.PyData.eqvAll])
  simp [PySem.SeqAt.shaped, PySem.PyData.canLay0, PySem.PyData.canLayAll0, PySem.PyData.depth, PySem.PyData.depthAll, ha, hx]
theorem eqA_t2 {a : Str} (m n : Int) (ha : sOk a) : J.eqA (.lst [.tup [.str a, .int m, .int n]]) (.lst [.tup [.str a, .int m, .int n]]) = .ok (.bl true) := by
  refine eqA_same (d := .list [.tuple [.str a, .int m, .int n]]) (by simp [toD, toDs]) ?_ (by simp [PySem.PyData.eqv, PySem.PyData.eqvAll])
  simp [PySem.SeqAt.shaped, PySem.PyData.canLay0, PySem.PyData.canLayAll0, PySem.PyData.depth, PySem.PyData.depthAll, ha]
theorem Er5.eqA {e : Er5} (h : e.Ok) : J.eqA (.lst [e.pv]) (.lst [e.pv]) = .ok (.bl true) := by
  cases e with
  | badName x => exact eqA_pair (sok (by simp)) h
  | noEnd x => exact eqA_pair (sok (by simp)) h
  | crossed x => exact eqA_pair (sok (by simp)) h
  | notWhole x => exact eqA_pair (sok (by simp)) h
  | badPull x => exact eqA_pair (sok (by simp)) h
  | badSense x => exact eqA_pair (sok (by simp)) h
  | badCount x n => exact eqA_t1 n (sok (by simp)) h
  | same x => exact eqA_pair (sok (by simp)) h
  | wide m n => exact eqA_t2 m n (sok (by simp))
  | width m n => exact eqA_t2 m n (sok (by simp))
theorem ne_of_eqA {a b : PV} {x : Bool} (h : J.eqA a b = .ok (.bl x)) : J.neA a b = .ok (.bl (!x)) := by
  unfold J.eqA at h
  unfold J.neA
  split at h
  · rename_i d e h1 h2
    by_cases z : (PySem.SeqAt.shaped d && PySem.SeqAt.shaped e) = true
    · rw [if_pos z] at h ⊢
      cases h
      rfl
    · rw [if_neg z] at h; cases h
  · cases h
theorem Er5.neA {e : Er5} (h : e.Ok) : J.neA (.lst [e.pv]) (.lst [e.pv]) = .ok (.bl false) := ne_of_eqA (Er5.eqA h)
theorem An.tryN {cat : Nat → Option Bool} {i : Nat} {fb fs k : Env → F} {e e' : Env} {r : R PV} (h1 : fb e = .nx e') (h2 : Ans (k e') r) : Ans (seqF (tryF cat i fb fs) k e) r :=
  An.to (by unfold tryF; rw [h1]) h2
end J

namespace J
open PySem.Spec PySem
open Bp (Sm)
open SX (S)
def A7 (x : List Nat) : Prop := ∀ c ∈ x, c < 128
theorem A7.app {x y : List Nat} (h : A7 x) (k : A7 y) : A7 (x ++ y) := fun c hc => (List.mem_append.mp hc).elim (h c) (k c)
theorem A7.take {x : List Nat} (h : A7 x) (n : Nat) : A7 (x.take n) := fun c hc => h c (List.mem_of_mem_take hc)
theorem A7.drop {x : List Nat} (h : A7 x) (n : Nat) : A7 (x.drop n) := fun c hc => h c (List.mem_of_mem_drop hc)
theorem up_lt : ∀ c < 128, PyProof.Rows.up1 c < 128 := by decide +kernel
theorem A7.up {x : List Nat} (h : A7 x) : A7 (x.map PyProof.Rows.up1) := fun c hc => by
  obtain ⟨d, hd, rfl⟩ := List.mem_map.mp hc
  exact up_lt d (h d hd)
theorem A7.sub {x y : List Nat} (h : A7 x) (k : ∀ c ∈ y, c ∈ x) : A7 y := fun c hc => h c (k c hc)
theorem A7.ok {x : List Nat} (h : A7 x) : sOk (S x) := by
  show PySem.PyData.strOk (S x) = true
  unfold PySem.PyData.strOk
  rw [Array.all_eq_true_iff_forall_mem]
  intro d hd
  exact decide_eq_true (by have := h d (by simpa [S] using hd); omega)
def WordA (f : F) : Prop := ∃ x : List Nat, (x.length ≤ 400 ∧ A7 x) ∧ Ans f (.ok (.str (S x)))
theorem WordA.ite {t : Env → R Bool} {d : Env → R PV} {k : Env → F} {e : Env} {b : Bool} (h : t e = .ok b) (h1 : ∃ x : List Nat, (x.length ≤ 400 ∧ A7 x) ∧ d e = .ok (.str (S x))) (h2 : WordA (k e)) : WordA (seqF (iteF t (retF d) nextF) k e) := by
  cases b with
  | true =>
    obtain ⟨x, h3, h4⟩ := h1
    exact ⟨x, h3, An.iteT h (An.retSO h4)⟩
  | false =>
    obtain ⟨x, h3, h4⟩ := h2
    exact ⟨x, h3, An.iteX h h4⟩
theorem WordA.fn {np nn : Nat} {d : Env → F} {l : List PV} (hl : l.length = np) (h : WordA (d (env0 nn l))) : ∃ x : List Nat, (x.length ≤ 400 ∧ A7 x) ∧ fnJ np nn d l = .ok (.str (S x)) := by
  obtain ⟨x, h1, h2⟩ := h
  exact ⟨x, h1, An.fn hl h2⟩
theorem WordA.set {i : Nat} {d : Env → R PV} {g : Env → F} {e : Env} {p : PV} (h : d e = .ok p) (k : WordA (g (List.set e i (.val p)))) : WordA (seqF (setF i d) g e) := by
  obtain ⟨x, h1, h2⟩ := k
  exact ⟨x, h1, An.set h h2⟩
def near : List Str := ["var1", "rows", "mi", "maxi", "wholes", "u", "down_"]
end J

namespace J
open PySem.Spec PySem
open Bp (Sm)
open SX (S)
noncomputable def nmB (x : List Nat) : Bool := open Classical in decide (ValN x)
end J

namespace J
open PySem.Spec PySem
open Bp (Sm)
open SX (S)
structure Vq (x : List Nat) (v : Vr) : Prop where
  nm : v.name = S x
  len : x.length ≤ 400
  a7 : A7 x
  smL : ∀ a, v.low = some a → Sm 400 a
  smH : ∀ a, v.high = some a → Sm 400 a
def xB : Option Rat → Option Rat → Bool
  | some a, some b => decide (b < a)
  | _, _ => false
def we : Option Rat → Bool
  | some a => decide ((a.den : Int) = 1)
  | none => false
def puB (lo hi : Option Rat) : Option Str → Bool
  | none => true
  | some s => if s = "down" then lo.isSome else decide (s = "up") && hi.isSome
noncomputable def Vr.due (v : Vr) (x : List Nat) : Option Er5 :=
  if nmB x = true then
    if (v.low.isNone && v.high.isNone) = true then some (.noEnd v.name)
    else if xB v.low v.high = true then some (.crossed v.name)
    else if (v.whole && !(we v.low && we v.high)) = true then some (.notWhole v.name)
    else if puB v.low v.high v.pull = true then none
    else some (.badPull v.name)
  else some (.badName v.name)
theorem fnI_er {np nn c c' : Nat} {d : Env → F} {l : List PV} {e : Env} {fs : List (Str × PV)} (hl : l.length + 1 = np) (h : d (.oob c [] :: env0 (nn - 1) l) = .er e c' fs) : fnI np nn c d l = .er c' fs := by
  unfold fnI
  rw [if_pos hl, h]
  rfl
theorem drop_er {d : Env → R PV} {e : Env} {c : Nat} {fs : List (Str × PV)} (h : d e = .er c fs) : dropF d e = .er e c fs := by unfold dropF liftF; rw [h]
theorem seq_er {f g : Env → F} {e e' : Env} {c : Nat} {fs : List (Str × PV)} (h : f e = .er e' c fs) : seqF f g e = .er e' c fs := by unfold seqF; rw [h]
end J

namespace J
open PySem.Spec PySem
open Bp (Sm)
open SX (S)
section
variable {v : Vr} {x : List Nat} {e : Env}
theorem and_yes5 {t u : Env → R Bool} {e : Env} {r : R Bool} (h : t e = .ok true) (k : u e = r) : andT t u e = r := by unfold andT; rw [h]; exact k
end
end J

namespace J
open PySem.Spec PySem
open Bp (Sm)
open SX (S)
end J

namespace J
open PySem.Spec PySem
open Bp (Sm)
open SX (S)
def Bq (n : Nat) (o : Option Rat) : Prop := ∀ a, o = some a → Sm n a
theorem Bq.none {n : Nat} : Bq n none := fun _ h => nomatch h
theorem Bq.mono {m n : Nat} {o : Option Rat} (h : Bq m o) (k : m ≤ n) : Bq n o := fun a z => Bp.Sm.mono (h a z) k
def EndsA (r : R (List PV)) : Prop := ∃ lo hi : Option Rat, Bq 400 lo ∧ Bq 400 hi ∧ r = .ok [optQ lo, optQ hi]
theorem EndsA.to {f : Env → F} {g : Env → R (List PV)} {e e' : Env} (h : f e = .nx e') (k : EndsA (g e')) : EndsA (seqO f g e) := by
  obtain ⟨lo, hi, h1, h2, h3⟩ := k
  exact ⟨lo, hi, h1, h2, seqO_to h h3⟩
theorem EndsA.fn {np nn : Nat} {d : Env → R (List PV)} {l : List PV} (hl : l.length = np) (h : EndsA (d (env0 nn l))) : EndsA (fnO np nn d l) := by rw [fnO_eq hl]; exact h
end J

namespace J
open PySem.Spec PySem
open Bp (Sm)
open SX (S)
structure Pm where
  lo : Option Rat
  hi : Option Rat
  x : List Nat
  pl : Option Str
  wh : Bool
structure Pm.Ok (p : Pm) : Prop where
  lo : Bq 400 p.lo
  hi : Bq 400 p.hi
  len : p.x.length ≤ 400 ∧ A7 p.x
abbrev iE (xs : List Int) (a c : Int) (ds : PV) (fa : Int) (p : Pm) : Env := [.val (scr xs), .val (.int a), .val (.int c), .val ds, .val (.int fa), .own [optQ p.lo, optQ p.hi], .val (.str (S p.x)), .val (optS p.pl), .val (.bl p.wh)]
def ItemA (f : F) : Prop := ∃ (x : List Nat) (v : Vr), Vq x v ∧ Ans f (.ok v.pv)
theorem ItemA.to {f g : Env → F} {e e' : Env} (h : f e = .nx e') (k : ItemA (g e')) : ItemA (seqF f g e) := by
  obtain ⟨x, v, h1, h2⟩ := k
  exact ⟨x, v, h1, An.to h h2⟩
theorem ItemA.fn {np nn : Nat} {d : Env → F} {l : List PV} (hl : l.length = np) (h : ItemA (d (env0 nn l))) : ∃ (x : List Nat) (v : Vr), Vq x v ∧ fnJ np nn d l = .ok v.pv := by
  obtain ⟨x, v, h1, h2⟩ := h
  exact ⟨x, v, h1, An.fn hl h2⟩
section
variable {xs : List Int} {a c : Int} {ds : PV} {fa : Int}
theorem ItemA.st {f g : Env → F} {p : Pm} (h : ∃ p' : Pm, p'.Ok ∧ f (iE xs a c ds fa p) = .nx (iE xs a c ds fa p')) (k : ∀ p' : Pm, p'.Ok → ItemA (g (iE xs a c ds fa p'))) : ItemA (seqF f g (iE xs a c ds fa p)) := by
  obtain ⟨p', h1, h2⟩ := h
  exact ItemA.to h2 (k p' h1)
end
end J

namespace J
open PySem.Spec PySem
open Bp (Sm)
open SX (S)
def ExA {α : Type} (P : α → Prop) (w : α → PV) (f : F) : Prop := ∃ a, P a ∧ Ans f (.ok (w a))
section
variable {α β : Type} {P : α → Prop} {w : α → PV} {E : β → Env} {Q : β → Prop}
theorem ExA.to {f g : Env → F} {e e' : Env} (h : f e = .nx e') (k : ExA P w (g e')) : ExA P w (seqF f g e) := by
  obtain ⟨x, h1, h2⟩ := k
  exact ⟨x, h1, An.to h h2⟩
theorem ExA.fn {np nn : Nat} {d : Env → F} {l : List PV} (hl : l.length = np) (h : ExA P w (d (env0 nn l))) : ∃ a, P a ∧ fnJ np nn d l = .ok (w a) := by
  obtain ⟨x, h1, h2⟩ := h
  exact ⟨x, h1, An.fn hl h2⟩
theorem ExA.st (E : β → Env) (Q : β → Prop) {f g : Env → F} {b : β} (h : ∃ b', Q b' ∧ f (E b) = .nx (E b')) (k : ∀ b', Q b' → ExA P w (g (E b'))) : ExA P w (seqF f g (E b)) := by
  obtain ⟨p', h1, h2⟩ := h
  exact ExA.to h2 (k p' h1)
theorem ex_ite {t : Env → R Bool} {f g : Env → F} {e : Env} {b : Bool} (h : t e = .ok b) (kt : b = true → ∃ b', Q b' ∧ f e = .nx (E b')) (kf : b = false → ∃ b', Q b' ∧ g e = .nx (E b')) : ∃ b', Q b' ∧ iteF t f g e = .nx (E b') := by
  cases b with
  | true => obtain ⟨p', h1, h2⟩ := kt rfl; exact ⟨p', h1, ite_t h h2⟩
  | false => obtain ⟨p', h1, h2⟩ := kf rfl; exact ⟨p', h1, ite_n h h2⟩
end
structure Rq (x : List Nat) (r : Rw) : Prop where
  nm : r.name = S x
  xl : x.length ≤ 400
  a7 : A7 x
  s7 : sOk r.sense
  len : r.co.length ≤ 20
  sm : ∀ q ∈ r.co, Sm 44 q
  right : Sm 44 r.right
structure RP where
  x : List Nat
  n : Nat
  s : Str
structure RP.Ok (p : RP) : Prop where
  x : p.x.length ≤ 400 ∧ A7 p.x
  s : sOk p.s
  n : p.n ≤ 20
structure Aq (r : Am) : Prop where
  s7 : sOk r.sense
  len : r.co.length ≤ 20
  sm : ∀ q ∈ r.co, Sm 44 q
  con : Sm 44 r.con
structure AP where
  n : Nat
  s : Str
def AP.Ok (p : AP) : Prop := sOk p.s ∧ p.n ≤ 20
end J

namespace J
open PySem.Spec PySem
open Bp (Sm)
open SX (S)
theorem count_er {w : Str} {n lo hi : Int} (h : ¬ (lo ≤ n ∧ n ≤ hi)) : f_check_count [.str w, .int n, .int lo, .int hi] = .er 4 [("many", .int n), ("what", .str w)] := by
  unfold f_check_count p_check_count
  refine An.fn rfl ?_
  simp only [env0, List.length_cons, List.length_nil, List.map_cons, List.map_nil, List.cons_append, List.nil_append, List.replicate, Nat.reduceAdd, Nat.reduceSub]
  have c1 : toB (bin2 ltI (rdV 1) (rdV 2)) [.val (.str w), .val (.int n), .val (.int lo), .val (.int hi)] = .ok (decide (n < lo)) := toB_ok (bin_ok (rd_ok rfl) (rd_ok rfl) (ltI_int _ _))
  have c2 : toB (bin2 gtI (rdV 1) (rdV 3)) [.val (.str w), .val (.int n), .val (.int lo), .val (.int hi)] = .ok (decide (n > hi)) := toB_ok (bin_ok (rd_ok rfl) (rd_ok rfl) (gtI_int _ _))
  refine An.er (ite_t ((orT_is c1 c2).trans ?_) (raise2 (rd_ok rfl) (rd_ok rfl)))
  by_cases z : n < lo
  · rw [decide_eq_true z]; rfl
  · rw [decide_eq_true (show n > hi by omega), Bool.or_true]
def cntB (n : Nat) : Bool := decide (1 ≤ n) && decide (n ≤ 16)
noncomputable def Rw.due (r : Rw) (x : List Nat) : Option Er5 :=
  if nmB x = true then
    if cntB r.co.length = true then (if r.sense ∈ senses then none else some (.badSense r.sense))
    else some (.badCount "coefficients" r.co.length)
  else some (.badName r.name)
def Am.due (a : Am) : Option Er5 :=
  if a.sense ∈ ways then (if cntB a.co.length = true then none else some (.badCount "coefficients" a.co.length))
  else some (.badSense a.sense)
end J

namespace J
open PySem.Spec PySem
open Bp (Sm)
open SX (S)
end J

namespace J
open PySem.Spec PySem
open Bp (Sm)
open SX (S)
theorem ixO_at {i k : Nat} {d : Env → R PV} {e : Env} {l : List PV} {p : PV} (ho : Env.at e i = .own l) (hd : d e = .ok (.int k)) (h : l[k]? = some p) : ixO i d e = .ok p := by
  have hk : k < l.length := by
    rcases Nat.lt_or_ge k l.length with q | q
    · exact q
    · rw [List.getElem?_eq_none q] at h; cases h
  unfold ixO
  rw [ho]
  simp only [hd, R.bind_ok]
  have e : L2.atI l (k : Int) = some p := by
    unfold L2.atI L2.ixN
    rw [if_pos (by omega), if_pos (by simpa using hk)]
    simpa using h
  rw [e]
theorem setI_at {i k : Nat} {dk d : Env → R PV} {e : Env} {l : List PV} {p : PV} (ho : Env.at e i = .own l) (hd : dk e = .ok (.int k)) (h : d e = .ok p) (hk : k < l.length) : setI i dk d e = .nx (List.set e i (.own (l.set k p))) := by
  have := setI_ok (i := i) (k := k) (d := d) ho h hk
  unfold setI at this ⊢
  rw [ho] at this ⊢
  simp only [hd] at this ⊢
  exact this
abbrev Nm (s : Str) : Prop := ∃ x, s = S x ∧ ValN x
structure NB where
  L : List Str
  o : Sl
def NB.Ok (n : Nat) (b : NB) : Prop := b.L.length = n ∧ ∀ s ∈ b.L, Nm s
theorem rngL_range' (n : Nat) : rngL 0 n = (List.range' 0 n).map fun (i : Nat) => PV.int i := by
  rw [rng_map, List.range_eq_range']
end J

namespace J
open PySem.Spec PySem
open Bp (Sm)
open SX (S)
def Wid (l : List Int) : Prop := l.length ≤ 11 ∧ ∀ z ∈ l, 0 ≤ z ∧ z ≤ 10 ^ 11
instance (l : List Int) : Decidable (Wid l) := inferInstanceAs (Decidable (_ ∧ _))
def v4 (v : Vr) : PV := .tup [.str v.name, optQ v.low, optQ v.high, .bl v.whole]
structure Vp (v : Vr) : Prop where
  ok : v.Ok
  nm : Nm v.name
  pl : v.pull = none
  wd : v.wd ≤ 10 ^ 11
  e4 : v.whole = true → ∃ a b : Int, v.low = some (a : Rat) ∧ v.high = some (b : Rat) ∧ a.natAbs ≤ 10 ^ 12 ∧ b.natAbs ≤ 10 ^ 12
end J

namespace J
open PySem.Spec PySem
open Bp (Sm)
open SX (S)
theorem rt_any {f : F} {p : PV} (h : Ans f (.ok p)) (hp : p ≠ .non) : f = .rt p := by
  unfold Ans at h
  cases f with
  | rt q => cases h; rfl
  | nx e => exact absurd (by cases h; rfl) hp
  | ct e => cases h
  | bk e => cases h
  | er e c fs => cases h
  | bad => cases h
theorem An.par {i g1 g2 : Nat} {d : Env → R PV} {f : Env → F} {e : Env} {p w : PV} (h : plE e = true ∧ i < e.length ∧ g1 < e.length ∧ g2 < e.length) (hd : d e = .ok p) (hw : w ≠ .non) (k : Ans (f (parE i g1 g2 p e)) (.ok w)) : Ans (parF i g1 g2 d f e) (.ok w) := by
  unfold parF
  rw [if_pos h, hd]
  simp only
  rw [rt_any k hw]
  rfl
structure Rp (r : Rw) : Prop where
  nm : Nm r.name
  l1 : 1 ≤ r.co.length
  l16 : r.co.length ≤ 16
  sm : ∀ q ∈ r.co, Sm 44 q
  sense : r.sense ∈ senses
  right : ∃ k : Nat, k ≤ 100 ∧ r.right = ((k : Int) : Rat)
structure Ap (a : Am) : Prop where
  l1 : 1 ≤ a.co.length
  l16 : a.co.length ≤ 16
  sm : ∀ q ∈ a.co, Sm 44 q
  sense : a.sense ∈ ways
  con : ∃ k : Nat, k ≤ 100 ∧ a.con = ((k : Int) : Rat)
structure Pq where
  vs : List Vr
  rs : List Rw
  am : List Am
def Pq.pv (q : Pq) : PV := .lst [.lst (q.vs.map v4), .lst (q.rs.map Rw.pv), .lst (q.am.map Am.pv)]
structure Pq.Ok (q : Pq) : Prop where
  n : q.vs.length ≤ 25
  m : q.rs.length ≤ 20
  a : q.am.length ≤ 10
  vs : ∀ v ∈ q.vs, Vp v
  rs : ∀ r ∈ q.rs, Rp r
  am : ∀ a ∈ q.am, Ap a
abbrev iv (n : Int) : Sl := .val (.int n)
structure LP where
  xs : List Int
  m : Nat
  ws : PV
  r : Nat
  a : Nat
  L : List Str
  q : Nat
  o : Nat
  w0 : Int
  w1 : Int
  w2 : Int
  w3 : Int
  p : PV
  dg : PV
structure LP.Ok (z : LP) : Prop where
  m : z.m ≤ 25
  r : z.r ≤ 20
  a : z.a ≤ 10
  L : z.L.length = z.m + z.r
  N : ∀ s ∈ z.L, Nm s
  q : 1 ≤ z.q ∧ z.q ≤ 16
  o : 1 ≤ z.o ∧ z.o ≤ 16
abbrev LP.E (z : LP) (k s c n se : Sl) (rs : List Rw) (am : List Am) : Env := [.val (scr z.xs), .val z.dg, iv z.m, .val z.ws, iv z.r, iv z.a, .val (.lst (z.L.map .str)), iv z.q, iv z.o, .val (.lst (([z.w0, z.w1, z.w2, z.w3] : List Int).map .int)), .par [.inl z.p, .inr false, .inr true], k, s, c, n, se, .iol (rs.map Rw.pv), .io2 (am.map Am.pv)]
end J

namespace J
open PySem.Spec PySem
open Bp (Sm)
open SX (S)
end J

namespace J
open PySem.Spec PySem
open Bp (Sm)
open SX (S)
def dup : List Str → List Str → Option Str
  | _, [] => none
  | acc, s :: l => if s ∈ acc then some s else dup (acc ++ [s]) l
def dueR (n : Nat) : List Str → List Rw → Option Er5
  | _, [] => none
  | acc, r :: rs => if r.name ∈ acc then some (.same r.name) else if r.co.length = n then dueR n (acc ++ [r.name]) rs else some (.width r.co.length n)
def dueA (n : Nat) : List Am → Option Er5
  | [] => none
  | a :: am => if a.co.length = n then dueA n am else some (.width a.co.length n)
def wideB (vs : List Vr) : Bool := decide (spread vs > 40) || decide (asg vs > 1024)
def dueV (vs : List Vr) : Option Er5 :=
  if cntB vs.length = true then
    match dup [] (vs.map Vr.name) with
    | some s => some (.same s)
    | none => if wideB vs = true then some (.wide (spread vs) (asg vs)) else none
  else some (.badCount "variables" vs.length)
def dueRs (n : Nat) (acc : List Str) (rs : List Rw) : Option Er5 := if rs.length ≤ 16 then dueR n acc rs else some (.badCount "rows" rs.length)
def dueAs (n : Nat) (am : List Am) : Option Er5 := if am.length ≤ 3 then dueA n am else some (.badCount "aims" am.length)
def Pq.due (q : Pq) : Option Er5 := match dueV q.vs with
  | some e => some e
  | none => match dueRs q.vs.length (q.vs.map Vr.name) q.rs with
    | some e => some e
    | none => dueAs q.vs.length q.am
theorem forP_er {bn : Bnd} {body : Env → F} {p : PV} {l : List PV} {e e1 e2 : Env} {c : Nat} {fs : List (Str × PV)} (h1 : bn p e = some e1) (h2 : body e1 = .er e2 c fs) : forP bn body (p :: l) e = .er e2 c fs := by
  rw [forP]
  simp only [h1, h2]
theorem forE_er {ld : Env → R (List PV)} {bn : Bnd} {body : Env → F} {e e2 : Env} {l : List PV} {c : Nat} {fs : List (Str × PV)} (h : ld e = .ok l) (k : forP bn body l e = .er e2 c fs) : forE ld bn body e = .er e2 c fs := by
  unfold forE
  rw [h]
  simp only [k]
theorem pow_big {k : Nat} (h : k ≤ 30) : 2 ^ (40 * k) ≤ 2 ^ 400000 := Nat.pow_le_pow_right (by decide) (by omega)
end J

namespace J
open PySem.Spec PySem
open Bp (Sm)
open SX (S)
def Pq.wd (q : Pq) : Wd := ⟨q.vs, q.rs, q.am⟩
end J

namespace J
open PySem.Spec PySem
open Bp (Sm)
open SX (S)
section
variable {q : Pq} {e : Env}
end
theorem lenL {α : Type} {f : α → PV} {d : Env → R PV} {e : Env} {l : List α} (h : d e = .ok (.lst (l.map f))) : callE lenB (argsC d args0) e = .ok (.int l.length) := call_ok (args1_ok h) (by rw [lenB_lst, List.length_map])
end J

namespace J
open PySem.Spec PySem
open Bp (Sm)
open SX (S)
abbrev pz (q : Pq) (way : Int) (o : Option Er5) (it lo hi nu s3 s7 s9 mk ex wd : Sl) : Env := [.val q.pv, iv way, .val (Er5.opv o), s3, it, lo, hi, s7, nu, s9, .val (.lst [.int q.vs.length, .int q.rs.length, .int q.am.length]), .no, mk, ex, wd]
end J

namespace J
open PySem.Spec PySem PyProof.Rows
open L2 hiding St Takes XE CX takes_of PMk MkP ps_raise mk_of ps_try_as ps_try_many pmk_own passAt passes_call takes0 passL
open L2N hiding St
open Bp (takes0 passL OpS R2S IsI)
section
variable {G : Ga} {X : Cx} {W : WX} {x : Str} {pos p1 p2 p3 : Pos} {b : Expr} {d : Env → R (PV × Env)}
end
section
variable {G : Ga} {X : Cx} {W : WX} {x : Str} {pos p1 : Pos} {b : Expr} {d : Env → R PV} {ys : List (Str × Str)}
end
theorem ofO_ok {d : Env → R (List PV)} {e : Env} {l : List PV} (h : d e = .ok l) : ofO d e = .ok (.lst l) := by unfold ofO; rw [h]
end J

namespace J
open PySem.Spec PySem PyProof.Rows
open L2 hiding St Takes XE CX takes_of PMk MkP ps_raise mk_of ps_try_as ps_try_many pmk_own passAt passes_call takes0 passL
open L2N hiding St
open Bp (takes0 passL OpS R2S IsI)
def spXT (K : PySem.W.Frag) (C : Addr) (n : Str) : Sp := fun vs H Q _ => ∃ (a b : Addr) (ws : List V), vs = [.ref a, .ref b] ∧ H a = some (exo a C none) ∧ SqL K H b ws ∧
  ∀ (t dx : Addr) (H2 : Hp), H t = none → t ≠ dx → H2 a = some (exo a C (some dx)) → H2 dx = some (exd dx [(n, .ref t)]) → H2 t = some (.tup ws) → H dx = none → (∀ b o, b ≠ a → H b = some o → H2 b = some o) → Q .non H2
section
variable {P : Program} {w : World} {K : PySem.W.Frag} {mg : Str → Option Value} {base : Heap} {C : Addr} {n1 q1 qual : Str} {st : Stmt} {f : Addr} {fd : FuncData} {p1 p2 p3 p4 p5 p6 : Pos}
structure EDefT (P : Program) (w : World) (K : PySem.W.Frag) (mg : Str → Option Value) (base : Heap) (k : Nat) (x : Str) (C : Addr) (n : Str) : Prop where
  ex : ∃ f fd ps, mg x = some (.ref C) ∧ OexC K C ∧ PySem.W.findIn K (.ref C) "__init__" = some (some (.ref f)) ∧ PySem.W.typeIn K (.ref f) = some (.type "function") ∧ L2.Binds K fd ps [] ∧ FnOk P w K mg base (L2N.CX P w) k f fd ps (spXT K C n)
end
section
variable {G : Ga} {X : Cx} {W : WX} {k : Nat} {x : Str} {c : Nat} {n : Str} {e : Expr} {p pos pos2 : Pos} {d : Env → R PV}
end
end J

namespace J
open PySem.Spec PySem PyProof.Rows
open L2 hiding St Takes XE CX takes_of PMk MkP ps_raise mk_of ps_try_as ps_try_many pmk_own passAt passes_call takes0 passL
open L2N hiding St
open Bp (takes0 passL OpS R2S IsI tOpS pe_opS pe_cmpS pt_cmpS)
section
variable {G : Ga} {X : Cx} {W : WX}
theorem i_sub : OpJ G X W (inplaceOp .Sub) subI := ⟨_, OpS.of iop_sub, fun Hf H σ x y a b Q s ra rb h => by
  unfold subI iOp0 at h
  split at h
  · rename_i i j
    exact ⟨i, j, ra.of_int, rb.of_int, h _ Hf H (Gr.refl s) (.int _)⟩
  · exact h.elim⟩
end
def intsP : List PV → Option (List Int)
  | [] => some []
  | .int b :: l => (match intsP l with | some bs => some (b :: bs) | none => none)
  | _ :: _ => none
theorem ints_rep {G : Gb} {Hf : Hp} : ∀ {l : List PV} {vs : List V} {bs : List Int}, Reps G Hf l vs → intsP l = some bs → vs = bs.map V.int
  | _, _, bs, .nil, h => by
    cases h
    rfl
  | _, _, bs, .cons (p := p) (l := l) r1 r2, h => by
    cases r1 with
    | int b =>
      unfold intsP at h
      cases e : intsP l with
      | none => rw [e] at h; cases h
      | some cs =>
        rw [e] at h
        cases h
        rw [ints_rep r2 e]
        rfl
    | _ => cases h
def sumB (l : List PV) : R PV := match l with | [.lst m] => (match intsP m with | some ns => .ok (.int ns.sum) | none => .bad) | _ => .bad
section
variable {G : Gb} {X : Cx}
theorem b_sum (hK : X.K = G.K) (hc : X.calm = true := by rfl) : CallJ G X (.builtin "sum") sumB := ⟨_, cr_sum hc, fun W Hf H σ vs l Q s r h => by
  unfold sumB at h
  split at h
  · rename_i m
    cases r with
    | cons r1 r2 =>
      cases r2
      cases r1 with
      | lst ht hr =>
        rename_i a ws
        cases e : intsP m with
        | none => simp only [e] at h; exact h.elim
        | some ns =>
          simp only [e] at h
          rw [ints_rep hr e] at ht
          exact ⟨a, ns, rfl, by rw [hK]; exact s.seq ht, h _ Hf H (Gr.refl s) (.int _)⟩
  · exact h.elim⟩
end
theorem intsP_map (l : List Int) : intsP (l.map .int) = some l := by
  induction l with
  | nil => rfl
  | cons a l ih => show (match intsP (l.map .int) with | some bs => some (a :: bs) | none => none) = _; rw [ih]
theorem sum_int (l : List Int) : sumB [.lst (l.map .int)] = .ok (.int l.sum) := by
  unfold sumB
  simp only [intsP_map]
def ninOD (i : Nat) (d : Env → R PV) (env : Env) : R PV := match env.at i with
  | .ownD kvs => (d env).bind fun p => match keyP p with | some k => .ok (.bl (!(valD kvs k).isSome)) | none => .bad
  | _ => .bad
section
variable {G : Ga} {X : Cx} {W : WX} {i : Nat} {x : Str} {a : Expr} {da : Env → R PV} {pos p1 : Pos}
theorem tj_ninOD {ta : TE} (ja : TJ G W ta da) : TJ G W (Bp.tOpS (fun _ => rDNin) ta (tVar i)) (ninOD i da) := fun H0 Hf H env σ Q s E h => by
  unfold ninOD at h
  cases el : env.at i with
  | ownD kvs =>
    rw [el] at h
    simp only at h
    refine ja H0 Hf H env σ _ s E (PostG.bind h fun p v Hf1 H1 _ g1 rp k => ?_)
    have q := (E.grow g1).get i
    rw [el] at q
    obtain ⟨a, vs, ea, a0, af, ah, rr⟩ := q
    refine ⟨.ref a, ea, ?_⟩
    cases ek : keyP p with
    | none => rw [ek] at k; exact k.elim
    | some kk =>
      rw [ek] at k
      obtain ⟨o, g, e, _⟩ := repk_get (k := kk) ah rr
      have ex := keyP_rep ek rp
      subst ex
      refine ⟨a, o, rfl, g, ?_⟩
      rw [e]
      exact k _ Hf1 H1 (Gr.refl g1.sub) (.bl _)
  | _ => rw [el] at h; exact h.elim
theorem jt_ninOD (i : Nat) (hu : X.A.units + 1 < cLine) (ha : JE G X W a da) (hi : X.N[i]? = some x := by rfl) (hv : Vis X.env.scope x := by first | exact Or.inl rfl | exact Or.inr (Or.inl rfl) | exact Or.inr (Or.inr rfl)) (hdb : (x == ("__debug__" : Str)) = false := by decide) (hcd : (x == ("__classdict__" : Str)) = false := by decide) :
    JT G X W (.Compare a [.NotIn] [.Name x p1] pos) (toB (ninOD i da)) := by
  obtain ⟨t, pt, jt⟩ := ha
  refine ⟨_, Bp.pt_cmpS (OpS.of (op_dNin hu)) pt (pe_var hi hv hdb hcd) rfl, fun H0 Hf H env σ Q s E h => tj_ninOD jt H0 Hf H env σ _ s E (PostG.bind h fun p v Hf1 H1 _ g1 r1 h1 => ?_)⟩
  obtain ⟨k, e, q⟩ := asB_bl r1 g1.sub h1
  exact ⟨k, e, q⟩
end
def eqkB (b : Bool) (v : Value) : Bool := match v with
  | .bool n => n == b
  | _ => false
theorem eqkB_count {b : Bool} : ∀ {us : List Value} {ns : List Bool}, Vals (ns.map V.bl) us → us.countP (eqkB b) = ns.count b
  | _, [], .nil => rfl
  | _, n :: ns, .cons r h => by
    have ih := eqkB_count (b := b) h
    cases r
    rw [List.countP_cons, List.count_cons, ih]
    rfl
theorem eqkB_at {b : Bool} {A : Around} {s : Shared} : ∀ {us : List Value} {ns : List Bool}, Vals (ns.map V.bl) us → ∀ y ∈ us, PySem.SeqAt.EqAt A s y (.bool b) (eqkB b y)
  | _, [], .nil => fun y hy => by cases hy
  | _, n :: ns, .cons r h => fun y hy => by
    cases r
    rcases List.mem_cons.mp hy with e | e
    · rw [e]; exact PySem.SeqAt.EqAt.bool_bool n b
    · exact eqkB_at h y e
theorem mt_bcount {X : Cx} : MtR X "list.count" (fun x xs H Q => ∃ (p : Addr) (bs : List Bool) (b : Bool), x = .ref p ∧ xs = [.bl b] ∧ SqL X.K H p (bs.map V.bl) ∧ Q (.int (bs.count b : Nat)) H) := by
  intro pins s σ H x xs v us Q I rx rxs h
  obtain ⟨p, bs, b, rfl, rfl, hs, q⟩ := h
  cases rx
  obtain ⟨u, rfl, ru⟩ := rxs.one
  cases ru
  obtain ⟨its, rv, ⟨⟨cls, dd, data, sl⟩, n, ho, hc, hdn, hd⟩, hlen⟩ := I.list hs
  simp only at hc hd
  subst hc hd
  refine call_meets PySem.F.slot_list_count ⟨_, ho, rfl⟩ PySem.F.entry_list_count (PySem.F.args_list_count_2 _ _)
    (PySem.SeqAt.list_countAt p its.toArray n dd sl (.bool b) (eqkB b)) ⟨ho, fun y hy => eqkB_at rv y (by simpa using hy), ?_⟩
  have ec : its.toArray.toList.countP (eqkB b) = bs.count b := eqkB_count rv
  refine ⟨.int (bs.count b : Nat), H, I.tok _, ⟨s.toks, ?_⟩, q⟩
  show Value.int ((its.toArray.toList.countP (eqkB b) : Nat) : Int) s.toks = Value.int ((bs.count b : Nat) : Int) s.toks
  rw [ec]
def cntE (d de : Env → R PV) (env : Env) : R PV := (d env).bind fun p => match p with
  | .lst l => (de env).bind fun q => (match q with
    | .bl b => (match blsP l with | some bs => .ok (.int (bs.count b : Nat)) | none => .bad)
    | _ => .bad)
  | _ => .bad
section
variable {G : Ga} {X : Cx} {W : WX} {o e : Expr} {d de : Env → R PV} {p2 p3 : Pos}
theorem je_count (hK : X.K = G.K) (ho : JE G X W o d) (he : JE G X W e de)
    (hbase : attributeBase o "count" X.env (eval o X.env) = eval o X.env := by rfl)
    (hfew : ((backTo p3 (starEach [e] X.env)).all (fun x => !x.1) && (backToKw p3 (keywordEach [] X.env)).all (fun x => x.1.isSome) && decide ([e].length + ([] : List Keyword).length + (if ([] : List Keyword).isEmpty then 0 else 1) < 30)) = true := by rfl)
    (hline : (p2.endLine == p3.line) = true := by rfl) (hst : starEach [e] X.env = (false, eval e X.env) :: starEach [] X.env := by rfl) (hplain : (backTo p3 (starEach [] X.env)).any (·.1) = false := by rfl) :
    JE G X W (.Call (.Attribute o "count" p2) [e] [] p3) (cntE d de) := by
  obtain ⟨t, pt, jt⟩ := ho
  obtain ⟨u, pu, ju⟩ := he
  refine ⟨_, pe_bm PySem.F.plainAttrs_list PySem.F.slot_list_count PySem.F.type_list_count mt_bcount pt (pa_cons pu pa_nil hst) hbase hfew hline hst hplain, fun H0 Hf H env σ Q s E h => ?_⟩
  refine jt H0 Hf H env σ _ s E (PostG.bind h fun p v Hf1 H1 _ g1 r1 h1 => ?_)
  cases r1 with
  | lst ht hr =>
    rename_i l a ws he
    have ht' : SqL X.K H1 a ws := by rw [hK]; exact g1.sub.seq ht
    refine ⟨.inl ⟨rfl, ws, ht'⟩, ju H0 Hf1 H1 env σ _ g1.sub (E.grow g1) (PostG.bind h1 fun q w Hf2 H2 _ g2 r2 h2 => ?_)⟩
    cases r2 with
    | bl b =>
      simp only at h2
      cases eb : blsP _ with
      | none => rw [eb] at h2; exact h2.elim
      | some bs =>
        rw [eb] at h2
        have hw := bls_rep hr eb
        rw [hw] at ht'
        exact ⟨a, bs, b, rfl, rfl, g2.hp.seq ht', h2 _ Hf2 H2 (Gr.refl g2.sub) (.int _)⟩
    | _ => exact h2.elim
  | _ => exact h1.elim
end
section
variable {G : Ga} {X : Cx} {W : WX} {H0 Hf H : Hp} {env : Env} {σ : L2.St} {i : Nat} {e : Expr} {d : Env → R (List PV)}
def lendO (i : Nat) (d : Env → R (List PV)) (env : Env) : R (List PV) := match env.at i with
  | .own l => (match d (env.set i (.val (.lst l))) with | .ok p => if noLs p = true then .ok p else .bad | _ => .bad)
  | _ => .bad
end
section
variable {G : Ga} {X : Cx} {W : WX} {Hf0 H0 Hf H Hf' H' : Hp} {env : Env} {σ : L2.St} {i : Nat} {x : Str} {pos p1 p2 p3 : Pos} {e a b tg iter elt : Expr} {d da db : Env → R PV} {ifs : List Expr} {t : Env → R Bool} {dl : Env → R (List PV)} {vs : List Nat} {bn : Bnd}
theorem js_setLcOl {y : Str} {py spos : Pos} {scope : Scope} (k0 i : Nat) (own : List (Str × Nat)) (nd : X.N.Nodup) (hi : JI G X W tg iter dl) (ok : blkC X.N X.env.scope scope own = true)
    (hg : ∀ (s : Shared) (H : Hp) (C : Addr) (cl : List (Str × Addr)) (fp : List Addr), JG G (X.blk s H scope (compEnvC scope cl C X.env) fp) tg bn (own.map (·.2)))
    (ht : ∀ (s : Shared) (H : Hp) (C : Addr) (cl : List (Str × Addr)) (fp : List Addr), JTs G (X.blk s H scope (compEnvC scope cl C X.env) fp) W0 ifs t)
    (he : ∀ (s : Shared) (H : Hp) (C : Addr) (cl : List (Str × Addr)) (fp : List Addr), JE G (X.blk s H scope (compEnvC scope cl C X.env) fp) W0 elt d)
    (hsw : swapsWith (.ListComp elt [⟨tg, iter, ifs, 0⟩] scope pos) (some (.Name y py)) spos.line X.env = pure true) (hy : X.N[k0]? = some y := by rfl) (hyl : X.env.scope.names.lookup y = some .local := by rfl)
    (hc : X.calm = true := by rfl) (hs : ∀ x, foldedSetIterable iter X.env x = pure x := by intro _; rfl) : JS G X W (.Assign [.Name y py] (.ListComp elt [⟨tg, iter, ifs, 0⟩] scope pos) spos) (setCO k0 (lendO i (lcL (own.map (·.2)) dl bn t d))) := by
  obtain ⟨wi, pi, ji⟩ := hi
  refine ⟨_, ps_setLc hc nd hy hyl hsw pi (blkOk_by ok) (fun s H C cl fp => (hg s H C cl fp).pg) (fun s H C cl fp => (ht s H C cl fp).pts) (fun s H C cl fp => (he s H C cl fp).pe) hs, fun Hf0 H0 Hf H env σ D S h => ?_⟩
  unfold setCO lendO at h
  have E := S.env
  have s := S.gr.sub
  cases el : env.at i with
  | own l =>
    rw [el] at h
    simp only at h
    have q := E.get i
    rw [el] at q
    obtain ⟨a, vs, ea, a0, af, ah, rr⟩ := q
    have S9 : True := trivial
    -- the frozen heap with the list in it
    have s2 : Same (upd Hf a (.lst vs)) H := fun b o hb => by
      by_cases e : b = a
      · subst e
        rw [upd_same] at hb
        rw [← hb]
        exact ah
      · rw [upd_ne e] at hb
        exact s _ _ hb
    have fz : Same Hf (upd Hf a (.lst vs)) := Same.new af
    have E2 : EnvOk G H0 (upd Hf a (.lst vs)) H (env.set i (.val (.lst l))) σ := by
      have base : EnvOk G H0 (upd Hf a (.lst vs)) H (env.set i .no) σ := by
        have E' := E.forget (i := i)
        refine ⟨E'.len, fun j => ?_, E'.dis⟩
        have q := E'.get j
        have away : ∀ b, (Env.at (env.set i .no) j).isOwn = true → σ[j]? = some (some (.ref b)) → b ≠ a := fun b hb eb z => by
          subst z
          rw [Env.at_set] at hb
          by_cases e : i = j ∧ j < env.length
          · rw [if_pos e] at hb; cases hb
          · rw [if_neg e] at hb
            have := E.dis i j b (by rw [el]; rfl) hb ea eb
            subst this
            exact e ⟨rfl, by
              rw [E.len]
              by_cases l : i < σ.length
              · exact l
              · rw [List.getElem?_eq_none (by omega)] at ea
                cases ea⟩
        cases ej : Env.at (env.set i .no) j with
        | no => trivial
        | val p =>
          rw [ej] at q
          obtain ⟨v, ev, r⟩ := q
          exact ⟨v, ev, r.mono fz⟩
        | own m =>
          rw [ej] at q
          obtain ⟨b, ws, eb, b0, bf, bh, r⟩ := q
          exact ⟨b, ws, eb, b0, by rw [upd_ne (away b (by rw [ej]; rfl) eb)]; exact bf, bh, r.mono fz⟩
        | ownD m =>
          rw [ej] at q
          obtain ⟨b, ws, eb, b0, bf, bh, r⟩ := q
          exact ⟨b, ws, eb, b0, by rw [upd_ne (away b (by rw [ej]; rfl) eb)]; exact bf, bh, r.mono fz⟩
        | iol m =>
          rw [ej] at q
          obtain ⟨b, ws, eb, z, b0, bf, bh, r⟩ := q
          exact ⟨b, ws, eb, z, b0, by rw [upd_ne (away b (by rw [ej]; rfl) eb)]; exact bf, bh, r.mono fz⟩
        | io2 m =>
          rw [ej] at q
          obtain ⟨b, ws, eb, z, b0, bf, bh, r⟩ := q
          exact ⟨b, ws, eb, z, b0, by rw [upd_ne (away b (by rw [ej]; rfl) eb)]; exact bf, bh, r.mono fz⟩
        | oob c fs =>
          rw [ej] at q
          obtain ⟨b, dx, ws, eb, z, b0, bf, bh, r⟩ := q
          exact ⟨b, dx, ws, eb, z, b0, by rw [upd_ne (away b (by rw [ej]; rfl) eb)]; exact bf, bh, r.mono fz⟩
        | slf c fs =>
          rw [ej] at q
          obtain ⟨b, eb, z, r⟩ := q
          exact ⟨b, eb, z, r.mono fz⟩
        | par l =>
          rw [ej] at q
          obtain ⟨b, eb, r⟩ := q
          exact ⟨b, eb, r.mono fz⟩
        | exc c fs =>
          rw [ej] at q
          obtain ⟨b, d, eb, xi, r⟩ := q
          exact ⟨b, d, eb, xi, r.grow fz (fun _ _ h => h)⟩
      have r := base.set (i := i) (s := .val (.lst l)) (v := .ref a) ⟨_, rfl, .lst (SqL.of upd_same) (rr.mono fz)⟩ (fun z => nomatch z)
      rw [List.set_set, set_same ea] at r
      exact r
    cases er : lcL (own.map (·.2)) dl bn t d (env.set i (.val (.lst l))) with
    | ok r =>
      rw [er] at h
      simp only at h
      by_cases nl : noLs r = true
      case neg => rw [if_neg nl] at h; exact h.elim
      rw [if_pos nl] at h
      refine rd_lcO ji tjg_of tjt_of tj_of s2 E2 er fun A acc Hf2 H2 g hA fA hacc ra => ?_
      have aa := g.fz a _ (show upd Hf a (.lst vs) a = some (.lst vs) from upd_same)
      have ca : A ≠ a := fun z => by rw [z, aa] at fA; cases fA
      have g' : Gr Hf H (L2.del Hf2 a) H2 := by
        refine ⟨fun b o hb => ?_, g.hp, fun b o hb => ?_, fun b o hb => ?_⟩
        · have ne : b ≠ a := ne_of_none hb af
          rw [L2.del_ne ne]
          exact g.fz _ _ (fz _ _ hb)
        · by_cases e : b = a
          · subst e; rw [L2.del_same] at hb; cases hb
          · rw [L2.del_ne e] at hb; exact g.sub _ _ hb
        · by_cases e : b = a
          · subst e; rw [L2.del_same] at hb; cases hb
          · rw [L2.del_ne e] at hb
            rcases g.new b o hb with z | z
            · rw [upd_ne e] at z; exact .inl z
            · exact .inr z
      refine h _ (L2.del Hf2 a) H2 ⟨S.gr.trans g', own_put S.env g' S.gr.hp hA (by rw [L2.del_ne ca]; exact fA) hacc (ra.thaw (fun b o hb hn => ?_) nl)⟩ g'.fz
      by_cases e : b = a
      · subst e
        rw [aa] at hb
        cases hb
        exact absurd rfl (hn vs)
      · rw [L2.del_ne e]; exact hb
    | er c fs => rw [er] at h; exact h.elim
    | bad => rw [er] at h; exact h.elim
  | _ => rw [el] at h; exact h.elim
end
def fuelN (n : Nat) (_ : Env) : Nat := n
end J

namespace J
open PySem.Spec PySem PyProof.Rows
open L2 hiding St Takes XE CX takes_of PMk MkP ps_raise mk_of ps_try_as ps_try_many pmk_own passAt passes_call takes0 passL
open L2N hiding St
open Bp (takes0 passL OpS R2S IsI)
def cat_BestError_w : Nat → Option Bool := fun c => match c with | 4 => some true | 14 => some true | 32 => some true | 33 => some true | 34 => some true | 35 => some true | _ => none
def xt_is_BadCount_w : Nat → Option Bool := fun c => match c with | 4 => some true | 14 => some false | 32 => some false | 33 => some false | 34 => some false | 35 => some false | _ => none
def xt_is_NoPlace_w : Nat → Option Bool := fun c => match c with | 4 => some false | 14 => some false | 32 => some true | 33 => some false | 34 => some false | 35 => some false | _ => none
def xt_is_BadEdge_w : Nat → Option Bool := fun c => match c with | 4 => some false | 14 => some false | 32 => some false | 33 => some true | 34 => some false | 35 => some false | _ => none
def xt_is_WrongWidth_w : Nat → Option Bool := fun c => match c with | 4 => some false | 14 => some true | 32 => some false | 33 => some false | 34 => some false | 35 => some false | _ => none
def xt_is_BadSupply_w : Nat → Option Bool := fun c => match c with | 4 => some false | 14 => some false | 32 => some false | 33 => some false | 34 => some true | 35 => some false | _ => none
def xt_is_Unbalanced_w : Nat → Option Bool := fun c => match c with | 4 => some false | 14 => some false | 32 => some false | 33 => some false | 34 => some false | 35 => some true | _ => none
def xt_is_ValueError_w : Nat → Option Bool := fun c => match c with | 4 => some true | 14 => some true | 32 => some true | 33 => some true | 34 => some true | 35 => some true | _ => none
def it_int_w : Kd → Option Bool := fun c => match c with | .non => some false | .bl => some true | .int => some true | .str => some false | .tup => some false | .lst => some false | _ => none
def it_tuple_w : Kd → Option Bool := fun c => match c with | .non => some false | .bl => some false | .int => some false | .str => some false | .tup => some true | .lst => some false | _ => none
def it_bool_w : Kd → Option Bool := fun c => match c with | .non => some false | .bl => some true | .int => some false | .str => some false | .tup => some false | .lst => some false | _ => none
noncomputable def p_law_edge : Env → F := (seqF (setF 3 (bin2 ixP (lstE (argsC (fun _ => .ok (.int 1)) (argsC (fun _ => .ok (.int 2)) (argsC (fun _ => .ok (.int 0)) (argsC (un1 negI (fun _ => .ok (.int 1))) (argsC (fun _ => .ok (.int 3)) (argsC (un1 negI (fun _ => .ok (.int 2))) (argsC (fun _ => .ok (.int 5)) (argsC (un1 negI (fun _ => .ok (.int 3))) (argsC (fun _ => .ok (.int 4)) args0)))))))))) (bin2 modI (callE intB (argsC (rdV 0) args0)) (fun _ => .ok (.int 9)))))
  (seqF (setF 4 (bin2 ixP (lstE (argsC (fun _ => .ok (.int 3)) (argsC (fun _ => .ok (.int 2)) (argsC (fun _ => .ok (.int 4)) (argsC (fun _ => .ok .non) (argsC (fun _ => .ok (.int 1)) (argsC (fun _ => .ok (.int 0)) (argsC (fun _ => .ok .non) (argsC (fun _ => .ok (.int 2)) args0))))))))) (bin2 modI (callE intB (argsC (bin2 fdivI (rdV 0) (fun _ => .ok (.int 9))) args0)) (fun _ => .ok (.int 8)))))
  (seqF (setF 0 (bin2 fdivI (rdV 0) (fun _ => .ok (.int 72))))
  (seqF (setF 5 (bin2 addI (fun _ => .ok (.int 1)) (bin2 modI (callE intB (argsC (rdV 0) args0)) (bin2 subI (rdV 2) (fun _ => .ok (.int 1))))))
  (seqF (setF 0 (bin2 fdivI (rdV 0) (bin2 subI (rdV 2) (fun _ => .ok (.int 1)))))
  (seqF (setF 6 (bin2 ixP (lstE (argsC (fun _ => .ok (.int 0)) (argsC (fun _ => .ok (.int 1)) (argsC (fun _ => .ok (.int 0)) (argsC (fun _ => .ok (.int 2)) args0))))) (bin2 modI (callE intB (argsC (rdV 0) args0)) (fun _ => .ok (.int 4)))))
  (seqF (setF 7 (bin2 modI (callE intB (argsC (bin2 addI (rdV 1) (bin2 modI (callE intB (argsC (bin2 fdivI (rdV 0) (fun _ => .ok (.int 4))) args0)) (rdV 2))) args0)) (rdV 2)))
  (seqF (setF 0 (bin2 fdivI (rdV 0) (bin2 mulI (fun _ => .ok (.int 4)) (rdV 2))))
  (seqF (iteF (toB (bin2 eqS (bin2 modI (callE intB (argsC (rdV 0) args0)) (fun _ => .ok (.int 8))) (fun _ => .ok (.int 7))))
  (seqF (setF 6 (bin2 modI (callE intB (argsC (bin2 fdivI (rdV 0) (fun _ => .ok (.int 8))) args0)) (fun _ => .ok (.int 101))))
  (seqF (setF 3 (bin2 subI (bin2 modI (callE intB (argsC (bin2 fdivI (rdV 0) (fun _ => .ok (.int 808))) args0)) (fun _ => .ok (.int 2001))) (fun _ => .ok (.int 1000))))
  (iteF (toB (bin2 notNP (rdV 4) (fun _ => .ok .non)))
  (setF 4 (bin2 modI (callE intB (argsC (bin2 fdivI (rdV 0) (fun _ => .ok (.int 1616808))) args0)) (bin2 subI (fun _ => .ok (.int 1001)) (rdV 6))))
  nextF)))
  nextF)
  (seqF (setF 8 (fun _ => .ok .non))
  (seqF (iteF (toB (bin2 notNP (rdV 4) (fun _ => .ok .non)))
  (setF 8 (bin2 addI (rdV 6) (rdV 4)))
  nextF)
  (retF (tupE (argsC (rdV 7) (argsC (bin2 modI (callE intB (argsC (bin2 addI (rdV 7) (rdV 5)) args0)) (rdV 2)) (argsC (rdV 6) (argsC (rdV 8) (argsC (rdV 3) args0))))))))))))))))))
noncomputable def f_law_edge : List PV → R PV := fnJ 3 9 p_law_edge
noncomputable def lb_law_k81_1 : Env → F := (appF 5 (callE f_law_edge (argsC (callE f_law_cell (argsC (rdV 0) (argsC (bin2 addI (fun _ => .ok (.int 1)) (rdV 6)) args0))) (argsC (rdV 6) (argsC (rdV 3) args0)))))
noncomputable def lb_law_recosted_1 : Env → F := (seqF (setF 4 (bin2 ixP (rdV 3) (fun _ => .ok (.int 4))))
  (seqF (iteF (toB (bin2 ltI (callE absB (argsC (rdV 4) args0)) (fun _ => .ok (.int 100))))
  (augF 4 subI (rdV 1))
  nextF)
  (appF 2 (tupE (argsC (bin2 ixP (rdV 3) (fun _ => .ok (.int 0))) (argsC (bin2 ixP (rdV 3) (fun _ => .ok (.int 1))) (argsC (bin2 ixP (rdV 3) (fun _ => .ok (.int 2))) (argsC (bin2 ixP (rdV 3) (fun _ => .ok (.int 3))) (argsC (rdV 4) args0)))))))))
noncomputable def po_law_recosted : Env → R (List PV) := (seqO (ownF 2)
  (seqO (forE (itE (rdV 0)) (bdN 3) lb_law_recosted_1)
  (retO 2)))
noncomputable def fo_law_recosted : List PV → R (List PV) := fnO 2 5 po_law_recosted
noncomputable def lb_law_free_1 : Env → F := (appF 2 (bin2 subI (bin2 modI (callE intB (argsC (callE f_law_cell (argsC (rdV 0) (argsC (bin2 addI (fun _ => .ok (.int 17)) (rdV 3)) args0))) args0)) (fun _ => .ok (.int 7))) (fun _ => .ok (.int 3))))
noncomputable def p_law_free : Env → F := (seqF (ownF 2)
  (seqF (forE (fun env => ((argsC (bin2 subI (rdV 1) (fun _ => .ok (.int 1))) args0) env).bind rng1) (bdN 3) lb_law_free_1)
  (seqF (appF 2 (lend 2 (un1 negI (callE sumB (argsC (rdV 2) args0)))))
  (fun env => (retF (rdV 2)) (frz 2 env)))))
noncomputable def f_law_free : List PV → R PV := fnJ 2 4 p_law_free
noncomputable def p_check_place : Env → F := (iteF (orT (toB (bin2 ltI (rdV 1) (fun _ => .ok (.int 0)))) (toB (bin2 geI (rdV 1) (rdV 0))))
  (raiseF 32 ["place"] (argsC (rdV 1) args0))
  nextF)
noncomputable def f_check_place : List PV → R PV := fnJ 2 2 p_check_place
noncomputable def p_is_amount : Env → F := (retF (andV (bin2 leI (un1 negI (fun _ => .ok (.int 1000))) (rdV 0)) (bin2 leI (rdV 0) (fun _ => .ok (.int 1000)))))
noncomputable def f_is_amount : List PV → R PV := fnJ 1 1 p_is_amount
noncomputable def p_is_edge : Env → F := (seqF (iteF (orT (toB (bin2 eqS (rdV 0) (rdV 1))) (orT (toB (bin2 ltI (rdV 2) (fun _ => .ok (.int 0)))) (orT (toB (bin2 gtI (rdV 2) (fun _ => .ok (.int 1000)))) (notT (toB (callE f_is_amount (argsC (rdV 4) args0)))))))
  (retF (fun _ => .ok (.bl false)))
  nextF)
  (retF (orV (bin2 isNP (rdV 3) (fun _ => .ok .non)) (andV (bin2 leI (rdV 2) (rdV 3)) (bin2 leI (rdV 3) (fun _ => .ok (.int 1000)))))))
noncomputable def f_is_edge : List PV → R PV := fnJ 5 5 p_is_edge
noncomputable def lb_check_edges_1 : Env → F := (seqF (dropF (callE f_check_place (argsC (rdV 0) (argsC (rdV 3) args0))))
  (seqF (dropF (callE f_check_place (argsC (rdV 0) (argsC (rdV 4) args0))))
  (iteF (notT (toB (callE f_is_edge (argsC (rdV 3) (argsC (rdV 4) (argsC (rdV 5) (argsC (rdV 6) (argsC (rdV 7) args0))))))))
  (raiseF 33 ["at"] (argsC (rdV 2) args0))
  nextF)))
noncomputable def p_check_edges : Env → F := (seqF (dropF (callE f_check_count (argsC (fun _ => .ok (.str "edges")) (argsC (callE lenB (argsC (rdV 1) args0)) (argsC (fun _ => .ok (.int 1)) (argsC (fun _ => .ok (.int 16)) args0))))))
  (forE (enumE (rdV 1)) (bdT [(bdN 2), (bdT [(bdN 3), (bdN 4), (bdN 5), (bdN 6), (bdN 7)])]) lb_check_edges_1))
noncomputable def f_check_edges : List PV → R PV := fnJ 2 8 p_check_edges
noncomputable def lb_check_supplies_1 : Env → F := (iteF (notT (toB (callE f_is_amount (argsC (rdV 3) args0))))
  (raiseF 34 ["place"] (argsC (rdV 2) args0))
  nextF)
noncomputable def p_check_supplies : Env → F := (seqF (dropF (callE f_check_width (argsC (callE lenB (argsC (rdV 1) args0)) (argsC (rdV 0) args0))))
  (seqF (forE (enumE (rdV 1)) (bdT [(bdN 2), (bdN 3)]) lb_check_supplies_1)
  (seqF (setF 4 (callE sumB (argsC (rdV 1) args0)))
  (iteF (toB (bin2 neS (rdV 4) (fun _ => .ok (.int 0))))
  (raiseF 35 ["total"] (argsC (rdV 4) args0))
  nextF))))
noncomputable def f_check_supplies : List PV → R PV := fnJ 2 5 p_check_supplies
noncomputable def p_Web_init : Env → F := (seqF (dropF (callE f_check_count (argsC (fun _ => .ok (.str "places")) (argsC (rdV 1) (argsC (fun _ => .ok (.int 2)) (argsC (fun _ => .ok (.int 8)) args0))))))
  (seqF (dropF (callE f_check_edges (argsC (rdV 1) (argsC (rdV 2) args0))))
  (seqF (dropF (callE f_check_supplies (argsC (rdV 1) (argsC (rdV 3) args0))))
  (seqF (fldF [31] 0 "places" (rdV 1))
  (seqF (fldF [31] 0 "edges" (callE tupB (argsC (lcE [4] (itE (rdV 2)) (bdN 4) yesT (callE tupB (argsC (rdV 4) args0))) args0)))
  (fldF [31] 0 "supplies" (callE tupB (argsC (rdV 3) args0))))))))
noncomputable def f_Web_init : List PV → R PV := fnI 4 5 31 p_Web_init
noncomputable def lb_lowered_1 : Env → F := (seqF (iteF (toB (bin2 isNP (ixO 0 (rdV 6)) (fun _ => .ok .non)))
  (fun env => .ct env)
  nextF)
  (seqF (setF 9 (bin2 addI (ixO 0 (rdV 6)) (rdV 8)))
  (iteF (orT (toB (bin2 isNP (ixO 0 (rdV 7)) (fun _ => .ok .non))) (toB (bin2 ltI (rdV 9) (ixO 0 (rdV 7)))))
  (seqF (setI 0 (rdV 7) (rdV 9))
  (seqF (setI 2 (rdV 7) (rdV 5))
  (setF 4 (rdV 7))))
  nextF)))
noncomputable def lb_lowered_2 : Env → F := (seqF (setF 4 (fun _ => .ok .non))
  (seqF (forE (enumE (rdV 1)) (bdT [(bdN 5), (bdT [(bdN 6), (bdN 7), (bdN 8)])]) lb_lowered_1)
  (iteF (toB (bin2 isNP (rdV 4) (fun _ => .ok .non)))
  (fun env => .bk env)
  nextF)))
noncomputable def p_lowered : Env → F := (seqF (setCO 0 (listO (rdV 0)))
  (seqF (setCO 2 (lendO 0 (lcL [3] (itE (rdV 0)) (bdN 3) yesT (fun _ => .ok .non))))
  (seqF (setF 4 (fun _ => .ok .non))
  (seqF (forE (fun env => ((argsC (lend 0 (callE lenB (argsC (rdV 0) args0))) args0) env).bind rng1) (bdN 3) lb_lowered_2)
  (fun env => (fun env => (retF (tupE (argsC (rdV 0) (argsC (rdV 2) (argsC (rdV 4) args0))))) (frz 0 env)) (frz 2 env))))))
noncomputable def f_lowered : List PV → R PV := fnJ 2 10 p_lowered
noncomputable def lb_ring_at_1 : Env → F := (setF 2 (bin2 ixP (bin2 ixP (rdV 0) (bin2 ixP (rdV 1) (rdV 2))) (fun _ => .ok (.int 0))))
noncomputable def lb_way_to_1 : Env → F := (seqF (setD 4 (rdV 2) (fun _ => .ok (.bl true)))
  (seqF (appF 3 (bin2 ixP (rdV 1) (rdV 2)))
  (setF 2 (bin2 ixP (bin2 ixP (rdV 0) (bin2 ixP (rdV 1) (rdV 2))) (fun _ => .ok (.int 0))))))
noncomputable def p_way_to : Env → F := (seqF (ownF 3)
  (seqF (ownDF 4)
  (seqF (whileE (fuelN 20) (andT (toB (bin2 notNP (bin2 ixP (rdV 1) (rdV 2)) (fun _ => .ok .non))) (toB (ninOD 4 (rdV 2))))
  lb_way_to_1)
  (fun env => (retF (revP (rdV 3))) (frz 3 env)))))
noncomputable def f_way_to : List PV → R PV := fnJ 3 5 p_way_to
noncomputable def p_ring_at : Env → F := (seqF (forE (itE (rdV 1)) (bdN 3) lb_ring_at_1)
  (retF (callE f_way_to (argsC (rdV 0) (argsC (rdV 1) (argsC (rdV 2) args0))))))
noncomputable def f_ring_at : List PV → R PV := fnJ 3 4 p_ring_at
noncomputable def p_heights : Env → F := (seqF (setF 1 (lcE [2, 3, 4, 4, 5] (itE (fldE [31] "edges" (rdV 0))) (bdT [(bdN 2), (bdN 3), (bdN 4), (bdN 4), (bdN 5)]) yesT (tupE (argsC (rdV 2) (argsC (rdV 3) (argsC (rdV 5) args0))))))
  (seqF (asgF (bdT [(bdN 6), (bdN 7), (bdN 8)]) (callE f_lowered (argsC (lcE [4] (fun env => ((argsC (fldE [31] "places" (rdV 0)) args0) env).bind rng1) (bdN 4) yesT (fun _ => .ok (.int 0))) (argsC (rdV 1) args0))))
  (seqF (iteF (toB (bin2 notNP (rdV 8) (fun _ => .ok .non)))
  (retF (tupE (argsC (fun _ => .ok (.str "ring")) (argsC (callE tupB (argsC (callE f_ring_at (argsC (rdV 1) (argsC (rdV 7) (argsC (rdV 8) args0)))) args0)) args0))))
  nextF)
  (retF (tupE (argsC (fun _ => .ok (.str "heights")) (argsC (callE tupB (argsC (rdV 6) args0)) args0)))))))
noncomputable def f_heights : List PV → R PV := fnJ 1 9 p_heights
noncomputable def lb_law_heights_right_1 : Env → F := (iteF (orT (toB (un1 (isiP it_bool_w) (rdV 3))) (notT (toB (un1 (isiP it_int_w) (rdV 3)))))
  (retF (fun _ => .ok (.bl false)))
  nextF)
noncomputable def lb_law_ring_1 : Env → F := (iteF (toB (bin2 ltI (bin2 addI (ixO 2 (bin2 ixP (rdV 5) (fun _ => .ok (.int 0)))) (bin2 ixP (rdV 5) (fun _ => .ok (.int 4)))) (ixO 2 (bin2 ixP (rdV 5) (fun _ => .ok (.int 1))))))
  (seqF (setI 2 (bin2 ixP (rdV 5) (fun _ => .ok (.int 1))) (bin2 addI (ixO 2 (bin2 ixP (rdV 5) (fun _ => .ok (.int 0)))) (bin2 ixP (rdV 5) (fun _ => .ok (.int 4)))))
  (setF 3 (fun _ => .ok (.bl true))))
  nextF)
noncomputable def lb_law_ring_2 : Env → F := (seqF (setF 3 (fun _ => .ok (.bl false)))
  (forE (itE (rdV 1)) (bdN 5) lb_law_ring_1))
noncomputable def p_law_ring : Env → F := (seqF (setCO 2 (repO (argsC (fun _ => .ok (.int 0)) args0) (rdV 0)))
  (seqF (setF 3 (fun _ => .ok (.bl true)))
  (seqF (forE (fun env => ((argsC (rdV 0) args0) env).bind rng1) (bdN 4) lb_law_ring_2)
  (retF (rdV 3)))))
noncomputable def f_law_ring : List PV → R PV := fnJ 2 6 p_law_ring
noncomputable def lb_law_ring_is_1 : Env → F := (iteF (orT (toB (bin2 ltI (rdV 3) (fun _ => .ok (.int 0)))) (toB (bin2 geI (rdV 3) (callE lenB (argsC (rdV 2) args0)))))
  (retF (fun _ => .ok (.bl false)))
  nextF)
noncomputable def lb_law_ring_is_2 : Env → F := (seqF (setF 7 (bin2 ixP (rdV 2) (bin2 ixP (rdV 0) (rdV 6))))
  (seqF (setF 8 (bin2 ixP (rdV 2) (bin2 ixP (rdV 0) (bin2 modI (callE intB (argsC (bin2 addI (rdV 6) (fun _ => .ok (.int 1))) args0)) (callE lenB (argsC (rdV 0) args0))))))
  (seqF (iteF (orT (toB (bin2 neS (bin2 ixP (rdV 7) (fun _ => .ok (.int 1))) (bin2 ixP (rdV 8) (fun _ => .ok (.int 0))))) (toB (bin2 neS (ixO 4 (bin2 ixP (rdV 7) (fun _ => .ok (.int 0)))) (fun _ => .ok (.int 0)))))
  (retF (fun _ => .ok (.bl false)))
  nextF)
  (seqF (setI 4 (bin2 ixP (rdV 7) (fun _ => .ok (.int 0))) (fun _ => .ok (.int 1)))
  (augF 5 addI (bin2 ixP (rdV 7) (fun _ => .ok (.int 4))))))))
noncomputable def p_law_ring_is : Env → F := (seqF (iteF (orT (toB (bin2 ltI (callE lenB (argsC (rdV 0) args0)) (fun _ => .ok (.int 2)))) (toB (bin2 gtI (callE lenB (argsC (rdV 0) args0)) (rdV 1))))
  (retF (fun _ => .ok (.bl false)))
  nextF)
  (seqF (forE (itE (rdV 0)) (bdN 3) lb_law_ring_is_1)
  (seqF (setCO 4 (repO (argsC (fun _ => .ok (.int 0)) args0) (rdV 1)))
  (seqF (setF 5 (fun _ => .ok (.int 0)))
  (seqF (forE (fun env => ((argsC (callE lenB (argsC (rdV 0) args0)) args0) env).bind rng1) (bdN 6) lb_law_ring_is_2)
  (retF (bin2 ltI (rdV 5) (fun _ => .ok (.int 0)))))))))
noncomputable def f_law_ring_is : List PV → R PV := fnJ 3 9 p_law_ring_is
noncomputable def lb_law_heights_right_2 : Env → F := (iteF (toB (bin2 ltI (bin2 addI (bin2 ixP (bin2 ixP (rdV 0) (fun _ => .ok (.int 1))) (bin2 ixP (rdV 4) (fun _ => .ok (.int 0)))) (bin2 ixP (rdV 4) (fun _ => .ok (.int 4)))) (bin2 ixP (bin2 ixP (rdV 0) (fun _ => .ok (.int 1))) (bin2 ixP (rdV 4) (fun _ => .ok (.int 1))))))
  (retF (fun _ => .ok (.bl false)))
  nextF)
noncomputable def p_law_heights_right : Env → F := (seqF (iteF (orT (notT (toB (un1 (isiP it_tuple_w) (rdV 0)))) (orT (toB (bin2 neS (callE lenB (argsC (rdV 0) args0)) (fun _ => .ok (.int 2)))) (notT (toB (un1 (isiP it_tuple_w) (bin2 ixP (rdV 0) (fun _ => .ok (.int 1))))))))
  (retF (fun _ => .ok (.bl false)))
  nextF)
  (seqF (forE (itE (bin2 ixP (rdV 0) (fun _ => .ok (.int 1)))) (bdN 3) lb_law_heights_right_1)
  (seqF (iteF (toB (callE f_law_ring (argsC (rdV 1) (argsC (rdV 2) args0))))
  (retF (andV (bin2 eqS (bin2 ixP (rdV 0) (fun _ => .ok (.int 0))) (fun _ => .ok (.str "ring"))) (callE f_law_ring_is (argsC (bin2 ixP (rdV 0) (fun _ => .ok (.int 1))) (argsC (rdV 1) (argsC (rdV 2) args0))))))
  nextF)
  (seqF (iteF (orT (toB (bin2 neS (bin2 ixP (rdV 0) (fun _ => .ok (.int 0))) (fun _ => .ok (.str "heights")))) (toB (bin2 neS (callE lenB (argsC (bin2 ixP (rdV 0) (fun _ => .ok (.int 1))) args0)) (rdV 1))))
  (retF (fun _ => .ok (.bl false)))
  nextF)
  (seqF (forE (itE (rdV 2)) (bdN 4) lb_law_heights_right_2)
  (retF (fun _ => .ok (.bl true))))))))
noncomputable def f_law_heights_right : List PV → R PV := fnJ 3 5 p_law_heights_right
noncomputable def lb_law_k81_2 : Env → F := (appF 14 (tupE (argsC (bin2 ixP (rdV 12) (fun _ => .ok (.int 0))) (argsC (bin2 ixP (rdV 12) (fun _ => .ok (.int 1))) (argsC (fun _ => .ok (.int 0)) (argsC (fun _ => .ok .non) (argsC (un1 negI (bin2 ixP (rdV 12) (fun _ => .ok (.int 4)))) args0)))))))
noncomputable def p_law_edge_faults : Env → F := (seqF (setF 4 (bin2 ixP (bin2 ixP (rdV 1) (rdV 2)) (fun _ => .ok (.int 0))))
  (seqF (setF 5 (bin2 ixP (bin2 ixP (rdV 1) (rdV 2)) (fun _ => .ok (.int 1))))
  (seqF (setF 6 (bin2 ixP (bin2 ixP (rdV 1) (rdV 2)) (fun _ => .ok (.int 2))))
  (seqF (setF 7 (bin2 ixP (bin2 ixP (rdV 1) (rdV 2)) (fun _ => .ok (.int 3))))
  (seqF (setF 8 (bin2 ixP (bin2 ixP (rdV 1) (rdV 2)) (fun _ => .ok (.int 4))))
  (seqF (setCO 9 (lstO (argsC (tupE (argsC (tupE (argsC (rdV 3) (argsC (rdV 5) (argsC (rdV 6) (argsC (rdV 7) (argsC (rdV 8) args0)))))) (argsC (tupE (argsC (fun _ => .ok (.str "no")) (argsC (rdV 3) args0))) args0))) args0)))
  (seqF (appF 9 (tupE (argsC (tupE (argsC (rdV 4) (argsC (rdV 3) (argsC (rdV 6) (argsC (rdV 7) (argsC (rdV 8) args0)))))) (argsC (tupE (argsC (fun _ => .ok (.str "no")) (argsC (rdV 3) args0))) args0))))
  (seqF (appF 9 (tupE (argsC (tupE (argsC (un1 negI (fun _ => .ok (.int 2))) (argsC (rdV 3) (argsC (rdV 6) (argsC (rdV 7) (argsC (rdV 8) args0)))))) (argsC (tupE (argsC (fun _ => .ok (.str "no")) (argsC (un1 negI (fun _ => .ok (.int 2))) args0))) args0))))
  (seqF (appF 9 (tupE (argsC (tupE (argsC (rdV 3) (argsC (rdV 3) (argsC (un1 negI (fun _ => .ok (.int 1))) (argsC (fun _ => .ok (.int 1001)) (argsC (fun _ => .ok (.int 1001)) args0)))))) (argsC (tupE (argsC (fun _ => .ok (.str "no")) (argsC (rdV 3) args0))) args0))))
  (seqF (appF 9 (tupE (argsC (tupE (argsC (rdV 4) (argsC (rdV 3) (argsC (fun _ => .ok (.int 1001)) (argsC (fun _ => .ok (.int 0)) (argsC (un1 negI (fun _ => .ok (.int 1001))) args0)))))) (argsC (tupE (argsC (fun _ => .ok (.str "no")) (argsC (rdV 3) args0))) args0))))
  (seqF (appF 9 (tupE (argsC (tupE (argsC (rdV 4) (argsC (rdV 4) (argsC (rdV 6) (argsC (rdV 7) (argsC (rdV 8) args0)))))) (argsC (tupE (argsC (fun _ => .ok (.str "edge")) (argsC (rdV 2) args0))) args0))))
  (seqF (appF 9 (tupE (argsC (tupE (argsC (rdV 4) (argsC (rdV 5) (argsC (un1 negI (fun _ => .ok (.int 1))) (argsC (rdV 7) (argsC (rdV 8) args0)))))) (argsC (tupE (argsC (fun _ => .ok (.str "edge")) (argsC (rdV 2) args0))) args0))))
  (seqF (appF 9 (tupE (argsC (tupE (argsC (rdV 4) (argsC (rdV 5) (argsC (fun _ => .ok (.int 1001)) (argsC (fun _ => .ok .non) (argsC (rdV 8) args0)))))) (argsC (tupE (argsC (fun _ => .ok (.str "edge")) (argsC (rdV 2) args0))) args0))))
  (seqF (appF 9 (tupE (argsC (tupE (argsC (rdV 4) (argsC (rdV 5) (argsC (fun _ => .ok (.int 1001)) (argsC (fun _ => .ok (.int 1001)) (argsC (rdV 8) args0)))))) (argsC (tupE (argsC (fun _ => .ok (.str "edge")) (argsC (rdV 2) args0))) args0))))
  (seqF (appF 9 (tupE (argsC (tupE (argsC (rdV 4) (argsC (rdV 5) (argsC (rdV 6) (argsC (bin2 subI (rdV 6) (fun _ => .ok (.int 1))) (argsC (rdV 8) args0)))))) (argsC (tupE (argsC (fun _ => .ok (.str "edge")) (argsC (rdV 2) args0))) args0))))
  (seqF (appF 9 (tupE (argsC (tupE (argsC (rdV 4) (argsC (rdV 5) (argsC (fun _ => .ok (.int 5)) (argsC (fun _ => .ok (.int 4)) (argsC (rdV 8) args0)))))) (argsC (tupE (argsC (fun _ => .ok (.str "edge")) (argsC (rdV 2) args0))) args0))))
  (seqF (appF 9 (tupE (argsC (tupE (argsC (rdV 4) (argsC (rdV 5) (argsC (fun _ => .ok (.int 1000)) (argsC (fun _ => .ok (.int 999)) (argsC (rdV 8) args0)))))) (argsC (tupE (argsC (fun _ => .ok (.str "edge")) (argsC (rdV 2) args0))) args0))))
  (seqF (appF 9 (tupE (argsC (tupE (argsC (rdV 4) (argsC (rdV 5) (argsC (rdV 6) (argsC (fun _ => .ok (.int 1001)) (argsC (rdV 8) args0)))))) (argsC (tupE (argsC (fun _ => .ok (.str "edge")) (argsC (rdV 2) args0))) args0))))
  (seqF (appF 9 (tupE (argsC (tupE (argsC (rdV 4) (argsC (rdV 5) (argsC (rdV 6) (argsC (rdV 7) (argsC (fun _ => .ok (.int 1001)) args0)))))) (argsC (tupE (argsC (fun _ => .ok (.str "edge")) (argsC (rdV 2) args0))) args0))))
  (seqF (appF 9 (tupE (argsC (tupE (argsC (rdV 4) (argsC (rdV 5) (argsC (rdV 6) (argsC (rdV 7) (argsC (un1 negI (fun _ => .ok (.int 1001))) args0)))))) (argsC (tupE (argsC (fun _ => .ok (.str "edge")) (argsC (rdV 2) args0))) args0))))
  (seqF (appF 9 (tupE (argsC (tupE (argsC (rdV 4) (argsC (rdV 5) (argsC (fun _ => .ok (.int 1000)) (argsC (fun _ => .ok (.int 1000)) (argsC (fun _ => .ok (.int 1000)) args0)))))) (argsC (tupE (argsC (fun _ => .ok (.str "let")) (argsC (fun _ => .ok (.int 0)) args0))) args0))))
  (seqF (appF 9 (tupE (argsC (tupE (argsC (rdV 4) (argsC (rdV 5) (argsC (fun _ => .ok (.int 1000)) (argsC (fun _ => .ok .non) (argsC (un1 negI (fun _ => .ok (.int 1000))) args0)))))) (argsC (tupE (argsC (fun _ => .ok (.str "let")) (argsC (fun _ => .ok (.int 0)) args0))) args0))))
  (seqF (appF 9 (tupE (argsC (tupE (argsC (rdV 4) (argsC (rdV 5) (argsC (fun _ => .ok (.int 0)) (argsC (fun _ => .ok (.int 1000)) (argsC (fun _ => .ok (.int 0)) args0)))))) (argsC (tupE (argsC (fun _ => .ok (.str "let")) (argsC (fun _ => .ok (.int 0)) args0))) args0))))
  (seqF (appF 9 (tupE (argsC (tupE (argsC (rdV 5) (argsC (rdV 4) (argsC (fun _ => .ok (.int 0)) (argsC (fun _ => .ok (.int 0)) (argsC (un1 negI (fun _ => .ok (.int 1))) args0)))))) (argsC (tupE (argsC (fun _ => .ok (.str "let")) (argsC (fun _ => .ok (.int 0)) args0))) args0))))
  (fun env => (retF (rdV 9)) (frz 9 env))))))))))))))))))))))))))
noncomputable def f_law_edge_faults : List PV → R PV := fnJ 4 10 p_law_edge_faults
noncomputable def p_law_with : Env → F := (seqF (setCO 3 (listO (rdV 0)))
  (seqF (setI 3 (rdV 1) (rdV 2))
  (fun env => (retF (rdV 3)) (frz 3 env))))
noncomputable def f_law_with : List PV → R PV := fnJ 3 4 p_law_with
noncomputable def p_law_integer_k81 : Env → F := (seqF (iteF (orT (toB (un1 (isiP it_bool_w) (rdV 0))) (notT (toB (un1 (isiP it_int_w) (rdV 0)))))
  (retF (fun _ => .ok .non))
  nextF)
  (retF (rdV 0)))
noncomputable def f_law_integer_k81 : List PV → R PV := fnJ 1 1 p_law_integer_k81
noncomputable def p_law_made : Env → F := (seqF (tryF cat_BestError_w 3 (dropF (makeE f_Web_init [] (argsC (rdV 0) (argsC (rdV 1) (argsC (rdV 2) args0)))))
  (seqF (setF 4 (lstE (argsC (isxP xt_is_BadCount_w 3) (argsC (isxP xt_is_NoPlace_w 3) args0))))
  (seqF (setF 4 (bin2 catL (rdV 4) (lstE (argsC (isxP xt_is_BadEdge_w 3) (argsC (isxP xt_is_WrongWidth_w 3) args0)))))
  (seqF (setF 4 (bin2 catL (rdV 4) (lstE (argsC (isxP xt_is_BadSupply_w 3) (argsC (isxP xt_is_Unbalanced_w 3) args0)))))
  (seqF (iteF (orT (toB (bin2 neS (cntE (rdV 4) (fun _ => .ok (.bl true))) (fun _ => .ok (.int 1)))) (notT (toB (isxP xt_is_ValueError_w 3))))
  (retF (tupE (argsC (fun _ => .ok (.str "odd")) (argsC (fun _ => .ok (.int 0)) args0))))
  nextF)
  (seqF (iteF (toTru (bin2 ixP (rdV 4) (fun _ => .ok (.int 0))))
  (retF (tupE (argsC (fldx [4] "what" 3) (argsC (callE f_law_integer_k81 (argsC (fldx [4] "many" 3) args0)) args0))))
  nextF)
  (seqF (iteF (toTru (bin2 ixP (rdV 4) (fun _ => .ok (.int 1))))
  (retF (tupE (argsC (fun _ => .ok (.str "no")) (argsC (callE f_law_integer_k81 (argsC (fldx [32, 34] "place" 3) args0)) args0))))
  nextF)
  (seqF (iteF (toTru (bin2 ixP (rdV 4) (fun _ => .ok (.int 2))))
  (retF (tupE (argsC (fun _ => .ok (.str "edge")) (argsC (callE f_law_integer_k81 (argsC (fldx [33] "at" 3) args0)) args0))))
  nextF)
  (seqF (iteF (toTru (bin2 ixP (rdV 4) (fun _ => .ok (.int 3))))
  (retF (tupE (argsC (fun _ => .ok (.str "width")) (argsC (callE f_law_integer_k81 (argsC (fldx [14] "have" 3) args0)) (argsC (callE f_law_integer_k81 (argsC (fldx [14] "need" 3) args0)) args0)))))
  nextF)
  (seqF (iteF (toTru (bin2 ixP (rdV 4) (fun _ => .ok (.int 4))))
  (retF (tupE (argsC (fun _ => .ok (.str "supply")) (argsC (callE f_law_integer_k81 (argsC (fldx [32, 34] "place" 3) args0)) args0))))
  nextF)
  (retF (tupE (argsC (fun _ => .ok (.str "total")) (argsC (callE f_law_integer_k81 (argsC (fldx [35] "total" 3) args0)) args0))))))))))))))
  (retF (tupE (argsC (fun _ => .ok (.str "let")) (argsC (fun _ => .ok (.int 0)) args0)))))
noncomputable def f_law_made : List PV → R PV := fnJ 3 5 p_law_made
noncomputable def lb_law_edges_asked_1 : Env → F := (seqF (setF 6 (callE f_law_with (argsC (rdV 1) (argsC (rdV 3) (argsC (bin2 ixP (rdV 5) (fun _ => .ok (.int 0))) args0)))))
  (seqF (iteF (toB (bin2 qNotEq_A (callE f_law_made (argsC (rdV 0) (argsC (rdV 6) (argsC (rdV 2) args0)))) (bin2 ixP (rdV 5) (fun _ => .ok (.int 1)))))
  (retF (fun _ => .ok (.bl false)))
  nextF)
  (iteF (andT (toB (bin2 qNotEq_A (bin2 ixP (rdV 5) (fun _ => .ok (.int 1))) (tupE (argsC (fun _ => .ok (.str "let")) (argsC (fun _ => .ok (.int 0)) args0))))) (toB (bin2 qNotEq_A (callE f_law_made (argsC (rdV 0) (argsC (rdV 6) (argsC (lstE args0) args0)))) (bin2 ixP (rdV 5) (fun _ => .ok (.int 1))))))
  (retF (fun _ => .ok (.bl false)))
  nextF)))
noncomputable def p_law_edges_asked : Env → F := (seqF (forE (itE (callE f_law_edge_faults (argsC (rdV 0) (argsC (rdV 1) (argsC (rdV 3) (argsC (rdV 4) args0)))))) (bdN 5) lb_law_edges_asked_1)
  (seqF (setF 7 (bin2 subI (callE lenB (argsC (rdV 1) args0)) (fun _ => .ok (.int 1))))
  (seqF (iteF (toB (bin2 ltI (rdV 3) (rdV 7)))
  (seqF (setF 8 (tupE (argsC (bin2 ixP (bin2 ixP (rdV 1) (rdV 3)) (fun _ => .ok (.int 0))) (argsC (bin2 ixP (bin2 ixP (rdV 1) (rdV 3)) (fun _ => .ok (.int 1))) (argsC (fun _ => .ok (.int 0)) (argsC (fun _ => .ok (.int 0)) (argsC (fun _ => .ok (.int 1001)) args0)))))))
  (seqF (setF 6 (callE f_law_with (argsC (callE f_law_with (argsC (rdV 1) (argsC (rdV 7) (argsC (tupE (argsC (rdV 4) (argsC (rdV 4) (argsC (fun _ => .ok (.int 0)) (argsC (fun _ => .ok (.int 0)) (argsC (fun _ => .ok (.int 0)) args0)))))) args0)))) (argsC (rdV 3) (argsC (rdV 8) args0)))))
  (seqF (iteF (toB (bin2 qNotEq_A (callE f_law_made (argsC (rdV 0) (argsC (rdV 6) (argsC (rdV 2) args0)))) (tupE (argsC (fun _ => .ok (.str "edge")) (argsC (rdV 3) args0)))))
  (retF (fun _ => .ok (.bl false)))
  nextF)
  (seqF (setF 6 (callE f_law_with (argsC (callE f_law_with (argsC (rdV 1) (argsC (rdV 7) (argsC (tupE (argsC (fun _ => .ok (.int 0)) (argsC (fun _ => .ok (.int 0)) (argsC (fun _ => .ok (.int 0)) (argsC (fun _ => .ok (.int 0)) (argsC (fun _ => .ok (.int 0)) args0)))))) args0)))) (argsC (rdV 3) (argsC (tupE (argsC (rdV 4) (argsC (fun _ => .ok (.int 0)) (argsC (fun _ => .ok (.int 0)) (argsC (fun _ => .ok (.int 0)) (argsC (fun _ => .ok (.int 0)) args0)))))) args0)))))
  (iteF (toB (bin2 qNotEq_A (callE f_law_made (argsC (rdV 0) (argsC (rdV 6) (argsC (rdV 2) args0)))) (tupE (argsC (fun _ => .ok (.str "no")) (argsC (rdV 4) args0)))))
  (retF (fun _ => .ok (.bl false)))
  nextF)))))
  nextF)
  (retF (fun _ => .ok (.bl true))))))
noncomputable def f_law_edges_asked : List PV → R PV := fnJ 5 9 p_law_edges_asked
noncomputable def lb_law_supplies_asked_1 : Env → F := (seqF (setF 8 (callE f_law_with (argsC (rdV 6) (argsC (rdV 3) (argsC (rdV 7) args0)))))
  (iteF (toB (bin2 qNotEq_A (callE f_law_made (argsC (rdV 0) (argsC (rdV 1) (argsC (rdV 8) args0)))) (tupE (argsC (fun _ => .ok (.str "supply")) (argsC (rdV 3) args0)))))
  (retF (fun _ => .ok (.bl false)))
  nextF))
noncomputable def p_law_supplies_asked : Env → F := (seqF (setF 5 (sliceE (rdV 2) noB (someB (bin2 subI (rdV 0) (fun _ => .ok (.int 1))))))
  (seqF (iteF (toB (bin2 qNotEq_A (callE f_law_made (argsC (rdV 0) (argsC (rdV 1) (argsC (rdV 5) args0)))) (tupE (argsC (fun _ => .ok (.str "width")) (argsC (bin2 subI (rdV 0) (fun _ => .ok (.int 1))) (argsC (rdV 0) args0))))))
  (retF (fun _ => .ok (.bl false)))
  nextF)
  (seqF (iteF (toB (bin2 qNotEq_A (callE f_law_made (argsC (rdV 0) (argsC (rdV 1) (argsC (bin2 catL (lstE (argsC (fun _ => .ok (.int 1001)) args0)) (rdV 2)) args0)))) (tupE (argsC (fun _ => .ok (.str "width")) (argsC (bin2 addI (rdV 0) (fun _ => .ok (.int 1))) (argsC (rdV 0) args0))))))
  (retF (fun _ => .ok (.bl false)))
  nextF)
  (seqF (setF 6 (callE f_law_with (argsC (rdV 2) (argsC (bin2 subI (rdV 0) (fun _ => .ok (.int 1))) (argsC (fun _ => .ok (.int 1001)) args0)))))
  (seqF (forE (itE (lstE (argsC (fun _ => .ok (.int 1001)) (argsC (un1 negI (fun _ => .ok (.int 1001))) args0)))) (bdN 7) lb_law_supplies_asked_1)
  (seqF (setF 9 (callE f_law_with (argsC (rdV 2) (argsC (rdV 3) (argsC (bin2 addI (bin2 ixP (rdV 2) (rdV 3)) (rdV 4)) args0)))))
  (seqF (iteF (toB (bin2 qNotEq_A (callE f_law_made (argsC (rdV 0) (argsC (rdV 1) (argsC (rdV 9) args0)))) (tupE (argsC (fun _ => .ok (.str "total")) (argsC (rdV 4) args0)))))
  (retF (fun _ => .ok (.bl false)))
  nextF)
  (seqF (setCO 10 (repO (argsC (fun _ => .ok (.int 0)) args0) (rdV 0)))
  (seqF (setI 10 (rdV 3) (fun _ => .ok (.int 1000)))
  (seqF (setI 10 (bin2 modI (callE intB (argsC (bin2 addI (rdV 3) (fun _ => .ok (.int 1))) args0)) (rdV 0)) (un1 negI (fun _ => .ok (.int 1000))))
  (fun env => (retF (bin2 qEq_A (callE f_law_made (argsC (rdV 0) (argsC (rdV 1) (argsC (rdV 10) args0)))) (tupE (argsC (fun _ => .ok (.str "let")) (argsC (fun _ => .ok (.int 0)) args0))))) (frz 10 env))))))))))))
noncomputable def f_law_supplies_asked : List PV → R PV := fnJ 5 11 p_law_supplies_asked
noncomputable def lb_law_counts_asked_1 : Env → F := (seqF (iteF (toB (bin2 qNotEq_A (callE f_law_made (argsC (rdV 3) (argsC (rdV 1) (argsC (rdV 2) args0)))) (tupE (argsC (fun _ => .ok (.str "places")) (argsC (rdV 3) args0)))))
  (retF (fun _ => .ok (.bl false)))
  nextF)
  (iteF (toB (bin2 qNotEq_A (callE f_law_made (argsC (rdV 3) (argsC (lstE args0) (argsC (lstE args0) args0)))) (tupE (argsC (fun _ => .ok (.str "places")) (argsC (rdV 3) args0)))))
  (retF (fun _ => .ok (.bl false)))
  nextF))
noncomputable def p_law_counts_asked : Env → F := (seqF (forE (itE (lstE (argsC (fun _ => .ok (.int 1)) (argsC (fun _ => .ok (.int 0)) (argsC (fun _ => .ok (.int 9)) (argsC (fun _ => .ok (.int 17)) (argsC (un1 negI (fun _ => .ok (.int 1))) args0))))))) (bdN 3) lb_law_counts_asked_1)
  (seqF (iteF (toB (bin2 qNotEq_A (callE f_law_made (argsC (rdV 0) (argsC (lstE args0) (argsC (lstE args0) args0)))) (tupE (argsC (fun _ => .ok (.str "edges")) (argsC (fun _ => .ok (.int 0)) args0)))))
  (retF (fun _ => .ok (.bl false)))
  nextF)
  (seqF (setF 4 (lcE [5] (fun env => ((argsC (fun _ => .ok (.int 17)) args0) env).bind rng1) (bdN 5) yesT (bin2 ixP (rdV 1) (bin2 modI (callE intB (argsC (rdV 5) args0)) (callE lenB (argsC (rdV 1) args0))))))
  (seqF (iteF (toB (bin2 qNotEq_A (callE f_law_made (argsC (rdV 0) (argsC (rdV 4) (argsC (rdV 2) args0)))) (tupE (argsC (fun _ => .ok (.str "edges")) (argsC (fun _ => .ok (.int 17)) args0)))))
  (retF (fun _ => .ok (.bl false)))
  nextF)
  (seqF (setF 4 (callE f_law_with (argsC (rdV 4) (argsC (fun _ => .ok (.int 0)) (argsC (tupE (argsC (rdV 0) (argsC (fun _ => .ok (.int 0)) (argsC (fun _ => .ok (.int 0)) (argsC (fun _ => .ok (.int 0)) (argsC (fun _ => .ok (.int 0)) args0)))))) args0)))))
  (seqF (iteF (toB (bin2 qNotEq_A (callE f_law_made (argsC (rdV 0) (argsC (rdV 4) (argsC (lstE (argsC (fun _ => .ok (.int 1)) args0)) args0)))) (tupE (argsC (fun _ => .ok (.str "edges")) (argsC (fun _ => .ok (.int 17)) args0)))))
  (retF (fun _ => .ok (.bl false)))
  nextF)
  (retF (bin2 qEq_A (callE f_law_made (argsC (rdV 0) (argsC (sliceE (rdV 4) (someB (fun _ => .ok (.int 1))) noB) (argsC (rdV 2) args0)))) (tupE (argsC (fun _ => .ok (.str "let")) (argsC (fun _ => .ok (.int 0)) args0)))))))))))
noncomputable def f_law_counts_asked : List PV → R PV := fnJ 3 6 p_law_counts_asked
noncomputable def lb_law_plain_1 : Env → F := (seqF (iteF (andT (toB (bin2 notNP (bin2 ixP (rdV 0) (rdV 2)) (fun _ => .ok .non))) (toB (bin2 isNP (callE f_law_integer_k81 (argsC (bin2 ixP (rdV 0) (rdV 2)) args0)) (fun _ => .ok .non))))
  (retF (fun _ => .ok (.bl false)))
  nextF)
  (iteF (toB (bin2 qNotEq_A (bin2 ixP (rdV 0) (rdV 2)) (bin2 ixP (rdV 1) (rdV 2))))
  (retF (fun _ => .ok (.bl false)))
  nextF))
noncomputable def p_law_plain : Env → F := (seqF (iteF (orT (notT (toB (un1 (isiP it_tuple_w) (rdV 0)))) (toB (bin2 qNotEq_A (callE lenB (argsC (rdV 0) args0)) (callE lenB (argsC (rdV 1) args0)))))
  (retF (fun _ => .ok (.bl false)))
  nextF)
  (seqF (forE (fun env => ((argsC (callE lenB (argsC (rdV 1) args0)) args0) env).bind rng1) (bdN 2) lb_law_plain_1)
  (retF (fun _ => .ok (.bl true)))))
noncomputable def f_law_plain : List PV → R PV := fnJ 2 3 p_law_plain
noncomputable def lb_law_k81_3 : Env → F := (iteF (notT (toB (callE f_law_plain (argsC (bin2 ixP (fldE [31] "edges" (rdV 10)) (rdV 6)) (argsC (bin2 ixP (rdV 8) (rdV 6)) args0)))))
  (retF (fun _ => .ok (.bl false)))
  nextF)
noncomputable def p_law_k81 : Env → F := (seqF (setF 0 (sliceE (rdV 0) noB (someB (fun _ => .ok (.int 63)))))
  (seqF (setF 1 (callE f_law_cell (argsC (rdV 0) (argsC (fun _ => .ok (.int 0)) args0))))
  (seqF (setF 2 (bin2 mulI (fun _ => .ok (.int 2)) (bin2 modI (callE intB (argsC (rdV 1) args0)) (fun _ => .ok (.int 2)))))
  (seqF (setF 3 (bin2 ixP (lstE (argsC (fun _ => .ok (.int 4)) (argsC (fun _ => .ok (.int 3)) (argsC (fun _ => .ok (.int 5)) (argsC (fun _ => .ok (.int 2)) (argsC (fun _ => .ok (.int 6)) (argsC (fun _ => .ok (.int 8)) (argsC (fun _ => .ok (.int 7)) args0)))))))) (bin2 modI (callE intB (argsC (bin2 fdivI (rdV 1) (fun _ => .ok (.int 2))) args0)) (fun _ => .ok (.int 7)))))
  (seqF (setF 4 (bin2 ixP (lstE (argsC (fun _ => .ok (.int 5)) (argsC (fun _ => .ok (.int 6)) (argsC (fun _ => .ok (.int 4)) (argsC (fun _ => .ok (.int 7)) (argsC (fun _ => .ok (.int 3)) (argsC (fun _ => .ok (.int 2)) (argsC (fun _ => .ok (.int 1)) (argsC (fun _ => .ok (.int 16)) args0))))))))) (bin2 modI (callE intB (argsC (bin2 fdivI (rdV 1) (fun _ => .ok (.int 14))) args0)) (fun _ => .ok (.int 8)))))
  (seqF (ownF 5)
  (seqF (forE (fun env => ((argsC (rdV 4) args0) env).bind rng1) (bdN 6) lb_law_k81_1)
  (fun env => (seqF (setCO 5 (callO fo_law_recosted (argsC (rdV 5) (argsC (rdV 2) args0))))
  (seqF (setF 7 (callE f_law_free (argsC (rdV 0) (argsC (rdV 3) args0))))
  (fun env => (seqF (setCO 8 (listO (rdV 5)))
  (seqF (setCO 9 (listO (rdV 7)))
  (seqF (setF 10 (makeE f_Web_init [] (argsC (rdV 3) (argsC (rdV 5) (argsC (rdV 7) args0)))))
  (seqF (iteF (notT (toB (callE f_law_heights_right (argsC (callE f_heights (argsC (rdV 10) args0)) (argsC (rdV 3) (argsC (rdV 5) args0))))))
  (retF (fun _ => .ok (.bl false)))
  nextF)
  (seqF (setF 11 (lcE [12] (itE (rdV 5)) (bdN 12) yesT (tupE (argsC (bin2 ixP (rdV 12) (fun _ => .ok (.int 0))) (argsC (bin2 ixP (rdV 12) (fun _ => .ok (.int 1))) (argsC (fun _ => .ok (.int 0)) (argsC (fun _ => .ok (.int 0)) (argsC (bin2 ixP (rdV 12) (fun _ => .ok (.int 4))) args0))))))))
  (seqF (setF 13 (makeE f_Web_init [] (argsC (rdV 3) (argsC (rdV 11) (argsC (ofO (repO (argsC (fun _ => .ok (.int 0)) args0) (rdV 3))) args0)))))
  (seqF (iteF (notT (toB (callE f_law_heights_right (argsC (callE f_heights (argsC (rdV 13) args0)) (argsC (rdV 3) (argsC (rdV 5) args0))))))
  (retF (fun _ => .ok (.bl false)))
  nextF)
  (seqF (ownF 14)
  (seqF (forE (itE (rdV 5)) (bdN 12) lb_law_k81_2)
  (fun env => (seqF (setF 15 (makeE f_Web_init [] (argsC (rdV 3) (argsC (rdV 14) (argsC (ofO (repO (argsC (fun _ => .ok (.int 0)) args0) (rdV 3))) args0)))))
  (seqF (iteF (notT (toB (callE f_law_heights_right (argsC (callE f_heights (argsC (rdV 15) args0)) (argsC (rdV 3) (argsC (rdV 14) args0))))))
  (retF (fun _ => .ok (.bl false)))
  nextF)
  (seqF (iteF (notT (toB (callE f_law_heights_right (argsC (callE f_heights (argsC (rdV 10) args0)) (argsC (rdV 3) (argsC (rdV 5) args0))))))
  (retF (fun _ => .ok (.bl false)))
  nextF)
  (seqF (setF 1 (callE f_law_cell (argsC (rdV 0) (argsC (fun _ => .ok (.int 24)) args0))))
  (seqF (setF 16 (bin2 ixP (lstE (argsC (un1 negI (fun _ => .ok (.int 1))) (argsC (rdV 3) (argsC (bin2 addI (rdV 3) (fun _ => .ok (.int 3))) (argsC (un1 negI (rdV 3)) args0))))) (bin2 modI (callE intB (argsC (rdV 1) args0)) (fun _ => .ok (.int 4)))))
  (seqF (setF 17 (bin2 modI (callE intB (argsC (bin2 fdivI (rdV 1) (fun _ => .ok (.int 4))) args0)) (rdV 4)))
  (seqF (setF 18 (bin2 modI (callE intB (argsC (bin2 fdivI (rdV 1) (fun _ => .ok (.int 64))) args0)) (rdV 3)))
  (seqF (iteF (notT (toB (callE f_law_edges_asked (argsC (rdV 3) (argsC (rdV 5) (argsC (rdV 7) (argsC (rdV 17) (argsC (rdV 16) args0))))))))
  (retF (fun _ => .ok (.bl false)))
  nextF)
  (seqF (iteF (notT (toB (callE f_law_supplies_asked (argsC (rdV 3) (argsC (rdV 5) (argsC (rdV 7) (argsC (rdV 18) (argsC (rdV 16) args0))))))))
  (retF (fun _ => .ok (.bl false)))
  nextF)
  (seqF (iteF (notT (toB (callE f_law_counts_asked (argsC (rdV 3) (argsC (rdV 5) (argsC (rdV 7) args0))))))
  (retF (fun _ => .ok (.bl false)))
  nextF)
  (fun env => (seqF (iteF (orT (toB (bin2 qNotEq_A (callE f_law_integer_k81 (argsC (fldE [31] "places" (rdV 10)) args0)) (rdV 3))) (toB (bin2 qNotEq_A (fldE [31] "edges" (rdV 10)) (callE tupB (argsC (rdV 8) args0)))))
  (retF (fun _ => .ok (.bl false)))
  nextF)
  (seqF (forE (fun env => ((argsC (rdV 4) args0) env).bind rng1) (bdN 6) lb_law_k81_3)
  (fun env => (retF (andV (bin2 qEq_A (rdV 5) (rdV 8)) (andV (bin2 qEq_A (rdV 7) (rdV 9)) (callE f_law_plain (argsC (fldE [31] "supplies" (rdV 10)) (argsC (rdV 9) args0)))))) (frz 9 env)))) (frz 8 env)))))))))))) (frz 14 env))))))))))) (frz 5 env)))) (frz 5 env)))))))))
noncomputable def f_law_k81 : List PV → R PV := fnJ 1 19 p_law_k81
end J

namespace J
open PySem.Spec PySem
structure Arc where
  t : Nat
  h : Nat
  c : Int
structure Bf where
  lab : Nat → Int
  wy : Nat → Option Nat
  pl : Option Nat
def upd1 {α : Type} (f : Nat → α) (k : Nat) (v : α) : Nat → α := fun i => if i = k then v else f i
theorem upd1_same {α : Type} (f : Nat → α) (k : Nat) (v : α) : upd1 f k v k = v := if_pos rfl
theorem upd1_ne {α : Type} (f : Nat → α) {k i : Nat} (v : α) (h : i ≠ k) : upd1 f k v i = f i := if_neg h
def Bf.rel (s : Bf) (a : Nat) (e : Arc) : Bf := if s.lab e.t + e.c < s.lab e.h then ⟨upd1 s.lab e.h (s.lab e.t + e.c), upd1 s.wy e.h (some a), some e.h⟩ else s
def Bf.rnd : Bf → Nat → List Arc → Bf
  | s, _, [] => s
  | s, i, e :: es => Bf.rnd (s.rel i e) (i + 1) es
def Bf.clr (s : Bf) : Bf := { s with pl := none }
def Bf.run (es : List Arc) : Nat → Bf → Bf
  | 0, s => s
  | k + 1, s => if ((s.clr).rnd 0 es).pl = none then (s.clr).rnd 0 es else Bf.run es k ((s.clr).rnd 0 es)
def Sat (s : Bf) (e : Arc) : Prop := s.lab e.h ≤ s.lab e.t + e.c
theorem rnd_some (es : List Arc) : ∀ (s : Bf) (i : Nat), s.pl ≠ none → (s.rnd i es).pl ≠ none := by
  induction es with
  | nil => intro s i h; exact h
  | cons e es ih =>
    intro s i h
    refine ih _ _ ?_
    unfold Bf.rel
    split
    · exact fun z => nomatch z
    · exact h
theorem rnd_none (es : List Arc) : ∀ (s : Bf) (i : Nat), (s.rnd i es).pl = none → s.rnd i es = s ∧ ∀ e ∈ es, Sat s e := by
  induction es with
  | nil => intro s i _; exact ⟨rfl, fun e he => nomatch he⟩
  | cons e es ih =>
    intro s i h
    by_cases z : s.lab e.t + e.c < s.lab e.h
    · exfalso
      refine rnd_some es (s.rel i e) (i + 1) ?_ h
      unfold Bf.rel
      rw [if_pos z]
      exact fun z => nomatch z
    · have r : s.rel i e = s := by unfold Bf.rel; rw [if_neg z]
      have h' : (s.rnd (i + 1) es).pl = none := by
        have : (s.rnd i (e :: es)).pl = ((s.rel i e).rnd (i + 1) es).pl := rfl
        rw [this, r] at h
        exact h
      obtain ⟨h1, h2⟩ := ih s (i + 1) h'
      refine ⟨?_, fun f hf => ?_⟩
      · show (s.rel i e).rnd (i + 1) es = s
        rw [r, h1]
      · rcases List.mem_cons.mp hf with q | q
        · rw [q]; unfold Sat; omega
        · exact h2 f q
structure Gi (es : List Arc) (n : Nat) (s : Bf) (R T : Nat → Nat) (now k : Nat) : Prop where
  gNone : ∀ v, s.wy v = none → R v = 0
  gSome : ∀ v a, s.wy v = some a → ∃ e, es[a]? = some e ∧ e.h = v ∧ e.t < n ∧ v < n ∧ s.lab e.t + e.c ≤ s.lab v ∧ (T v < T e.t → s.lab e.t + e.c < s.lab v) ∧ 1 ≤ R v ∧ R v ≤ R e.t + 1
  gNow : ∀ v, T v ≤ now
  gInj : ∀ u v, s.wy u ≠ none → s.wy v ≠ none → T u = T v → u = v
  Rk : ∀ v, R v ≤ k
  gPl : ∀ v, s.pl = some v → R v = k ∧ v < n
def Old (es : List Arc) (s : Bf) (R : Nat → Nat) (k : Nat) : Prop := ∀ e ∈ es, Sat s e ∨ k ≤ R e.t + 1
def New (es : List Arc) (s : Bf) (R : Nat → Nat) (k : Nat) : Prop := ∀ e ∈ es, Sat s e ∨ k ≤ R e.t
structure ArcsOk (es : List Arc) (n : Nat) : Prop where
  t : ∀ e ∈ es, e.t < n
  h : ∀ e ∈ es, e.h < n
  ne : ∀ e ∈ es, e.t ≠ e.h
theorem rel_step {all : List Arc} {n : Nat} (A : ArcsOk all n) {s : Bf} {R T : Nat → Nat} {now k : Nat} (hk : 1 ≤ k) (G : Gi all n s R T now k) (O : Old all s R k) {a : Nat} {e : Arc} (ha : all[a]? = some e) {pre : List Arc} (N : New pre s R k) :
    ∃ R' T' now', Gi all n (s.rel a e) R' T' now' k ∧ Old all (s.rel a e) R' k ∧ New (pre ++ [e]) (s.rel a e) R' k := by
  have em := List.mem_of_getElem? ha
  have et := A.t e em
  have eh := A.h e em
  have en := A.ne e em
  by_cases z : s.lab e.t + e.c < s.lab e.h
  · have r : s.rel a e = ⟨upd1 s.lab e.h (s.lab e.t + e.c), upd1 s.wy e.h (some a), some e.h⟩ := by unfold Bf.rel; rw [if_pos z]
    rw [r]
    have hR : k ≤ R e.t + 1 := (O e em).resolve_left (fun q => by unfold Sat at q; omega)
    have lt : ∀ v, upd1 s.lab e.h (s.lab e.t + e.c) v ≤ s.lab v := fun v => by
      unfold upd1
      split
      · rename_i q; rw [q]; omega
      · exact Int.le_refl _
    have Rle : ∀ v, R v ≤ upd1 R e.h k v := fun v => by
      unfold upd1
      split
      · rename_i q; rw [q]; exact G.Rk _
      · exact Nat.le_refl _
    refine ⟨upd1 R e.h k, upd1 T e.h (now + 1), now + 1, ⟨fun v hv => ?_, fun v b hv => ?_, fun v => ?_, fun u v hu hv he => ?_, fun v => ?_, fun v hv => ?_⟩, fun f hf => ?_, fun f hf => ?_⟩
    · by_cases q : v = e.h
      · rw [q] at hv
        have hv : upd1 s.wy e.h (Option.some a) e.h = Option.none := hv
        rw [upd1_same] at hv
        cases hv
      · have hv : upd1 s.wy e.h (Option.some a) v = Option.none := hv
        rw [upd1_ne _ _ q] at hv ⊢
        exact G.gNone v hv
    · have hv : upd1 s.wy e.h (Option.some a) v = Option.some b := hv
      by_cases q : v = e.h
      · rw [q, upd1_same] at hv
        cases hv
        subst q
        refine ⟨e, ha, rfl, et, eh, ?_, fun w => ?_, ?_, ?_⟩
        · show upd1 s.lab e.h (s.lab e.t + e.c) e.t + e.c ≤ upd1 s.lab e.h (s.lab e.t + e.c) e.h
          rw [upd1_ne _ _ en, upd1_same]
          exact Int.le_refl _
        · exfalso
          rw [upd1_same, upd1_ne _ _ en] at w
          have := G.gNow e.t
          omega
        · rw [upd1_same]; exact hk
        · rw [upd1_same, upd1_ne _ _ en]; exact hR
      · rw [upd1_ne _ _ q] at hv
        obtain ⟨f, h1, h2, h3, h4, h5, h6, h7, h8⟩ := G.gSome v b hv
        refine ⟨f, h1, h2, h3, h4, ?_, fun w => ?_, ?_, ?_⟩
        · show upd1 s.lab e.h (s.lab e.t + e.c) f.t + f.c ≤ upd1 s.lab e.h (s.lab e.t + e.c) v
          rw [upd1_ne s.lab (s.lab e.t + e.c) q]
          have := lt f.t
          omega
        · show upd1 s.lab e.h (s.lab e.t + e.c) f.t + f.c < upd1 s.lab e.h (s.lab e.t + e.c) v
          rw [upd1_ne s.lab (s.lab e.t + e.c) q]
          by_cases y : f.t = e.h
          · rw [y, upd1_same]
            rw [y] at h5
            omega
          · rw [upd1_ne _ _ y]
            rw [upd1_ne _ _ q, upd1_ne _ _ y] at w
            exact h6 w
        · rw [upd1_ne _ _ q]; exact h7
        · rw [upd1_ne _ _ q]
          have := Rle f.t
          omega
    · unfold upd1
      split
      · exact Nat.le_refl _
      · have := G.gNow v; omega
    · have hu : upd1 s.wy e.h (Option.some a) u ≠ Option.none := hu
      have hv : upd1 s.wy e.h (Option.some a) v ≠ Option.none := hv
      by_cases qu : u = e.h
      · by_cases qv : v = e.h
        · rw [qu, qv]
        · rw [qu, upd1_same, upd1_ne _ _ qv] at he
          have := G.gNow v
          omega
      · by_cases qv : v = e.h
        · rw [qv, upd1_same, upd1_ne _ _ qu] at he
          have := G.gNow u
          omega
        · rw [upd1_ne _ _ qu, upd1_ne _ _ qv] at he
          rw [upd1_ne _ _ qu] at hu
          rw [upd1_ne _ _ qv] at hv
          exact G.gInj u v hu hv he
    · unfold upd1
      split
      · exact Nat.le_refl _
      · exact G.Rk v
    · cases hv
      exact ⟨upd1_same _ _ _, eh⟩
    · rcases O f hf with q | q
      · by_cases y : f.t = e.h
        · right
          rw [y, upd1_same]
          omega
        · left
          show upd1 s.lab e.h (s.lab e.t + e.c) f.h ≤ upd1 s.lab e.h (s.lab e.t + e.c) f.t + f.c
          rw [upd1_ne s.lab (s.lab e.t + e.c) y]
          have := lt f.h
          unfold Sat at q
          omega
      · right
        have := Rle f.t
        omega
    · have old : ∀ f, (Sat s f ∨ k ≤ R f.t) → Sat (⟨upd1 s.lab e.h (s.lab e.t + e.c), upd1 s.wy e.h (Option.some a), Option.some e.h⟩ : Bf) f ∨ k ≤ upd1 R e.h k f.t := fun f q => by
        by_cases y : f.t = e.h
        · right
          rw [y, upd1_same]
          exact Nat.le_refl _
        · rcases q with q | q
          · left
            show upd1 s.lab e.h (s.lab e.t + e.c) f.h ≤ upd1 s.lab e.h (s.lab e.t + e.c) f.t + f.c
            rw [upd1_ne s.lab (s.lab e.t + e.c) y]
            have := lt f.h
            unfold Sat at q
            omega
          · right
            have := Rle f.t
            omega
      rcases List.mem_append.mp hf with q | q
      · exact old f (N f q)
      · rw [List.mem_singleton] at q
        subst q
        left
        show upd1 s.lab f.h (s.lab f.t + f.c) f.h ≤ upd1 s.lab f.h (s.lab f.t + f.c) f.t + f.c
        rw [upd1_same, upd1_ne _ _ en]
        exact Int.le_refl _
  · have r : s.rel a e = s := by unfold Bf.rel; rw [if_neg z]
    rw [r]
    refine ⟨R, T, now, G, O, fun f hf => ?_⟩
    rcases List.mem_append.mp hf with q | q
    · exact N f q
    · rw [List.mem_singleton] at q
      subst q
      left
      unfold Sat
      omega
theorem rnd_step {all : List Arc} {n : Nat} (A : ArcsOk all n) {k : Nat} (hk : 1 ≤ k) : ∀ (es pre : List Arc) (s : Bf) (R T : Nat → Nat) (now : Nat), all = pre ++ es → Gi all n s R T now k → Old all s R k → New pre s R k →
    ∃ R' T' now', Gi all n (s.rnd pre.length es) R' T' now' k ∧ New all (s.rnd pre.length es) R' k
  | [], pre, s, R, T, now, h, G, O, N => ⟨R, T, now, G, by rw [h, List.append_nil]; exact N⟩
  | e :: es, pre, s, R, T, now, h, G, O, N => by
    have ha : all[pre.length]? = some e := by rw [h, List.getElem?_append_right (Nat.le_refl _)]; simp
    obtain ⟨R1, T1, now1, G1, O1, N1⟩ := rel_step A hk G O ha N
    have := rnd_step A hk es (pre ++ [e]) (s.rel pre.length e) R1 T1 now1 (by rw [h]; simp) G1 O1 N1
    rw [List.length_append] at this
    exact this
def Bf.zero : Bf := ⟨fun _ => 0, fun _ => none, none⟩
theorem run_inv {all : List Arc} {n : Nat} (A : ArcsOk all n) : ∀ (m k : Nat) (s : Bf) (R T : Nat → Nat) (now : Nat), Gi all n s R T now k → New all s R k → (s.run all m).pl ≠ none → (m = 0 → s.pl ≠ none) →
    ∃ R' T' now', Gi all n (s.run all m) R' T' now' (k + m)
  | 0, k, s, R, T, now, G, N, h, _ => ⟨R, T, now, G⟩
  | m + 1, k, s, R, T, now, G, N, h, _ => by
    have Gc : Gi all n s.clr R T now (k + 1) := ⟨G.gNone, G.gSome, G.gNow, G.gInj, fun v => Nat.le_trans (G.Rk v) (Nat.le_succ k), fun v hv => nomatch hv⟩
    have Oc : Old all s.clr R (k + 1) := fun e he => (N e he).elim .inl fun q => .inr (Nat.succ_le_succ q)
    obtain ⟨R1, T1, now1, G1, N1⟩ := rnd_step A (Nat.le_add_left 1 k) all [] s.clr R T now rfl Gc Oc (fun e he => nomatch he)
    have G1 : Gi all n (s.clr.rnd 0 all) R1 T1 now1 (k + 1) := G1
    have N1 : New all (s.clr.rnd 0 all) R1 (k + 1) := N1
    by_cases z : (s.clr.rnd 0 all).pl = none
    · exfalso
      unfold Bf.run at h
      rw [if_pos z] at h
      exact h z
    · have e : s.run all (m + 1) = (s.clr.rnd 0 all).run all m := by
        show (if _ then _ else _) = _
        rw [if_neg z]
      rw [e] at h ⊢
      obtain ⟨R2, T2, now2, G2⟩ := run_inv A m (k + 1) _ R1 T1 now1 G1 N1 h (fun _ => z)
      exact ⟨R2, T2, now2, by rw [show k + (m + 1) = k + 1 + m by omega]; exact G2⟩
theorem zero_inv {all : List Arc} {n : Nat} : Gi all n Bf.zero (fun _ => 0) (fun _ => 0) 0 0 ∧ New all Bf.zero (fun _ => 0) 0 :=
  ⟨⟨fun v _ => rfl, fun v a h => (nomatch h), fun v => Nat.le_refl _, fun u v h => absurd rfl h, fun v => Nat.le_refl _, fun v h => nomatch h⟩, fun e he => .inr (Nat.zero_le _)⟩
theorem run_end {all : List Arc} {n : Nat} (A : ArcsOk all n) (hn : 1 ≤ n) {v : Nat} (h : (Bf.zero.run all n).pl = some v) : ∃ R T now, Gi all n (Bf.zero.run all n) R T now n ∧ R v = n ∧ v < n := by
  obtain ⟨R, T, now, G⟩ := run_inv A n 0 Bf.zero (fun _ => 0) (fun _ => 0) 0 (zero_inv (all := all) (n := n)).1 (zero_inv (all := all) (n := n)).2 (by rw [h]; exact fun z => nomatch z) (fun z => by omega)
  rw [Nat.zero_add] at G
  exact ⟨R, T, now, G, G.gPl v h⟩
end J

namespace J
open PySem.Spec PySem
def itn (f : Nat → Nat) : Nat → Nat → Nat
  | 0, v => v
  | k + 1, v => itn f k (f v)
theorem itn_add (f : Nat → Nat) : ∀ (a b v : Nat), itn f (a + b) v = itn f b (itn f a v)
  | 0, b, v => by rw [Nat.zero_add]; rfl
  | a + 1, b, v => by rw [show a + 1 + b = (a + b) + 1 by omega]; exact itn_add f a b (f v)
theorem itn_suc (f : Nat → Nat) (k v : Nat) : itn f (k + 1) v = f (itn f k v) := by rw [itn_add f k 1 v]; rfl
theorem pigeon : ∀ (n : Nat) (f : Nat → Nat), (∀ i, i ≤ n → f i < n) → ∃ i j, i < j ∧ j ≤ n ∧ f i = f j
  | 0, f, h => absurd (h 0 (Nat.le_refl _)) (Nat.not_lt_zero _)
  | n + 1, f, h => by
    by_cases z : ∃ i, i ≤ n ∧ f i = f (n + 1)
    · obtain ⟨i, hi, e⟩ := z
      exact ⟨i, n + 1, by omega, Nat.le_refl _, e⟩
    · have nz : ∀ i, i ≤ n → f i ≠ f (n + 1) := fun i hi e => z ⟨i, hi, e⟩
      obtain ⟨i, j, h1, h2, h3⟩ := pigeon n (fun i => if f i = n then f (n + 1) else f i) (fun i hi => by
        show (if f i = n then f (n + 1) else f i) < n
        have a1 := h i (by omega)
        have a2 := h (n + 1) (Nat.le_refl _)
        have a3 := nz i hi
        split <;> omega)
      have h3 : (if f i = n then f (n + 1) else f i) = (if f j = n then f (n + 1) else f j) := h3
      have b1 := nz i (by omega)
      have b2 := nz j (by omega)
      refine ⟨i, j, h1, by omega, ?_⟩
      split at h3 <;> split at h3 <;> omega
def fa (es : List Arc) (s : Bf) (v : Nat) : Nat := match s.wy v with
  | none => v
  | some a => match es[a]? with
    | some e => e.t
    | none => v
def ba (s : Bf) (v : Nat) : Nat := match s.wy v with
  | none => 0
  | some a => a
def ca (es : List Arc) (a : Nat) : Int := match es[a]? with
  | some e => e.c
  | none => 0
theorem fa_of {es : List Arc} {s : Bf} {v a : Nat} {e : Arc} (h : s.wy v = some a) (h1 : es[a]? = some e) : fa es s v = e.t := by simp only [fa, h, h1]
theorem ba_of {s : Bf} {v a : Nat} (h : s.wy v = some a) : ba s v = a := by simp only [ba, h]
theorem ca_of {es : List Arc} {a : Nat} {e : Arc} (h1 : es[a]? = some e) : ca es a = e.c := by simp only [ca, h1]
structure Cyc (es : List Arc) (n d : Nat) (w b : Nat → Nat) : Prop where
  two : 2 ≤ d
  le : d ≤ n
  arc : ∀ m, ∃ e, es[b m]? = some e ∧ e.h = w m ∧ e.t = w (m + 1)
  lt : ∀ m, w m < n
  back : w d = w 0
  dis : ∀ i j, i < j → j < d → w i ≠ w j
def CS (es : List Arc) (b : Nat → Nat) : Nat → Int
  | 0 => 0
  | m + 1 => CS es b m + ca es (b m)
theorem on_ways {es : List Arc} {n : Nat} {s : Bf} {R T : Nat → Nat} {now : Nat} (G : Gi es n s R T now n) {v : Nat} (hR : R v = n) (hv : v < n) :
    (∀ m, itn (fa es s) m v < n ∧ s.wy (itn (fa es s) m v) ≠ none) ∧ ∃ i j, i < j ∧ j ≤ n ∧ itn (fa es s) i v = itn (fa es s) j v := by
  have step : ∀ u, u < n → s.wy u ≠ none → fa es s u < n ∧ R u ≤ R (fa es s u) + 1 := fun u hu hw => by
    match h : s.wy u with
    | none => exact absurd h hw
    | some a =>
      obtain ⟨e, h1, h2, h3, h4, h5, h6, h7, h8⟩ := G.gSome u a h
      rw [fa_of h h1]
      exact ⟨h3, h8⟩
  have first : ∀ m, m ≤ n → itn (fa es s) m v < n ∧ n ≤ R (itn (fa es s) m v) + m := fun m => by
    induction m with
    | zero => intro _; exact ⟨hv, by show n ≤ R v + 0; omega⟩
    | succ m ih =>
      intro hm
      obtain ⟨h1, h2⟩ := ih (by omega)
      have hw : s.wy (itn (fa es s) m v) ≠ none := fun z => by
        have := G.gNone _ z
        omega
      obtain ⟨h3, h4⟩ := step _ h1 hw
      rw [itn_suc]
      exact ⟨h3, by omega⟩
  have wayn : ∀ m, m < n → s.wy (itn (fa es s) m v) ≠ none := fun m hm z => by
    have := G.gNone _ z
    have := (first m (by omega)).2
    omega
  obtain ⟨i, j, h1, h2, h3⟩ := pigeon n (fun m => itn (fa es s) m v) (fun i hi => (first i hi).1)
  have h3 : itn (fa es s) i v = itn (fa es s) j v := h3
  refine ⟨fun m => ?_, i, j, h1, h2, h3⟩
  have : ∃ m', m' < n ∧ itn (fa es s) m v = itn (fa es s) m' v := by
    induction m using Nat.strongRecOn with
    | ind m ih =>
      by_cases z : m < n
      · exact ⟨m, z, rfl⟩
      · obtain ⟨m', k1, k2⟩ := ih (i + (m - j)) (by omega)
        refine ⟨m', k1, ?_⟩
        rw [← k2]
        conv => lhs; rw [show m = j + (m - j) by omega]
        rw [itn_add, itn_add, h3]
  obtain ⟨m', k1, k2⟩ := this
  rw [k2]
  exact ⟨(first m' (by omega)).1, wayn m' k1⟩
theorem least (P : Nat → Prop) : ∀ (k : Nat), P k → ∃ m, m ≤ k ∧ P m ∧ ∀ i, i < m → ¬ P i := fun k h => by
  classical
  induction k using Nat.strongRecOn with
  | ind k ih =>
    by_cases z : ∃ i, i < k ∧ P i
    · obtain ⟨i, h1, h2⟩ := z
      obtain ⟨m, m1, m2, m3⟩ := ih i h1 h2
      exact ⟨m, by omega, m2, m3⟩
    · exact ⟨k, Nat.le_refl _, h, fun i hi hp => z ⟨i, hi, hp⟩⟩
theorem ring_cyc {es : List Arc} {n : Nat} (A : ArcsOk es n) {s : Bf} {R T : Nat → Nat} {now : Nat} (G : Gi es n s R T now n) {v : Nat} (hR : R v = n) (hv : v < n) :
    ∃ d, Cyc es n d (fun m => itn (fa es s) m (itn (fa es s) n v)) (fun m => ba s (itn (fa es s) m (itn (fa es s) n v))) ∧
      CS es (fun m => ba s (itn (fa es s) m (itn (fa es s) n v))) d < 0 := by
  obtain ⟨hw, i, j, h1, h2, h3⟩ := on_ways G hR hv
  have on : ∀ m, itn (fa es s) m (itn (fa es s) n v) = itn (fa es s) (n + m) v := fun m => (itn_add _ _ _ _).symm
  have arc : ∀ m, ∃ e, es[ba s (itn (fa es s) m (itn (fa es s) n v))]? = some e ∧ e.h = itn (fa es s) m (itn (fa es s) n v) ∧ e.t = itn (fa es s) (m + 1) (itn (fa es s) n v) ∧
      s.lab e.t + e.c ≤ s.lab e.h ∧ (T e.h < T e.t → s.lab e.t + e.c < s.lab e.h) := fun m => by
    rw [itn_suc, on m]
    have := (hw (n + m)).2
    match h : s.wy (itn (fa es s) (n + m) v) with
    | none => exact absurd h this
    | some a =>
      obtain ⟨e, h1, h2, h3, h4, h5, h6, h7, h8⟩ := G.gSome _ a h
      rw [ba_of h]
      exact ⟨e, h1, h2, (fa_of h h1).symm, by rw [h2]; exact h5, by rw [h2]; exact h6⟩
  have per : itn (fa es s) (j - i) (itn (fa es s) n v) = itn (fa es s) n v := by
    have e1 : itn (fa es s) n v = itn (fa es s) (n - j) (itn (fa es s) i v) := by
      conv => lhs; rw [show n = j + (n - j) by omega]
      rw [itn_add, h3]
    rw [e1, ← itn_add, ← itn_add, show i + (n - j + (j - i)) = i + (j - i) + (n - j) by omega, itn_add _ (i + (j - i)), show i + (j - i) = j by omega, ← h3]
  obtain ⟨d, d1, ⟨d2, d3⟩, d4⟩ := least (fun d => 1 ≤ d ∧ itn (fa es s) d (itn (fa es s) n v) = itn (fa es s) n v) (j - i) ⟨by omega, per⟩
  have nel : itn (fa es s) 1 (itn (fa es s) n v) ≠ itn (fa es s) 0 (itn (fa es s) n v) := fun z => by
    obtain ⟨e, k1, k2, k3, _⟩ := arc 0
    refine A.ne e (List.mem_of_getElem? k1) ?_
    rw [k2, k3]
    exact z
  have two : 2 ≤ d := by
    apply Nat.lt_of_le_of_ne d2
    intro z
    exact nel (by rw [z]; exact d3)
  refine ⟨d, ⟨two, by omega, fun m => ?_, fun m => ?_, d3, fun a b hab hb z => ?_⟩, ?_⟩
  · obtain ⟨e, k1, k2, k3, _⟩ := arc m
    exact ⟨e, k1, k2, k3⟩
  · show itn (fa es s) m (itn (fa es s) n v) < n
    rw [on m]
    exact (hw _).1
  · have z : itn (fa es s) a (itn (fa es s) n v) = itn (fa es s) b (itn (fa es s) n v) := z
    refine d4 (d - (b - a)) (by omega) ⟨by omega, ?_⟩
    rw [show d - (b - a) = a + (d - b) by omega, itn_add, z, ← itn_add, show b + (d - b) = d by omega, d3]
  · have main : ∀ m, CS es (fun m => ba s (itn (fa es s) m (itn (fa es s) n v))) m + s.lab (itn (fa es s) m (itn (fa es s) n v)) ≤ s.lab (itn (fa es s) 0 (itn (fa es s) n v)) ∧
        (CS es (fun m => ba s (itn (fa es s) m (itn (fa es s) n v))) m + s.lab (itn (fa es s) m (itn (fa es s) n v)) < s.lab (itn (fa es s) 0 (itn (fa es s) n v)) ∨
          (T (itn (fa es s) m (itn (fa es s) n v)) ≤ T (itn (fa es s) 0 (itn (fa es s) n v)) ∧ (1 ≤ m → T (itn (fa es s) m (itn (fa es s) n v)) ≤ T (itn (fa es s) 1 (itn (fa es s) n v)) ∧ T (itn (fa es s) 1 (itn (fa es s) n v)) ≤ T (itn (fa es s) 0 (itn (fa es s) n v))))) := fun m => by
      induction m with
      | zero => exact ⟨by show (0 : Int) + _ ≤ _; omega, .inr ⟨Nat.le_refl _, fun q => absurd q (by omega)⟩⟩
      | succ m ih =>
        obtain ⟨e, k1, k2, k3, k4, k5⟩ := arc m
        have ec : CS es (fun m => ba s (itn (fa es s) m (itn (fa es s) n v))) (m + 1) = CS es (fun m => ba s (itn (fa es s) m (itn (fa es s) n v))) m + e.c := by
          show _ + ca es _ = _
          rw [ca_of k1]
        rw [k2, k3] at k4 k5
        rw [ec]
        obtain ⟨i1, i2⟩ := ih
        refine ⟨by omega, ?_⟩
        rcases i2 with i2 | ⟨i2, i3⟩
        · left; omega
        · by_cases z : T (itn (fa es s) m (itn (fa es s) n v)) < T (itn (fa es s) (m + 1) (itn (fa es s) n v))
          · left
            have := k5 z
            omega
          · right
            refine ⟨by omega, fun _ => ?_⟩
            by_cases y : m = 0
            · subst y
              exact ⟨Nat.le_refl _, Nat.not_lt.mp z⟩
            · obtain ⟨y1, y2⟩ := i3 (by omega)
              exact ⟨by omega, y2⟩
    obtain ⟨m1, m2⟩ := main d
    rw [d3] at m1 m2
    have z0 : itn (fa es s) 0 (itn (fa es s) n v) = itn (fa es s) n v := rfl
    rw [z0] at m1 m2
    rcases m2 with q | ⟨q1, q2⟩
    · omega
    · exfalso
      obtain ⟨y1, y2⟩ := q2 d2
      refine nel (G.gInj _ _ ?_ ?_ ?_)
      · have := (hw (n + 1)).2
        rw [on 1]
        exact this
      · exact (hw n).2
      · rw [z0]; omega
end J

namespace J
open PySem.Spec PySem
structure Ed where
  t : Nat
  h : Nat
  lo : Int
  hi : Option Int
  c : Int
def optI : Option Int → PV
  | none => .non
  | some n => .int n
def Ed.pv (e : Ed) : PV := .tup [.int e.t, .int e.h, .int e.lo, optI e.hi, .int e.c]
def Ed.arc (e : Ed) : Arc := ⟨e.t, e.h, e.c⟩
abbrev bv (b : Bool) : Sl := .val (.bl b)
def LL {α : Type} (g : α → PV) (n : Nat) (f : Nat → α) : List PV := (List.range n).map fun i => g (f i)
theorem LL_len {α : Type} (g : α → PV) (n : Nat) (f : Nat → α) : (LL g n f).length = n := by unfold LL; rw [List.length_map, List.length_range]
theorem LL_at {α : Type} (g : α → PV) {n i : Nat} (f : Nat → α) (h : i < n) : (LL g n f)[i]? = some (g (f i)) := by
  unfold LL
  rw [List.getElem?_map, List.getElem?_range h]
  rfl
theorem LL_set {α : Type} (g : α → PV) (n k : Nat) (f : Nat → α) (v : α) : (LL g n f).set k (g v) = LL g n (upd1 f k v) := by
  apply List.ext_getElem?
  intro i
  rw [List.getElem?_set]
  by_cases h : i < n
  · rw [LL_at g (upd1 f k v) h, LL_at g f h, LL_len]
    unfold upd1
    by_cases q : k = i
    · rw [if_pos q, if_pos (by omega), if_pos q.symm]
    · rw [if_neg q, if_neg (fun z => q z.symm)]
  · rw [List.getElem?_eq_none (by rw [LL_len]; omega), List.getElem?_eq_none (by rw [LL_len]; omega), LL_len]
    split
    · rw [if_neg (by omega)]
    · rfl
theorem LL_rep {α : Type} (g : α → PV) (v : α) : ∀ n : Nat, List.replicate n (g v) = LL g n (fun _ => v) := fun n => by
  apply List.ext_getElem?
  intro i
  by_cases h : i < n
  · rw [LL_at g _ h, List.getElem?_replicate, if_pos h]
  · rw [List.getElem?_eq_none (l := List.replicate n (g v)) (by rw [List.length_replicate]; omega), List.getElem?_eq_none (l := LL g n fun _ => v) (by rw [LL_len]; omega)]
theorem repO8 {dl : Env → R (List PV)} {db : Env → R PV} {e : Env} {p : PV} {n : Nat} (h : dl e = .ok [p]) (k : db e = .ok (.int n)) (hn : n ≤ 900) : repO dl db e = .ok (List.replicate n p) := by
  unfold repO
  rw [h, k]
  simp only [List.length_cons, List.length_nil, Nat.zero_add, Int.toNat_natCast, Nat.mul_one]
  rw [if_pos (by omega)]
  congr 1
  induction n with
  | zero => rfl
  | succ n ih => first | rfl | simp [List.replicate_succ]
section
variable {e : Env} {i : Nat} {a : Ed}
theorem ed0 (h : Env.at e i = .val a.pv) : bin2 ixP (rdV i) (fun _ => .ok (.int 0)) e = .ok (.int a.t) := bin_ok (rd_ok h) rfl rfl
theorem ed1 (h : Env.at e i = .val a.pv) : bin2 ixP (rdV i) (fun _ => .ok (.int 1)) e = .ok (.int a.h) := bin_ok (rd_ok h) rfl rfl
theorem ed2 (h : Env.at e i = .val a.pv) : bin2 ixP (rdV i) (fun _ => .ok (.int 2)) e = .ok (.int a.lo) := bin_ok (rd_ok h) rfl rfl
theorem ed3 (h : Env.at e i = .val a.pv) : bin2 ixP (rdV i) (fun _ => .ok (.int 3)) e = .ok (optI a.hi) := bin_ok (rd_ok h) rfl rfl
theorem ed4 (h : Env.at e i = .val a.pv) : bin2 ixP (rdV i) (fun _ => .ok (.int 4)) e = .ok (.int a.c) := bin_ok (rd_ok h) rfl rfl
end
def Bf.full (es : List Arc) : Nat → Bf → Bf
  | 0, s => s
  | k + 1, s => Bf.full es k ((s.clr).rnd 0 es)
theorem rnd_sat (es : List Arc) : ∀ (s : Bf) (i : Nat), (∀ e ∈ es, Sat s e) → s.rnd i es = s := by
  induction es with
  | nil => intro s i _; rfl
  | cons e es ih =>
    intro s i h
    have r : s.rel i e = s := by
      unfold Bf.rel
      have := h e List.mem_cons_self
      unfold Sat at this
      rw [if_neg (by omega)]
    show (s.rel i e).rnd (i + 1) es = s
    rw [r]
    exact ih s _ fun f hf => h f (List.mem_cons_of_mem _ hf)
theorem full_fix (es : List Arc) (s : Bf) (hp : s.pl = none) (h : ∀ e ∈ es, Sat s e) : ∀ k, s.full es k = s := by
  have c : s.clr = s := by
    cases s with
    | mk a b p => cases hp; rfl
  intro k
  induction k with
  | zero => rfl
  | succ k ih =>
    show ((s.clr).rnd 0 es).full es k = s
    rw [c, rnd_sat es s 0 h, ih]
theorem full_run (es : List Arc) : ∀ (k : Nat) (s : Bf), s.full es k = s.run es k := by
  intro k
  induction k with
  | zero => intro s; rfl
  | succ k ih =>
    intro s
    show ((s.clr).rnd 0 es).full es k = if ((s.clr).rnd 0 es).pl = none then (s.clr).rnd 0 es else Bf.run es k ((s.clr).rnd 0 es)
    by_cases z : ((s.clr).rnd 0 es).pl = none
    · rw [if_pos z]
      obtain ⟨h1, h2⟩ := rnd_none es s.clr 0 z
      rw [h1]
      exact full_fix es s.clr rfl h2 k
    · rw [if_neg z, ih]
abbrev rgE (n : Nat) (es : List Ed) (s : Bf) (c : Bool) (k e : Sl) : Env := [iv n, .val (.lst (es.map Ed.pv)), .own (LL .int n s.lab), bv c, k, e]
theorem lr_step (n : Nat) (all : List Ed) (s : Bf) (i : Nat) (k : Sl) (a : Ed) (ht : a.t < n) (hh : a.h < n) :
    lb_law_ring_1 (rgE n all s s.pl.isSome k (.val a.pv)) = .nx (rgE n all (s.rel i a.arc) (s.rel i a.arc).pl.isSome k (.val a.pv)) := by
  have q0 := ixO_at (i := 2) (e := rgE n all s s.pl.isSome k (.val a.pv)) rfl (ed0 (i := 5) (a := a) rfl) (LL_at .int s.lab ht)
  have q1 := ixO_at (i := 2) (e := rgE n all s s.pl.isSome k (.val a.pv)) rfl (ed1 (i := 5) (a := a) rfl) (LL_at .int s.lab hh)
  have sm : bin2 addI (ixO 2 (bin2 ixP (rdV 5) (fun _ => .ok (.int 0)))) (bin2 ixP (rdV 5) (fun _ => .ok (.int 4))) (rgE n all s s.pl.isSome k (.val a.pv)) = .ok (.int (s.lab a.t + a.c)) := bin_ok q0 (ed4 (i := 5) (a := a) rfl) rfl
  have cd : toB (bin2 ltI (bin2 addI (ixO 2 (bin2 ixP (rdV 5) (fun _ => .ok (.int 0)))) (bin2 ixP (rdV 5) (fun _ => .ok (.int 4)))) (ixO 2 (bin2 ixP (rdV 5) (fun _ => .ok (.int 1))))) (rgE n all s s.pl.isSome k (.val a.pv)) = .ok (decide (s.lab a.t + a.c < s.lab a.h)) := toB_ok (bin_ok sm q1 (ltI_int _ _))
  unfold lb_law_ring_1
  by_cases z : s.lab a.t + a.c < s.lab a.h
  · have r : s.rel i a.arc = ⟨upd1 s.lab a.h (s.lab a.t + a.c), upd1 s.wy a.h (some i), some a.h⟩ := by unfold Bf.rel; exact if_pos z
    rw [r]
    refine ite_t (cd.trans (by rw [decide_eq_true z])) (seq_to (setI_at (l := LL .int n s.lab) rfl (ed1 (i := 5) (a := a) rfl) sm (by rw [LL_len]; exact hh)) ?_)
    rw [LL_set]
    rfl
  · have r : s.rel i a.arc = s := by unfold Bf.rel; exact if_neg z
    rw [r]
    exact ite_n (cd.trans (by rw [decide_eq_false z])) rfl
theorem lr_loop (n : Nat) (all : List Ed) (k : Sl) : ∀ (es : List Ed) (s : Bf) (i : Nat) (x : Sl), (∀ e ∈ es, e.t < n ∧ e.h < n) →
    ∃ x', forP (bdN 5) lb_law_ring_1 (es.map Ed.pv) (rgE n all s s.pl.isSome k x) = .nx (rgE n all (s.rnd i (es.map Ed.arc)) (s.rnd i (es.map Ed.arc)).pl.isSome k x')
  | [], s, i, x, _ => ⟨x, rfl⟩
  | a :: es, s, i, x, h => by
    obtain ⟨ht, hh⟩ := h a List.mem_cons_self
    obtain ⟨x', kk⟩ := lr_loop n all k es (s.rel i a.arc) (i + 1) (.val a.pv) (fun e he => h e (List.mem_cons_of_mem _ he))
    exact ⟨x', (forP_step (e1 := rgE n all s s.pl.isSome k (.val a.pv)) rfl (lr_step n all s i k a ht hh)).trans kk⟩
theorem lr_rounds (n : Nat) (es : List Ed) (h : ∀ e ∈ es, e.t < n ∧ e.h < n) : ∀ (m : Nat) (l : List PV) (s : Bf) (c : Bool) (k x : Sl), l.length = m →
    ∃ k' x', forP (bdN 4) lb_law_ring_2 l (rgE n es s c k x) = .nx (rgE n es (s.full (es.map Ed.arc) m) (if m = 0 then c else (s.full (es.map Ed.arc) m).pl.isSome) k' x')
  | 0, [], s, c, k, x, _ => ⟨k, x, rfl⟩
  | m + 1, p :: l, s, c, k, x, hl => by
    obtain ⟨x1, k1⟩ := lr_loop n es (.val p) es s.clr 0 x h
    obtain ⟨k', x', k2⟩ := lr_rounds n es h m l (s.clr.rnd 0 (es.map Ed.arc)) (s.clr.rnd 0 (es.map Ed.arc)).pl.isSome (.val p) x1 (by simpa using hl)
    refine ⟨k', x', (forP_step (e1 := rgE n es s c (.val p) x) (e2 := rgE n es (s.clr.rnd 0 (es.map Ed.arc)) (s.clr.rnd 0 (es.map Ed.arc)).pl.isSome (.val p) x1) rfl ?_).trans (k2.trans ?_)⟩
    · unfold lb_law_ring_2
      exact seq_to (e' := rgE n es s false (.val p) x) rfl (forE_ok (itE_ok (rd_ok rfl)) k1)
    · rw [if_neg (Nat.succ_ne_zero m)]
      show F.nx (rgE n es ((s.clr.rnd 0 (es.map Ed.arc)).full (es.map Ed.arc) m) _ k' x') = .nx (rgE n es ((s.clr.rnd 0 (es.map Ed.arc)).full (es.map Ed.arc) m) ((s.clr.rnd 0 (es.map Ed.arc)).full (es.map Ed.arc) m).pl.isSome k' x')
      by_cases z : m = 0
      · rw [if_pos z]; subst z; rfl
      · rw [if_neg z]
theorem law_ring_ok {n : Nat} {es : List Ed} (h : ∀ e ∈ es, e.t < n ∧ e.h < n) (h1 : 1 ≤ n) (hn : n ≤ 900) :
    f_law_ring [.int n, .lst (es.map Ed.pv)] = .ok (.bl (Bf.zero.run (es.map Ed.arc) n).pl.isSome) := by
  unfold f_law_ring p_law_ring
  refine An.fn rfl ?_
  simp only [env0, List.length_cons, List.length_nil, List.map_cons, List.map_nil, List.cons_append, List.nil_append, List.replicate, Nat.reduceAdd, Nat.reduceSub]
  obtain ⟨k', x', kk⟩ := lr_rounds n es h n (rngL 0 n) Bf.zero true .no .no (by rw [rng_map]; simp)
  rw [if_neg (by omega), full_run] at kk
  refine An.to (setCO_ok (l := LL .int n Bf.zero.lab) ((repO8 rfl (rd_ok rfl) hn).trans (congrArg R.ok (LL_rep .int 0 n)))) (An.set (p := .bl true) rfl (An.to (forE_ok (rngE (n := n) (rd_ok rfl) (by omega)) kk) (An.retO (rd_ok rfl))))
end J

namespace J
open PySem.Spec PySem
def optN : Option Nat → PV
  | none => .non
  | some n => .int n
theorem isN_N (o : Option Nat) : isNP (optN o) .non = .ok (.bl o.isNone) := by cases o <;> rfl
theorem notN_N (o : Option Nat) : notNP (optN o) .non = .ok (.bl o.isSome) := by cases o <;> rfl
theorem isN_I (o : Option Int) : isNP (optI o) .non = .ok (.bl o.isNone) := by cases o <;> rfl
def Ed.av (e : Ed) : PV := .tup [.int e.t, .int e.h, .int e.c]
def enl (i : Nat) (l : List PV) : List PV := List.zipWith (fun x y => .tup [x, y]) ((List.range' i l.length).map fun (i : Nat) => PV.int i) l
theorem enl_cons (i : Nat) (p : PV) (l : List PV) : enl i (p :: l) = .tup [.int i, p] :: enl (i + 1) l := rfl
theorem enumE_lst {d : Env → R PV} {e : Env} {l : List PV} (h : d e = .ok (.lst l)) : enumE d e = .ok (enl 0 l) := by unfold enumE; rw [h]; rfl
theorem a2maps {α : Type} {P : PV → PV → Prop} {f g : α → PV} : ∀ {l : List α}, (∀ x ∈ l, P (f x) (g x)) → All2 P (l.map f) (l.map g)
  | [], _ => .nil
  | x :: l, h => .cons (h x List.mem_cons_self) (a2maps fun y hy => h y (List.mem_cons_of_mem _ hy))
abbrev loE (n : Nat) (arcs : PV) (s : Bf) (x3 x5 x6 x7 x8 x9 : Sl) : Env := [.own (LL .int n s.lab), .val arcs, .own (LL optN n s.wy), x3, .val (optN s.pl), x5, x6, x7, x8, x9]
theorem lo_step (n : Nat) (arcs : PV) (s : Bf) (i : Nat) (x3 x9 : Sl) (a : Ed) (ht : a.t < n) (hh : a.h < n) :
    ∃ x9', lb_lowered_1 (loE n arcs s x3 (iv i) (iv a.t) (iv a.h) (iv a.c) x9) = .nx (loE n arcs (s.rel i a.arc) x3 (iv i) (iv a.t) (iv a.h) (iv a.c) x9') := by
  have q0 : ∀ x9, ixO 0 (rdV 6) (loE n arcs s x3 (iv i) (iv a.t) (iv a.h) (iv a.c) x9) = .ok (.int (s.lab a.t)) := fun x9 => ixO_at (i := 0) (k := a.t) rfl (rd_ok rfl) (LL_at .int s.lab ht)
  have q1 : ∀ x9, ixO 0 (rdV 7) (loE n arcs s x3 (iv i) (iv a.t) (iv a.h) (iv a.c) x9) = .ok (.int (s.lab a.h)) := fun x9 => ixO_at (i := 0) (k := a.h) rfl (rd_ok rfl) (LL_at .int s.lab hh)
  refine ⟨iv (s.lab a.t + a.c), ?_⟩
  unfold lb_lowered_1
  refine seq_to (e' := loE n arcs s x3 (iv i) (iv a.t) (iv a.h) (iv a.c) x9) (ite_n (toB_ok (bin_ok (q0 x9) rfl rfl)) rfl) ?_
  refine seq_to (e' := loE n arcs s x3 (iv i) (iv a.t) (iv a.h) (iv a.c) (iv (s.lab a.t + a.c))) (set_ok (bin_ok (q0 x9) (rd_ok rfl) rfl)) ?_
  have cd : orT (toB (bin2 isNP (ixO 0 (rdV 7)) (fun _ => .ok .non))) (toB (bin2 ltI (rdV 9) (ixO 0 (rdV 7)))) (loE n arcs s x3 (iv i) (iv a.t) (iv a.h) (iv a.c) (iv (s.lab a.t + a.c))) = .ok (decide (s.lab a.t + a.c < s.lab a.h)) :=
    orT_is (a := false) (toB_ok (bin_ok (q1 _) rfl rfl)) (toB_ok (bin_ok (rd_ok rfl) (q1 _) (ltI_int _ _)))
  by_cases z : s.lab a.t + a.c < s.lab a.h
  · have r : s.rel i a.arc = ⟨upd1 s.lab a.h (s.lab a.t + a.c), upd1 s.wy a.h (some i), some a.h⟩ := by unfold Bf.rel; exact if_pos z
    rw [r]
    refine ite_t (cd.trans (by rw [decide_eq_true z])) ?_
    refine seq_to (setI_at (i := 0) (k := a.h) (l := LL .int n s.lab) rfl (rd_ok rfl) (rd_ok (p := .int (s.lab a.t + a.c)) rfl) (by rw [LL_len]; exact hh)) ?_
    rw [LL_set]
    refine seq_to (setI_at (i := 2) (k := a.h) (l := LL optN n s.wy) rfl (rd_ok rfl) (rd_ok (p := optN (some i)) rfl) (by rw [LL_len]; exact hh)) ?_
    rw [LL_set]
    rfl
  · have r : s.rel i a.arc = s := by unfold Bf.rel; exact if_neg z
    rw [r]
    exact ite_n (cd.trans (by rw [decide_eq_false z])) rfl
theorem lo_loop (n : Nat) (arcs : PV) (x3 : Sl) : ∀ (es : List Ed) (s : Bf) (i : Nat) (x5 x6 x7 x8 x9 : Sl), (∀ e ∈ es, e.t < n ∧ e.h < n) →
    ∃ y5 y6 y7 y8 y9, forP (bdT [(bdN 5), (bdT [(bdN 6), (bdN 7), (bdN 8)])]) lb_lowered_1 (enl i (es.map Ed.av)) (loE n arcs s x3 x5 x6 x7 x8 x9) = .nx (loE n arcs (s.rnd i (es.map Ed.arc)) x3 y5 y6 y7 y8 y9)
  | [], s, i, x5, x6, x7, x8, x9, _ => ⟨x5, x6, x7, x8, x9, rfl⟩
  | a :: es, s, i, x5, x6, x7, x8, x9, h => by
    obtain ⟨ht, hh⟩ := h a List.mem_cons_self
    obtain ⟨x9', k1⟩ := lo_step n arcs s i x3 x9 a ht hh
    obtain ⟨y5, y6, y7, y8, y9, kk⟩ := lo_loop n arcs x3 es (s.rel i a.arc) (i + 1) (iv i) (iv a.t) (iv a.h) (iv a.c) x9' (fun e he => h e (List.mem_cons_of_mem _ he))
    refine ⟨y5, y6, y7, y8, y9, ?_⟩
    rw [List.map_cons, enl_cons]
    exact (forP_step (e1 := loE n arcs s x3 (iv i) (iv a.t) (iv a.h) (iv a.c) x9) rfl k1).trans kk
theorem forP_bk {bn : Bnd} {body : Env → F} {p : PV} {l : List PV} {e e1 e2 : Env} (h1 : bn p e = some e1) (h2 : body e1 = .bk e2) : forP bn body (p :: l) e = .nx e2 := by
  rw [forP]
  simp only [h1, h2]
theorem lo_rounds (n : Nat) (es : List Ed) (h : ∀ e ∈ es, e.t < n ∧ e.h < n) : ∀ (l : List PV) (s : Bf) (x3 x5 x6 x7 x8 x9 : Sl),
    ∃ y3 y5 y6 y7 y8 y9, forP (bdN 3) lb_lowered_2 l (loE n (.lst (es.map Ed.av)) s x3 x5 x6 x7 x8 x9) = .nx (loE n (.lst (es.map Ed.av)) (s.run (es.map Ed.arc) l.length) y3 y5 y6 y7 y8 y9) := by
  intro l
  induction l with
  | nil => intro s x3 x5 x6 x7 x8 x9; exact ⟨x3, x5, x6, x7, x8, x9, rfl⟩
  | cons p l ih =>
    intro s x3 x5 x6 x7 x8 x9
    obtain ⟨y5, y6, y7, y8, y9, k1⟩ := lo_loop n (.lst (es.map Ed.av)) (.val p) es s.clr 0 x5 x6 x7 x8 x9 h
    have ru : s.run (es.map Ed.arc) (p :: l).length = if (s.clr.rnd 0 (es.map Ed.arc)).pl = none then s.clr.rnd 0 (es.map Ed.arc) else (s.clr.rnd 0 (es.map Ed.arc)).run (es.map Ed.arc) l.length := by rw [List.length_cons, Bf.run]
    generalize s.clr.rnd 0 (es.map Ed.arc) = s1 at k1 ru
    have first : lb_lowered_2 (loE n (.lst (es.map Ed.av)) s (.val p) x5 x6 x7 x8 x9) = iteF (toB (bin2 isNP (rdV 4) (fun _ => .ok .non))) (fun env => .bk env) nextF (loE n (.lst (es.map Ed.av)) s1 (.val p) y5 y6 y7 y8 y9) := by
      unfold lb_lowered_2
      exact seq_to (e' := loE n (.lst (es.map Ed.av)) s.clr (.val p) x5 x6 x7 x8 x9) rfl (seq_to (forE_ok (enumE_lst (rd_ok rfl)) k1) rfl)
    have cd : toB (bin2 isNP (rdV 4) (fun _ => .ok .non)) (loE n (.lst (es.map Ed.av)) s1 (.val p) y5 y6 y7 y8 y9) = .ok s1.pl.isNone := toB_ok (bin_ok (rd_ok rfl) rfl (isN_N _))
    by_cases z : s1.pl = none
    · rw [ru, if_pos z]
      refine ⟨.val p, y5, y6, y7, y8, y9, ?_⟩
      exact forP_bk (e1 := loE n (.lst (es.map Ed.av)) s (.val p) x5 x6 x7 x8 x9) rfl (first.trans (ite_t (cd.trans (by rw [z]; rfl)) rfl))
    · rw [ru, if_neg z]
      obtain ⟨z3, z5, z6, z7, z8, z9, k2⟩ := ih s1 (.val p) y5 y6 y7 y8 y9
      refine ⟨z3, z5, z6, z7, z8, z9, (forP_step (e1 := loE n (.lst (es.map Ed.av)) s (.val p) x5 x6 x7 x8 x9) (e2 := loE n (.lst (es.map Ed.av)) s1 (.val p) y5 y6 y7 y8 y9) rfl (first.trans (ite_n (cd.trans ?_) rfl))).trans k2⟩
      cases hp : s1.pl with
      | none => exact absurd hp z
      | some v => rfl
theorem lendO_ok {i : Nat} {d : Env → R (List PV)} {e : Env} {l p : List PV} (h : Env.at e i = .own l) (k : d (List.set e i (.val (.lst l))) = .ok p) (nl : noLs p = true) : lendO i d e = .ok p := by
  unfold lendO
  rw [h]
  simp only [k, nl, if_true]
theorem lend_int {i : Nat} {d : Env → R PV} {e : Env} {l : List PV} {x : Int} (h : Env.at e i = .own l) (k : d (List.set e i (.val (.lst l))) = .ok (.int x)) : lend i d e = .ok (.int x) := by
  unfold lend
  rw [h]
  simp only
  rw [k]
  rfl
theorem lowered_ok {n : Nat} {es : List Ed} (h : ∀ e ∈ es, e.t < n ∧ e.h < n) (hn : n ≤ 900) :
    f_lowered [.lst (LL .int n fun _ => 0), .lst (es.map Ed.av)] = .ok (.tup [.lst (LL .int n (Bf.zero.run (es.map Ed.arc) n).lab), .lst (LL optN n (Bf.zero.run (es.map Ed.arc) n).wy), optN (Bf.zero.run (es.map Ed.arc) n).pl]) := by
  unfold f_lowered p_lowered
  refine An.fn rfl ?_
  simp only [env0, List.length_cons, List.length_nil, List.map_cons, List.map_nil, List.cons_append, List.nil_append, List.replicate, Nat.reduceAdd, Nat.reduceSub]
  obtain ⟨y3, y5, y6, y7, y8, y9, kk⟩ := lo_rounds n es h (rngL 0 n) Bf.zero .no .no .no .no .no .no
  rw [show (rngL 0 n).length = n by rw [rng_map]; simp] at kk
  refine An.to (setCO_ok (l := LL .int n Bf.zero.lab) (by unfold listO; rfl)) ?_
  have lw : lendO 0 (lcL [3] (itE (rdV 0)) (bdN 3) yesT (fun _ => .ok .non)) [.own (LL .int n Bf.zero.lab), .val (.lst (es.map Ed.av)), .no, .no, .no, .no, .no, .no, .no, .no] = .ok (LL optN n Bf.zero.wy) := by
    have : lcL [3] (itE (rdV 0)) (bdN 3) yesT (fun _ => .ok .non) [.val (.lst (LL .int n Bf.zero.lab)), .val (.lst (es.map Ed.av)), .no, .no, .no, .no, .no, .no, .no, .no] = .ok (LL optN n Bf.zero.wy) :=
      lcL_ok (l := LL .int n Bf.zero.lab) (itE_ok (rd_ok rfl)) (by rw [LL_len]; omega) (a2maps fun i _ => ⟨_, rfl, rfl⟩)
    have nl : noLs (LL optN n Bf.zero.wy) = true := by
      unfold LL
      induction (List.range n) with
      | nil => rfl
      | cons x l ih => exact ih
    exact lendO_ok rfl this nl
  refine An.to (setCO_ok lw) ?_
  refine An.to (e' := loE n (.lst (es.map Ed.av)) Bf.zero .no .no .no .no .no .no) rfl ?_
  have rg : (fun env => ((argsC (lend 0 (callE lenB (argsC (rdV 0) args0))) args0) env).bind rng1) (loE n (.lst (es.map Ed.av)) Bf.zero .no .no .no .no .no .no) = .ok (rngL 0 n) := rngE (n := n) (lend_int rfl (call_ok (args1_ok (p := .lst (LL .int n Bf.zero.lab)) (rd_ok rfl)) (by rw [lenB_lst, LL_len]))) (by omega)
  refine An.to (forE_ok rg kk) ?_
  generalize Bf.zero.run (es.map Ed.arc) n = s
  have f2 : J.frz 2 (loE n (.lst (es.map Ed.av)) s y3 y5 y6 y7 y8 y9) = [.own (LL .int n s.lab), .val (.lst (es.map Ed.av)), .val (.lst (LL optN n s.wy)), y3, .val (optN s.pl), y5, y6, y7, y8, y9] := frz_own (l := LL optN n s.wy) rfl
  refine An.frz (i := 0) (l := LL .int n s.lab) (by rw [f2]; rfl) ?_
  rw [f2]
  exact An.retO (tup_ok (args3_ok (rd_ok rfl) (rd_ok rfl) (rd_ok rfl)) (show 3 ≤ 1000 by decide))
end J

namespace J
open PySem.Spec PySem
structure Chn (es : List Ed) (n : Nat) (s : Bf) (u b : Nat → Nat) : Prop where
  lt : ∀ m, u m < n
  wy : ∀ m, s.wy (u m) = some (b m)
  ed : ∀ m, ∃ a, es[b m]? = some a ∧ a.h = u m ∧ a.t = u (m + 1)
section
variable {es : List Ed} {n : Nat} {s : Bf} {u b : Nat → Nat} {e : Env} {m : Nat}
theorem chn_way (C : Chn es n s u b) (h1 : Env.at e 1 = .val (.lst (LL optN n s.wy))) (h2 : Env.at e 2 = iv (u m)) : bin2 ixP (rdV 1) (rdV 2) e = .ok (.int (b m)) :=
  bin_ok (rd_ok h1) (rd_ok h2) ((ixP_lst (LL_at optN s.wy (C.lt m))).trans (by rw [C.wy m]; rfl))
theorem chn_nxt (C : Chn es n s u b) (h0 : Env.at e 0 = .val (.lst (es.map Ed.av))) (h1 : Env.at e 1 = .val (.lst (LL optN n s.wy))) (h2 : Env.at e 2 = iv (u m)) :
    bin2 ixP (bin2 ixP (rdV 0) (bin2 ixP (rdV 1) (rdV 2))) (fun _ => .ok (.int 0)) e = .ok (.int (u (m + 1))) := by
  obtain ⟨a, k1, k2, k3⟩ := C.ed m
  refine bin_ok (bin_ok (p := .lst (es.map Ed.av)) (rd_ok h0) (chn_way C h1 h2) (ixP_lst (k := b m) (p := a.av) (by rw [List.getElem?_map, k1]; rfl))) rfl ?_
  rw [← k3]
  rfl
end
def dki (l : List Nat) : List (L2.Key × PV) := l.map fun (x : Nat) => (.inl (x : Int), .bl true)
theorem val_dki (l : List Nat) (s : Nat) : (valD (dki l) (.inl (s : Int))).isSome = decide (s ∈ l) := by
  induction l with
  | nil => rfl
  | cons x l ih =>
    unfold valD dki
    rw [List.map_cons, List.find?_cons]
    by_cases h : x = s
    · simp [h]
    · have h1 : decide ((Sum.inl (x : Int) : L2.Key) = .inl (s : Int)) = false := decide_eq_false fun z => h (Int.ofNat.inj (Sum.inl.inj z))
      rw [h1]
      have h2 : ¬ s = x := fun z => h z.symm
      have : (valD (dki l) (.inl (s : Int))).isSome = decide (s ∈ (x :: l)) := by rw [ih]; simp [h2]
      exact this
theorem put_dki {l : List Nat} {s : Nat} (h : s ∉ l) : putD (dki l) (.inl (s : Int)) (.bl true) = dki (l ++ [s]) := by
  unfold putD
  have e : ((dki l).any fun kv => decide (kv.1 = .inl (s : Int))) = false := by
    rw [List.any_eq_false]
    intro x hx z
    unfold dki at hx
    obtain ⟨y, hy, rfl⟩ := List.mem_map.mp hx
    have : y = s := Int.ofNat.inj (Sum.inl.inj (of_decide_eq_true z))
    exact h (this ▸ hy)
  rw [if_neg (by rw [e]; decide)]
  simp [dki]
theorem ninOD_ok {i s : Nat} {d : Env → R PV} {e : Env} {l : List Nat} (h : Env.at e i = .ownD (dki l)) (k : d e = .ok (.int s)) : ninOD i d e = .ok (.bl (!decide (s ∈ l))) := by
  unfold ninOD
  rw [h]
  simp only [k, R.bind_ok, keyP, val_dki]
theorem setD_i {i s : Nat} {dk d : Env → R PV} {e : Env} {l : List Nat} (h : Env.at e i = .ownD (dki l)) (k : dk e = .ok (.int s)) (m : d e = .ok (.bl true)) (hl : l.length < 1000) (nw : s ∉ l) : setD i dk d e = .nx (List.set e i (.ownD (dki (l ++ [s])))) := by
  unfold setD
  rw [h]
  simp only [liftF, m, k, keyP]
  rw [if_pos (by simpa [dki] using hl), put_dki nw]
theorem app_own {i : Nat} {d : Env → R PV} {e : Env} {l : List PV} {p : PV} (ho : Env.at e i = .own l) (h : d e = .ok p) (hl : l.length < 1000) : appF i d e = .nx (List.set e i (.own (l ++ [p]))) := app_ok ho h hl
abbrev wyE (es : List Ed) (n : Nat) (s : Bf) (u b : Nat → Nat) (m : Nat) : Env := [.val (.lst (es.map Ed.av)), .val (.lst (LL optN n s.wy)), iv (u m), .own ((List.range m).map fun i => .int (b i)), .ownD (dki ((List.range m).map u))]
theorem way_step {es : List Ed} {n : Nat} {s : Bf} {u b : Nat → Nat} (C : Chn es n s u b) {m : Nat} (hm : m ≤ 900) (nw : u m ∉ (List.range m).map u) : lb_way_to_1 (wyE es n s u b m) = .nx (wyE es n s u b (m + 1)) := by
  unfold lb_way_to_1
  refine seq_to (setD_i (s := u m) (l := (List.range m).map u) rfl (rd_ok rfl) rfl (by simp; omega) nw) ?_
  refine seq_to (app_own (l := (List.range m).map fun i => .int (b i)) (p := .int (b m)) rfl (chn_way (m := m) C rfl rfl) (by simp; omega)) ?_
  refine (set_ok (chn_nxt (m := m) C rfl rfl rfl)).trans ?_
  show F.nx [_, _, _, _, _] = F.nx (wyE es n s u b (m + 1))
  simp only [wyE, List.range_succ, List.map_append, List.map_cons, List.map_nil]
theorem way_cond {es : List Ed} {n : Nat} {s : Bf} {u b : Nat → Nat} (C : Chn es n s u b) (m : Nat) : andT (toB (bin2 notNP (bin2 ixP (rdV 1) (rdV 2)) (fun _ => .ok .non))) (toB (ninOD 4 (rdV 2))) (wyE es n s u b m) = .ok (!decide (u m ∈ (List.range m).map u)) :=
  and_yes5 (toB_ok (bin_ok (chn_way (m := m) C rfl rfl) rfl rfl)) (toB_ok (ninOD_ok rfl (rd_ok rfl)))
theorem way_loop {es : List Ed} {n d : Nat} {s : Bf} {u b : Nat → Nat} (C : Chn es n s u b) (hd : d ≤ 900) (nw : ∀ m, m < d → u m ∉ (List.range m).map u) (bk : u d ∈ (List.range d).map u) : ∀ (k m : Nat), m + k = d → ∀ f, k < f →
    whileP (andT (toB (bin2 notNP (bin2 ixP (rdV 1) (rdV 2)) (fun _ => .ok .non))) (toB (ninOD 4 (rdV 2)))) lb_way_to_1 f (wyE es n s u b m) = .nx (wyE es n s u b d)
  | 0, m, h, f + 1, hf => by
    have : m = d := by omega
    subst this
    unfold whileP
    rw [way_cond C m, decide_eq_true bk]
    rfl
  | k + 1, m, h, f + 1, hf => by
    unfold whileP
    rw [way_cond C m, decide_eq_false (nw m (by omega))]
    simp only [Bool.not_false]
    rw [way_step C (by omega) (nw m (by omega))]
    exact way_loop C hd nw bk k (m + 1) (by omega) f (by omega)
theorem way_to_ok {es : List Ed} {n d : Nat} {s : Bf} {u b : Nat → Nat} (C : Chn es n s u b) (hd : d < 20) (nw : ∀ m, m < d → u m ∉ (List.range m).map u) (bk : u d ∈ (List.range d).map u) :
    f_way_to [.lst (es.map Ed.av), .lst (LL optN n s.wy), .int (u 0)] = .ok (.lst (((List.range d).map fun i => PV.int (b i)).reverse)) := by
  unfold f_way_to p_way_to
  refine An.fn rfl ?_
  simp only [env0, List.length_cons, List.length_nil, List.map_cons, List.map_nil, List.cons_append, List.nil_append, List.replicate, Nat.reduceAdd, Nat.reduceSub]
  refine An.own (An.to (e' := wyE es n s u b 0) rfl (An.to (e' := wyE es n s u b d) (way_loop C (by omega) nw bk d 0 (by omega) 20 hd) ?_))
  refine An.frz (l := (List.range d).map fun i => PV.int (b i)) rfl ?_
  refine An.retO ?_
  unfold revP
  rw [rd_ok (p := .lst ((List.range d).map fun i => PV.int (b i))) rfl]
  rfl
theorem ring_loop {es : List Ed} {n : Nat} {s : Bf} {u b : Nat → Nat} (C : Chn es n s u b) : ∀ (l : List PV) (m : Nat) (x : Sl), ∃ x', forP (bdN 3) lb_ring_at_1 l [.val (.lst (es.map Ed.av)), .val (.lst (LL optN n s.wy)), iv (u m), x] = .nx [.val (.lst (es.map Ed.av)), .val (.lst (LL optN n s.wy)), iv (u (m + l.length)), x']
  | [], m, x => ⟨x, rfl⟩
  | p :: l, m, x => by
    obtain ⟨x', k⟩ := ring_loop C l (m + 1) (.val p)
    refine ⟨x', (forP_step (e1 := [.val (.lst (es.map Ed.av)), .val (.lst (LL optN n s.wy)), iv (u m), .val p]) (e2 := [.val (.lst (es.map Ed.av)), .val (.lst (LL optN n s.wy)), iv (u (m + 1)), .val p]) rfl (set_ok (chn_nxt (m := m) C rfl rfl rfl))).trans (k.trans ?_)⟩
    rw [List.length_cons, show m + 1 + l.length = m + (l.length + 1) by omega]
theorem ring_at_ok {es : List Ed} {n d : Nat} {s : Bf} {u b w c : Nat → Nat} (C : Chn es n s u b) (D : Chn es n s w c) (h : w 0 = u n) (hn : n ≤ 900) (hd : d < 20) (nw : ∀ m, m < d → w m ∉ (List.range m).map w) (bk : w d ∈ (List.range d).map w) :
    f_ring_at [.lst (es.map Ed.av), .lst (LL optN n s.wy), .int (u 0)] = .ok (.lst (((List.range d).map fun i => PV.int (c i)).reverse)) := by
  unfold f_ring_at p_ring_at
  refine An.fn rfl ?_
  simp only [env0, List.length_cons, List.length_nil, List.map_cons, List.map_nil, List.cons_append, List.nil_append, List.replicate, Nat.reduceAdd, Nat.reduceSub]
  obtain ⟨x', k⟩ := ring_loop C (LL optN n s.wy) 0 .no
  rw [LL_len, Nat.zero_add, ← h] at k
  exact An.to (forE_ok (itE_ok (rd_ok rfl)) k) (An.retO (call_ok (args3_ok (rd_ok rfl) (rd_ok rfl) (rd_ok rfl)) (way_to_ok D hd nw bk)))
end J

namespace J
open PySem.Spec PySem
theorem run_none (es : List Arc) : ∀ (k : Nat) (s : Bf), 1 ≤ k → (s.run es k).pl = none → ∀ e ∈ es, Sat (s.run es k) e
  | 0, s, h, _ => by omega
  | k + 1, s, _, h => by
    rw [Bf.run] at h ⊢
    by_cases z : (s.clr.rnd 0 es).pl = none
    · rw [if_pos z] at h ⊢
      obtain ⟨h1, h2⟩ := rnd_none es s.clr 0 z
      rw [h1]
      exact h2
    · rw [if_neg z] at h ⊢
      by_cases y : k = 0
      · subst y; exact absurd h z
      · exact run_none es k _ (by omega) h
def rgP (d : Nat) (c : Nat → Nat) : List PV := ((List.range d).map fun i => PV.int (c i)).reverse
inductive Hts (n : Nat) (es : List Ed) (H : PV) : Prop where
  | up (h : (Bf.zero.run (es.map Ed.arc) n).pl = none) (f : Nat → Int) (e : H = .tup [.str "heights", .tup (LL .int n f)]) (k : ∀ a ∈ es, f a.h ≤ f a.t + a.c)
  | ring (h : (Bf.zero.run (es.map Ed.arc) n).pl.isSome = true) (d : Nat) (w c : Nat → Nat) (C : Cyc (es.map Ed.arc) n d w c) (z : CS (es.map Ed.arc) c d < 0) (e : H = .tup [.str "ring", .tup (rgP d c)])
def webO (n : Nat) (es : List Ed) (sup : List PV) : PV := .obj 31 [("places", .int n), ("edges", .tup (es.map Ed.pv)), ("supplies", .tup sup)]
theorem arc_ed {es : List Ed} {i : Nat} {e : Arc} (h : (es.map Ed.arc)[i]? = some e) : ∃ a, es[i]? = some a ∧ a.arc = e := by
  rw [List.getElem?_map] at h
  cases k : es[i]? with
  | none => rw [k] at h; cases h
  | some a => rw [k] at h; exact ⟨a, rfl, Option.some.inj h⟩
def EsOk (n : Nat) (es : List Ed) : Prop := ∀ e ∈ es, e.t < n ∧ e.h < n ∧ e.t ≠ e.h
theorem EsOk.arcs {n : Nat} {es : List Ed} (h : EsOk n es) : ArcsOk (es.map Ed.arc) n := by
  have : ∀ e ∈ es.map Ed.arc, e.t < n ∧ e.h < n ∧ e.t ≠ e.h := fun e he => by
    obtain ⟨a, ha, rfl⟩ := List.mem_map.mp he
    exact h a ha
  exact ⟨fun e he => (this e he).1, fun e he => (this e he).2.1, fun e he => (this e he).2.2⟩
theorem itE_tup8 {d : Env → R PV} {e : Env} {l : List PV} (h : d e = .ok (.tup l)) : itE d e = .ok l := by unfold itE; rw [h]; rfl
theorem asg3 {i j k : Nat} {d : Env → R PV} {e : Env} {p q r : PV} (h : d e = .ok (.tup [p, q, r])) : asgF (bdT [(bdN i), (bdN j), (bdN k)]) d e = .nx (List.set (List.set (List.set e i (.val p)) j (.val q)) k (.val r)) := by
  unfold asgF liftF
  rw [h]
  rfl
theorem notN_no {d : Env → R PV} {e : Env} {o : Option Nat} (h : d e = .ok (optN o)) : toB (bin2 notNP d (fun _ => .ok .non)) e = .ok o.isSome := toB_ok (bin_ok h rfl (notN_N o))
theorem heights_ok {n : Nat} {es : List Ed} (h : EsOk n es) (h2 : 2 ≤ n) (hn : n ≤ 8) (hl : es.length ≤ 900) (sup : List PV) : ∃ H, f_heights [webO n es sup] = .ok H ∧ Hts n es H := by
  have he : ∀ e ∈ es, e.t < n ∧ e.h < n := fun e z => ⟨(h e z).1, (h e z).2.1⟩
  have lo := lowered_ok he (by omega)
  have first : ∀ r : R PV, Ans ((seqF (iteF (toB (bin2 notNP (rdV 8) (fun _ => .ok .non)))
  (retF (tupE (argsC (fun _ => .ok (.str "ring")) (argsC (callE tupB (argsC (callE f_ring_at (argsC (rdV 1) (argsC (rdV 7) (argsC (rdV 8) args0)))) args0)) args0))))
  nextF)
  (retF (tupE (argsC (fun _ => .ok (.str "heights")) (argsC (callE tupB (argsC (rdV 6) args0)) args0))))) [.val (webO n es sup), .val (.lst (es.map Ed.av)), .no, .no, .no, .no, .val (.lst (LL .int n (Bf.zero.run (es.map Ed.arc) n).lab)), .val (.lst (LL optN n (Bf.zero.run (es.map Ed.arc) n).wy)), .val (optN (Bf.zero.run (es.map Ed.arc) n).pl)]) r → f_heights [webO n es sup] = r := fun r hr => by
    unfold f_heights p_heights
    refine An.fn rfl ?_
    simp only [env0, List.length_cons, List.length_nil, List.map_cons, List.map_nil, List.cons_append, List.nil_append, List.replicate, Nat.reduceAdd, Nat.reduceSub]
    refine An.set (p := .lst (es.map Ed.av)) (lc_ok (l := es.map Ed.pv) (itE_tup8 (fld_ok (rd_ok rfl) (by decide) rfl)) (by simp; omega) (a2maps fun a _ => ⟨_, rfl, rfl⟩)) ?_
    refine An.to (asg3 (call_ok (args2_ok (p := .lst (LL .int n fun _ => 0)) ?_ (rd_ok rfl)) lo)) hr
    have rg : (fun env => ((argsC (fldE [31] "places" (rdV 0)) args0) env).bind rng1) [.val (webO n es sup), .val (.lst (es.map Ed.av)), .no, .no, .no, .no, .no, .no, .no] = .ok (rngL 0 n) := rngE (n := n) (fld_ok (rd_ok rfl) (by decide) rfl) (by omega)
    rw [rng_map] at rg
    exact lc_ok (r := LL .int n fun _ => 0) rg (by rw [LL_len]; omega) (a2maps fun i _ => ⟨_, rfl, rfl⟩)
  cases hp : (Bf.zero.run (es.map Ed.arc) n).pl with
  | none =>
    refine ⟨.tup [.str "heights", .tup (LL .int n (Bf.zero.run (es.map Ed.arc) n).lab)], first _ ?_, .up hp _ rfl fun a ha => run_none _ n Bf.zero (by omega) hp a.arc (List.mem_map.mpr ⟨a, ha, rfl⟩)⟩
    rw [hp]
    exact An.iteX (notN_no (o := none) (rd_ok rfl)) (An.retO (tup_ok (args2_ok rfl (call_ok (args1_ok (rd_ok rfl)) rfl)) (show 2 ≤ 1000 by decide)))
  | some v =>
    obtain ⟨R, T, now, G, hR, hv⟩ := run_end h.arcs (by omega) hp
    obtain ⟨d, C, cs⟩ := ring_cyc h.arcs G hR hv
    obtain ⟨on, _⟩ := on_ways G hR hv
    have A : Chn es n (Bf.zero.run (es.map Ed.arc) n) (fun m => itn (fa (es.map Ed.arc) (Bf.zero.run (es.map Ed.arc) n)) m v) (fun m => ba (Bf.zero.run (es.map Ed.arc) n) (itn (fa (es.map Ed.arc) (Bf.zero.run (es.map Ed.arc) n)) m v)) := by
      have key : ∀ m, ∃ b a, (Bf.zero.run (es.map Ed.arc) n).wy (itn (fa (es.map Ed.arc) (Bf.zero.run (es.map Ed.arc) n)) m v) = some b ∧ es[b]? = some a ∧ a.h = itn (fa (es.map Ed.arc) (Bf.zero.run (es.map Ed.arc) n)) m v ∧ a.t = itn (fa (es.map Ed.arc) (Bf.zero.run (es.map Ed.arc) n)) (m + 1) v := fun m => by
        cases k : (Bf.zero.run (es.map Ed.arc) n).wy (itn (fa (es.map Ed.arc) (Bf.zero.run (es.map Ed.arc) n)) m v) with
        | none => exact absurd k (on m).2
        | some b =>
          obtain ⟨e, k1, k2, _⟩ := G.gSome _ b k
          obtain ⟨a, a1, a2⟩ := arc_ed k1
          refine ⟨b, a, rfl, a1, ?_, ?_⟩
          · rw [← k2, ← a2]; rfl
          · rw [itn_suc, fa_of k k1, ← a2]; rfl
      refine ⟨fun m => (on m).1, fun m => ?_, fun m => ?_⟩
      · obtain ⟨b, a, k1, k2, k3, k4⟩ := key m
        rw [k1, ba_of k1]
      · obtain ⟨b, a, k1, k2, k3, k4⟩ := key m
        exact ⟨a, by rw [ba_of k1]; exact k2, k3, k4⟩
    have D : Chn es n (Bf.zero.run (es.map Ed.arc) n) (fun m => itn (fa (es.map Ed.arc) (Bf.zero.run (es.map Ed.arc) n)) m (itn (fa (es.map Ed.arc) (Bf.zero.run (es.map Ed.arc) n)) n v)) (fun m => ba (Bf.zero.run (es.map Ed.arc) n) (itn (fa (es.map Ed.arc) (Bf.zero.run (es.map Ed.arc) n)) m (itn (fa (es.map Ed.arc) (Bf.zero.run (es.map Ed.arc) n)) n v))) := by
      have sh : ∀ m, itn (fa (es.map Ed.arc) (Bf.zero.run (es.map Ed.arc) n)) m (itn (fa (es.map Ed.arc) (Bf.zero.run (es.map Ed.arc) n)) n v) = itn (fa (es.map Ed.arc) (Bf.zero.run (es.map Ed.arc) n)) (n + m) v := fun m => (itn_add _ _ _ _).symm
      refine ⟨fun m => ?_, fun m => ?_, fun m => ?_⟩
      · rw [sh]; exact A.lt (n + m)
      · rw [sh]; exact A.wy (n + m)
      · rw [sh, sh]; exact A.ed (n + m)
    have cl := C.le
    have c2 := C.two
    have ra := ring_at_ok (d := d) A D rfl (by omega) (by omega) (fun m hm z => by
      obtain ⟨i, hi, e⟩ := List.mem_map.mp z
      exact C.dis i m (List.mem_range.mp hi) hm e) (List.mem_map.mpr ⟨0, List.mem_range.mpr (by omega), C.back.symm⟩)
    refine ⟨.tup [.str "ring", .tup (rgP d fun m => ba (Bf.zero.run (es.map Ed.arc) n) (itn (fa (es.map Ed.arc) (Bf.zero.run (es.map Ed.arc) n)) m (itn (fa (es.map Ed.arc) (Bf.zero.run (es.map Ed.arc) n)) n v)))], first _ ?_, .ring (by rw [hp]; rfl) d _ _ C cs rfl⟩
    rw [hp]
    refine An.iteT (notN_no (o := some v) (rd_ok rfl)) (An.retSO (tup_ok (args2_ok rfl (call_ok (args1_ok (call_ok (args3_ok (rd_ok rfl) (rd_ok rfl) (rd_ok rfl)) ra)) rfl)) (show 2 ≤ 1000 by decide)))
end J

namespace J
open PySem.Spec PySem
theorem aug_to {i : Nat} {f : PV → PV → R PV} {d : Env → R PV} {e : Env} {a b p : PV} (h : Env.at e i = .val a) (k : d e = .ok b) (m : f a b = .ok p) : augF i f d e = .nx (List.set e i (.val p)) := by
  unfold augF liftF
  simp only [rd_ok h, k, m]
theorem rgP_len (d : Nat) (c : Nat → Nat) : (rgP d c).length = d := by unfold rgP; rw [List.length_reverse, List.length_map, List.length_range]
theorem rgP_at {d i : Nat} {c : Nat → Nat} (h : i < d) : (rgP d c)[i]? = some (.int (c (d - 1 - i))) := by
  unfold rgP
  rw [List.getElem?_reverse (by simpa using h), List.length_map, List.length_range, List.getElem?_map, List.getElem?_range (by omega)]
  rfl
theorem cyc_ed {es : List Ed} {n d : Nat} {w c : Nat → Nat} (C : Cyc (es.map Ed.arc) n d w c) (m : Nat) : ∃ a, es[c m]? = some a ∧ a.h = w m ∧ a.t = w (m + 1) ∧ ca (es.map Ed.arc) (c m) = a.c := by
  obtain ⟨e, h1, h2, h3⟩ := C.arc m
  obtain ⟨a, a1, rfl⟩ := arc_ed h1
  exact ⟨a, a1, h2, h3, ca_of h1⟩
abbrev riE (n d : Nat) (es : List Ed) (c : Nat → Nat) (x3 : Sl) (p : Nat → Int) (tot : Int) (x6 x7 x8 : Sl) : Env := [.val (.tup (rgP d c)), iv n, .val (.lst (es.map Ed.pv)), x3, .own (LL .int n p), iv tot, x6, x7, x8]
theorem lenT8 {i : Nat} {e : Env} {l : List PV} (h : Env.at e i = .val (.tup l)) : callE lenB (argsC (rdV i) args0) e = .ok (.int l.length) := call_ok (args1_ok (rd_ok h)) (lenB_tup l)
theorem es_at {n d : Nat} {es : List Ed} {c : Nat → Nat} {i m : Nat} {di : Env → R PV} {e : Env} {a : Ed} (h0 : Env.at e 0 = .val (.tup (rgP d c))) (h2 : Env.at e 2 = .val (.lst (es.map Ed.pv))) (hi : di e = .ok (.int i)) (hd : i < d) (hm : m = d - 1 - i) (ha : es[c m]? = some a) :
    bin2 ixP (rdV 2) (bin2 ixP (rdV 0) di) e = .ok a.pv := by
  subst hm
  exact bin_ok (p := .lst (es.map Ed.pv)) (rd_ok h2) (bin_ok (rd_ok h0) hi (ixP_tup (rgP_at hd))) (ixP_lst (k := c (d - 1 - i)) (by rw [List.getElem?_map, ha]; rfl))
theorem ri_step {n d : Nat} {es : List Ed} {w c : Nat → Nat} (C : Cyc (es.map Ed.arc) n d w c) (x3 x7 x8 : Sl) {i : Nat} (hi : i < d) (p : Nat → Int) (hp : ∀ x, p x ≠ 0 → ∃ j, j < i ∧ x = w (d - j)) :
    ∃ x7' x8', lb_law_ring_is_2 (riE n d es c x3 p (CS (es.map Ed.arc) c d - CS (es.map Ed.arc) c (d - i)) (iv i) x7 x8) = .nx (riE n d es c x3 (upd1 p (w (d - i)) 1) (CS (es.map Ed.arc) c d - CS (es.map Ed.arc) c (d - (i + 1))) (iv i) x7' x8') := by
  have d2 := C.two
  obtain ⟨a, a1, a2, a3, a4⟩ := cyc_ed C (d - 1 - i)
  have ea : d - 1 - i + 1 = d - i := by omega
  rw [ea] at a3
  obtain ⟨i2, hi2, e2, m2⟩ : ∃ i2 : Nat, i2 < d ∧ ((i : Int) + 1) % d = i2 ∧ w (d - 1 - i2 + 1) = a.h := by
    by_cases z : i + 1 = d
    · refine ⟨0, by omega, ?_, ?_⟩
      · rw [show (i : Int) + 1 = (d : Int) by omega, Int.emod_self]; rfl
      · rw [a2, show d - 1 - 0 + 1 = d by omega, C.back, show d - 1 - i = 0 by omega]
    · refine ⟨i + 1, by omega, ?_, ?_⟩
      · rw [Int.emod_eq_of_lt (by omega) (by omega)]; rfl
      · rw [a2, show d - 1 - (i + 1) + 1 = d - 1 - i by omega]
  obtain ⟨b, b1, b2, b3, b4⟩ := cyc_ed C (d - 1 - i2)
  refine ⟨.val a.pv, .val b.pv, ?_⟩
  unfold lb_law_ring_is_2
  refine seq_to (set_ok (es_at (n := n) (c := c) (i := i) rfl rfl (rd_ok rfl) hi rfl a1)) ?_
  refine seq_to (set_ok (es_at (n := n) (c := c) (i := i2) rfl rfl (bin_ok (p := .int ((i : Int) + 1)) (q := .int d) (call_ok (args1_ok (bin_ok (rd_ok rfl) rfl rfl)) rfl) ((lenT8 rfl).trans (by rw [rgP_len])) ((modI_int (by omega)).trans (by rw [e2]))) hi2 rfl b1)) ?_
  have fresh : p (w (d - i)) = 0 := by
    by_cases z : p (w (d - i)) = 0
    · exact z
    · exfalso
      obtain ⟨j, hj, e⟩ := hp _ z
      by_cases y : j = 0
      · subst y
        rw [show d - 0 = d by omega, C.back] at e
        exact C.dis 0 (d - i) (by omega) (by omega) e.symm
      · exact C.dis (d - i) (d - j) (by omega) (by omega) e
  have at_ : a.t < n := by rw [a3]; exact C.lt _
  refine seq_to (e' := riE n d es c x3 p (CS (es.map Ed.arc) c d - CS (es.map Ed.arc) c (d - i)) (iv i) (.val a.pv) (.val b.pv)) (ite_n ?_ rfl) ?_
  · refine orT_is (a := false) (b := false) (toB_ok ((bin_ok (ed1 (i := 7) (a := a) rfl) (ed0 (i := 8) (a := b) rfl) (neS_int _ _)).trans ?_)) (toB_ok ((bin_ok (ixO_at (i := 4) (k := a.t) (l := LL .int n p) rfl (ed0 (i := 7) (a := a) rfl) (LL_at .int p at_)) (q := .int 0) rfl (neS_int _ _)).trans ?_))
    · rw [decide_eq_true (by rw [b3, m2])]; rfl
    · rw [decide_eq_true (by rw [a3]; exact fresh)]; rfl
  · refine seq_to (setI_at (i := 4) (l := LL .int n p) (p := .int 1) rfl (ed0 (i := 7) (a := a) rfl) rfl (by rw [LL_len]; exact at_)) ?_
    rw [LL_set]
    refine (aug_to (i := 5) (a := .int (CS (es.map Ed.arc) c d - CS (es.map Ed.arc) c (d - i))) (b := .int a.c) rfl (ed4 (i := 7) (a := a) rfl) rfl).trans ?_
    rw [a3]
    have : CS (es.map Ed.arc) c d - CS (es.map Ed.arc) c (d - i) + a.c = CS (es.map Ed.arc) c d - CS (es.map Ed.arc) c (d - (i + 1)) := by
      have h : CS (es.map Ed.arc) c (d - 1 - i + 1) = CS (es.map Ed.arc) c (d - 1 - i) + ca (es.map Ed.arc) (c (d - 1 - i)) := rfl
      rw [ea, a4] at h
      rw [h, show d - (i + 1) = d - 1 - i by omega]
      omega
    rw [← this]
    rfl
theorem ri_loop {n d : Nat} {es : List Ed} {w c : Nat → Nat} (C : Cyc (es.map Ed.arc) n d w c) (x3 : Sl) : ∀ (k i : Nat) (p : Nat → Int) (x6 x7 x8 : Sl), i + k = d → (∀ x, p x ≠ 0 → ∃ j, j < i ∧ x = w (d - j)) →
    ∃ p' x6' x7' x8', forP (bdN 6) lb_law_ring_is_2 ((List.range' i k).map fun (i : Nat) => PV.int i) (riE n d es c x3 p (CS (es.map Ed.arc) c d - CS (es.map Ed.arc) c (d - i)) x6 x7 x8) = .nx (riE n d es c x3 p' (CS (es.map Ed.arc) c d) x6' x7' x8')
  | 0, i, p, x6, x7, x8, h, _ => ⟨p, x6, x7, x8, by
    have : i = d := by omega
    subst this
    rw [Nat.sub_self]
    show F.nx (riE n i es c x3 p (CS (es.map Ed.arc) c i - 0) x6 x7 x8) = _
    rw [Int.sub_zero]⟩
  | k + 1, i, p, x6, x7, x8, h, hp => by
    obtain ⟨y7, y8, k1⟩ := ri_step C x3 x7 x8 (show i < d by omega) p hp
    obtain ⟨p', x6', x7', x8', k2⟩ := ri_loop C x3 k (i + 1) (upd1 p (w (d - i)) 1) (iv i) y7 y8 (by omega) (fun x hx => by
      unfold upd1 at hx
      by_cases q : x = w (d - i)
      · exact ⟨i, by omega, q⟩
      · rw [if_neg q] at hx
        obtain ⟨j, hj, e⟩ := hp x hx
        exact ⟨j, by omega, e⟩)
    refine ⟨p', x6', x7', x8', ?_⟩
    rw [List.range'_succ, List.map_cons]
    exact (forP_step (e1 := riE n d es c x3 p (CS (es.map Ed.arc) c d - CS (es.map Ed.arc) c (d - i)) (iv i) x7 x8) rfl k1).trans k2
theorem ri_first {r : PV} {n : PV} {es : List Ed} : ∀ (l : List Nat) (x3 : Sl), (∀ i ∈ l, i < es.length) → ∃ x3', forP (bdN 3) lb_law_ring_is_1 (l.map fun (i : Nat) => PV.int i) [.val r, .val n, .val (.lst (es.map Ed.pv)), x3, .no, .no, .no, .no, .no] = .nx [.val r, .val n, .val (.lst (es.map Ed.pv)), x3', .no, .no, .no, .no, .no]
  | [], x3, _ => ⟨x3, rfl⟩
  | i :: l, x3, h => by
    obtain ⟨x', k⟩ := ri_first (r := r) (n := n) (es := es) l (iv i) (fun j hj => h j (List.mem_cons_of_mem _ hj))
    have hi := h i List.mem_cons_self
    refine ⟨x', (forP_step (e1 := [.val r, .val n, .val (.lst (es.map Ed.pv)), iv i, .no, .no, .no, .no, .no]) rfl ?_).trans k⟩
    unfold lb_law_ring_is_1
    refine ite_n ((orT_is (toB_ok (bin_ok (rd_ok rfl) rfl (ltI_int _ _))) (toB_ok (bin_ok (rd_ok rfl) (call_ok (args1_ok (rd_ok rfl)) (lenB_lst _)) (geI_int _ _)))).trans ?_) rfl
    rw [List.length_map, decide_eq_false (by omega), decide_eq_false (by omega)]
    rfl
theorem law_ring_is_ok {n d : Nat} {es : List Ed} {w c : Nat → Nat} (C : Cyc (es.map Ed.arc) n d w c) (hn : n ≤ 900) (z : CS (es.map Ed.arc) c d < 0) : f_law_ring_is [.tup (rgP d c), .int n, .lst (es.map Ed.pv)] = .ok (.bl true) := by
  have d2 := C.two
  have dn := C.le
  unfold f_law_ring_is p_law_ring_is
  refine An.fn rfl ?_
  simp only [env0, List.length_cons, List.length_nil, List.map_cons, List.map_nil, List.cons_append, List.nil_append, List.replicate, Nat.reduceAdd, Nat.reduceSub]
  refine An.iteX ((orT_is (toB_ok (bin_ok (lenT8 rfl) rfl (ltI_int _ _))) (toB_ok (bin_ok (lenT8 rfl) (rd_ok rfl) (gtI_int _ _)))).trans ?_) ?_
  · rw [rgP_len, decide_eq_false (by omega), decide_eq_false (by omega)]
    rfl
  have er : rgP d c = (((List.range d).map c).reverse).map fun (i : Nat) => PV.int i := by
    unfold rgP
    rw [← List.map_reverse, ← List.map_reverse, List.map_map]
    rfl
  obtain ⟨x3, k1⟩ := ri_first (r := .tup (rgP d c)) (n := .int n) (es := es) (((List.range d).map c).reverse) .no (fun i hi => by
    rw [List.mem_reverse, List.mem_map] at hi
    obtain ⟨m, _, rfl⟩ := hi
    obtain ⟨a, a1, _⟩ := cyc_ed C m
    rcases Nat.lt_or_ge (c m) es.length with q | q
    · exact q
    · rw [List.getElem?_eq_none q] at a1; cases a1)
  refine An.to (forE_ok (itE_tup8 (rd_ok rfl)) (by rw [← er] at k1; exact k1)) ?_
  refine An.to (setCO_ok (l := LL .int n fun _ => 0) ((repO8 rfl (rd_ok rfl) hn).trans (congrArg R.ok (LL_rep .int 0 n)))) ?_
  refine An.set (p := .int 0) rfl ?_
  obtain ⟨p', x6', x7', x8', k2⟩ := ri_loop C x3 d 0 (fun _ => 0) .no .no .no (by omega) (fun x hx => absurd rfl hx)
  rw [Nat.sub_zero, Int.sub_self, ← rngL_range'] at k2
  have rg : (fun env => ((argsC (callE lenB (argsC (rdV 0) args0)) args0) env).bind rng1) (riE n d es c x3 (fun _ => 0) 0 .no .no .no) = .ok (rngL 0 d) := rngE (n := d) ((lenT8 rfl).trans (by rw [rgP_len])) (by omega)
  refine An.to (forE_ok rg k2) (An.retO ((bin_ok (rd_ok rfl) rfl (ltI_int _ _)).trans ?_))
  rw [decide_eq_true z]
theorem hr_ints {r n e : PV} {x4 : Sl} : ∀ (l : List Int) (x3 : Sl), ∃ x3', forP (bdN 3) lb_law_heights_right_1 (l.map PV.int) [.val r, .val n, .val e, x3, x4] = .nx [.val r, .val n, .val e, x3', x4]
  | [], x3 => ⟨x3, rfl⟩
  | i :: l, x3 => by
    obtain ⟨x', k⟩ := hr_ints (r := r) (n := n) (e := e) (x4 := x4) l (iv i)
    exact ⟨x', (forP_step (e1 := [.val r, .val n, .val e, iv i, x4]) rfl (ite_n rfl rfl)).trans k⟩
theorem hr_loop {n : Nat} {f : Nat → Int} {x1 e : PV} {x3 : Sl} : ∀ (es : List Ed) (x4 : Sl), (∀ a ∈ es, a.t < n ∧ a.h < n ∧ f a.h ≤ f a.t + a.c) → ∃ x4', forP (bdN 4) lb_law_heights_right_2 (es.map Ed.pv) [.val (.tup [.str "heights", .tup (LL .int n f)]), .val x1, .val e, x3, x4] = .nx [.val (.tup [.str "heights", .tup (LL .int n f)]), .val x1, .val e, x3, x4']
  | [], x4, _ => ⟨x4, rfl⟩
  | a :: es, x4, h => by
    obtain ⟨x', k⟩ := hr_loop (n := n) (f := f) (x1 := x1) (e := e) (x3 := x3) es (.val a.pv) (fun b hb => h b (List.mem_cons_of_mem _ hb))
    obtain ⟨ht, hh, hs⟩ := h a List.mem_cons_self
    refine ⟨x', (forP_step (e1 := [.val (.tup [.str "heights", .tup (LL .int n f)]), .val x1, .val e, x3, .val a.pv]) rfl ?_).trans k⟩
    unfold lb_law_heights_right_2
    refine ite_n (toB_ok ((bin_ok (bin_ok (bin_ok (p := .tup (LL .int n f)) rfl (ed0 (i := 4) (a := a) rfl) (ixP_tup (LL_at .int f ht))) (ed4 (i := 4) (a := a) rfl) rfl) (bin_ok (p := .tup (LL .int n f)) rfl (ed1 (i := 4) (a := a) rfl) (ixP_tup (LL_at .int f hh))) (ltI_int _ _)).trans ?_)) rfl
    rw [decide_eq_false (by omega)]
theorem heights_right_ok {n : Nat} {es es2 : List Ed} {H : PV} (h : Hts n es H) (ha : es2.map Ed.arc = es.map Ed.arc) (he : EsOk n es2) (h1 : 1 ≤ n) (hn : n ≤ 900) : f_law_heights_right [H, .int n, .lst (es2.map Ed.pv)] = .ok (.bl true) := by
  have he2 : ∀ e ∈ es2, e.t < n ∧ e.h < n := fun e z => ⟨(he e z).1, (he e z).2.1⟩
  have lr := law_ring_ok he2 h1 hn
  rw [ha] at lr
  unfold f_law_heights_right p_law_heights_right
  refine An.fn rfl ?_
  simp only [env0, List.length_cons, List.length_nil, List.map_cons, List.map_nil, List.cons_append, List.nil_append, List.replicate, Nat.reduceAdd, Nat.reduceSub]
  cases h with
  | up hp f e k =>
    subst e
    rw [hp] at lr
    refine An.iteX (orT_is (a := false) (b := false) rfl (orT_is (a := false) (b := false) rfl rfl)) ?_
    obtain ⟨x3, k1⟩ := hr_ints (r := .tup [.str "heights", .tup (LL .int n f)]) (n := .int n) (e := .lst (es2.map Ed.pv)) (x4 := .no) ((List.range n).map f) .no
    have el : ((List.range n).map f).map PV.int = LL .int n f := by rw [List.map_map]; rfl
    rw [el] at k1
    refine An.to (forE_ok (itE_tup8 (bin_ok (rd_ok rfl) rfl rfl)) k1) ?_
    refine An.iteX (toB_ok (call_ok (args2_ok (rd_ok rfl) (rd_ok rfl)) lr)) ?_
    refine An.iteX ((orT_is (a := false) rfl (toB_ok (bin_ok (call_ok (args1_ok (p := .tup (LL .int n f)) rfl) (lenB_tup _)) (rd_ok rfl) (neS_int _ _)))).trans ?_) ?_
    · rw [LL_len, decide_eq_true rfl]; rfl
    have k' : ∀ a ∈ es2, a.t < n ∧ a.h < n ∧ f a.h ≤ f a.t + a.c := fun a z => by
      refine ⟨(he2 a z).1, (he2 a z).2, ?_⟩
      have : a.arc ∈ es.map Ed.arc := ha ▸ List.mem_map.mpr ⟨a, z, rfl⟩
      obtain ⟨b, hb, eb⟩ := List.mem_map.mp this
      have q := k b hb
      have e1 : b.h = a.h := congrArg Arc.h eb
      have e2 : b.t = a.t := congrArg Arc.t eb
      have e3 : b.c = a.c := congrArg Arc.c eb
      rw [e1, e2, e3] at q
      exact q
    obtain ⟨x4, k2⟩ := hr_loop (n := n) (f := f) (x1 := .int n) (e := .lst (es2.map Ed.pv)) (x3 := x3) es2 .no k'
    exact An.to (forE_ok (itE_ok (rd_ok rfl)) k2) (An.retO rfl)
  | ring hp d w c C z e =>
    subst e
    rw [hp] at lr
    refine An.iteX (orT_is (a := false) (b := false) rfl (orT_is (a := false) (b := false) rfl rfl)) ?_
    obtain ⟨x3, k1⟩ := hr_ints (r := .tup [.str "ring", .tup (rgP d c)]) (n := .int n) (e := .lst (es2.map Ed.pv)) (x4 := .no) (((List.range d).map fun i => ((c i : Nat) : Int)).reverse) .no
    have el : (((List.range d).map fun i => ((c i : Nat) : Int)).reverse).map PV.int = rgP d c := by
      unfold rgP
      rw [← List.map_reverse, ← List.map_reverse, List.map_map]
      rfl
    rw [el] at k1
    refine An.to (forE_ok (itE_tup8 (bin_ok (rd_ok rfl) rfl rfl)) k1) ?_
    refine An.iteT (toB_ok (call_ok (args2_ok (rd_ok rfl) (rd_ok rfl)) lr)) (An.retSO ?_)
    rw [← ha] at C z
    exact andV_is (a := true) rfl (call_ok (args3_ok (p := .tup (rgP d c)) rfl (rd_ok rfl) (rd_ok rfl)) (law_ring_is_ok C hn z))
end J

namespace J
open PySem.Spec PySem
structure Re where
  t : Int
  h : Int
  lo : Int
  hi : Option Int
  c : Int
def Re.pv (e : Re) : PV := .tup [.int e.t, .int e.h, .int e.lo, optI e.hi, .int e.c]
def Ed.re (e : Ed) : Re := ⟨e.t, e.h, e.lo, e.hi, e.c⟩
inductive Er8 where
  | count (w : Str) (n : Int) | place (p : Int) | edge (i : Nat) | width (h n : Int) | supply (i : Nat) | total (t : Int)
def Er8.c : Er8 → Nat
  | .count _ _ => 4 | .place _ => 32 | .edge _ => 33 | .width _ _ => 14 | .supply _ => 34 | .total _ => 35
def Er8.fs : Er8 → List (Str × PV)
  | .count w n => [("many", .int n), ("what", .str w)]
  | .place p => [("place", .int p)]
  | .edge i => [("at", .int i)]
  | .width h n => [("need", .int n), ("have", .int h)]
  | .supply i => [("place", .int i)]
  | .total t => [("total", .int t)]
def Er8.lv : Option Er8 → PV
  | none => .tup [.str "let", .int 0]
  | some (.count w n) => .tup [.str w, .int n]
  | some (.place p) => .tup [.str "no", .int p]
  | some (.edge i) => .tup [.str "edge", .int i]
  | some (.width h n) => .tup [.str "width", .int h, .int n]
  | some (.supply i) => .tup [.str "supply", .int i]
  | some (.total t) => .tup [.str "total", .int t]
def rer8 (p : PV) : Option Er8 → R PV
  | none => .ok p
  | some e => .er e.c e.fs
def amt (x : Int) : Bool := decide (-1000 ≤ x) && decide (x ≤ 1000)
def hiOk (lo : Int) : Option Int → Bool
  | none => true
  | some x => decide (lo ≤ x) && decide (x ≤ 1000)
def badE (e : Re) : Bool := decide (e.t = e.h) || (decide (e.lo < 0) || (decide (1000 < e.lo) || !amt e.c))
def Re.ok (e : Re) : Bool := !badE e && hiOk e.lo e.hi
def out (n p : Int) : Bool := decide (p < 0) || decide (n ≤ p)
def dueE (n : Int) : Nat → List Re → Option Er8
  | _, [] => none
  | i, e :: es => if out n e.t = true then some (.place e.t) else if out n e.h = true then some (.place e.h) else if e.ok = true then dueE n (i + 1) es else some (.edge i)
def dueEs (n : Int) (es : List Re) : Option Er8 := if decide (1 ≤ es.length) && decide (es.length ≤ 16) then dueE n 0 es else some (.count "edges" es.length)
def dueS1 : Nat → List Int → Option Er8
  | _, [] => none
  | i, s :: ss => if amt s = true then dueS1 (i + 1) ss else some (.supply i)
def dueS (n : Int) (ss : List Int) : Option Er8 := if (ss.length : Int) = n then (match dueS1 0 ss with | some e => some e | none => if ss.sum = 0 then none else some (.total ss.sum)) else some (.width ss.length n)
def dueW (n : Int) (es : List Re) (ss : List Int) : Option Er8 := if decide (2 ≤ n) && decide (n ≤ 8) then (match dueEs n es with | some e => some e | none => dueS n ss) else some (.count "places" n)
theorem is_amount_ok (x : Int) : f_is_amount [.int x] = .ok (.bl (amt x)) := by
  unfold f_is_amount p_is_amount
  refine An.fn rfl ?_
  simp only [env0, List.length_cons, List.length_nil, List.map_cons, List.map_nil, List.cons_append, List.nil_append, List.replicate, Nat.reduceAdd, Nat.reduceSub]
  exact An.retO (andV_is (bin_ok (p := .int (-1000)) rfl (rd_ok rfl) (leI_int _ _)) (bin_ok (rd_ok rfl) rfl (leI_int _ _)))
theorem orV_no8 {d u : Env → R PV} {e : Env} {r : R PV} (h : d e = .ok (.bl false)) (k : u e = r) : orV d u e = r := by
  unfold orV
  rw [h]
  simp only [R.bind_ok]
  exact k
theorem orV_yes8 {d u : Env → R PV} {e : Env} (h : d e = .ok (.bl true)) : orV d u e = .ok (.bl true) := by
  unfold orV
  rw [h]
  rfl
theorem is_edge_ok (e : Re) : f_is_edge [.int e.t, .int e.h, .int e.lo, optI e.hi, .int e.c] = .ok (.bl e.ok) := by
  unfold f_is_edge p_is_edge
  refine An.fn rfl ?_
  simp only [env0, List.length_cons, List.length_nil, List.map_cons, List.map_nil, List.cons_append, List.nil_append, List.replicate, Nat.reduceAdd, Nat.reduceSub]
  have cd : orT (toB (bin2 eqS (rdV 0) (rdV 1))) (orT (toB (bin2 ltI (rdV 2) (fun _ => .ok (.int 0)))) (orT (toB (bin2 gtI (rdV 2) (fun _ => .ok (.int 1000)))) (notT (toB (callE f_is_amount (argsC (rdV 4) args0)))))) [.val (.int e.t), .val (.int e.h), .val (.int e.lo), .val (optI e.hi), .val (.int e.c)] = .ok (badE e) :=
    orT_is (toB_ok (bin_ok (rd_ok rfl) (rd_ok rfl) (eqS_int _ _))) (orT_is (toB_ok (bin_ok (rd_ok rfl) rfl (ltI_int _ _))) (orT_is (toB_ok (bin_ok (rd_ok rfl) rfl (gtI_int _ _))) (notT_ok (toB_ok (call_ok (args1_ok (rd_ok rfl)) (is_amount_ok e.c))))))
  unfold Re.ok
  cases hb : badE e with
  | true => exact An.iteT (cd.trans (by rw [hb])) (An.retSO rfl)
  | false =>
    refine An.iteX (cd.trans (by rw [hb])) (An.retO ?_)
    have hn := isN_I e.hi
    cases hh : e.hi with
    | none => exact orV_yes8 (bin_ok (rd_ok (p := optI none) rfl) rfl rfl)
    | some x => exact orV_no8 (bin_ok (rd_ok (p := .int x) rfl) rfl rfl) (andV_is (a := decide (e.lo ≤ x)) (b := decide (x ≤ 1000)) (bin_ok (rd_ok rfl) (rd_ok (p := .int x) rfl) (leI_int _ _)) (bin_ok (rd_ok (p := .int x) rfl) rfl (leI_int _ _)))
theorem check_place_is (n p : Int) : f_check_place [.int n, .int p] = rer8 .non (if out n p = true then some (.place p) else none) := by
  unfold f_check_place p_check_place
  refine An.fn rfl ?_
  simp only [env0, List.length_cons, List.length_nil, List.map_cons, List.map_nil, List.cons_append, List.nil_append, List.replicate, Nat.reduceAdd, Nat.reduceSub]
  have cd : orT (toB (bin2 ltI (rdV 1) (fun _ => .ok (.int 0)))) (toB (bin2 geI (rdV 1) (rdV 0))) [.val (.int n), .val (.int p)] = .ok (out n p) := orT_is (toB_ok (bin_ok (rd_ok rfl) rfl (ltI_int _ _))) (toB_ok (bin_ok (rd_ok rfl) (rd_ok rfl) (geI_int _ _)))
  cases ho : out n p with
  | true =>
    rw [if_pos rfl]
    exact An.er ((ite_t (cd.trans (by rw [ho])) (raise1 (rd_ok rfl))))
  | false =>
    rw [if_neg (by decide)]
    exact An.nx (ite_n (cd.trans (by rw [ho])) rfl)
abbrev ceE (n : Int) (E : PV) (x2 x3 x4 x5 x6 x7 : Sl) : Env := [iv n, .val E, x2, x3, x4, x5, x6, x7]
theorem ce_loop (n : Int) (E : PV) : ∀ (es : List Re) (i : Nat) (x2 x3 x4 x5 x6 x7 : Sl),
    (dueE n i es = none → ∃ y2 y3 y4 y5 y6 y7, forP (bdT [(bdN 2), (bdT [(bdN 3), (bdN 4), (bdN 5), (bdN 6), (bdN 7)])]) lb_check_edges_1 (enl i (es.map Re.pv)) (ceE n E x2 x3 x4 x5 x6 x7) = .nx (ceE n E y2 y3 y4 y5 y6 y7)) ∧
    (∀ er, dueE n i es = some er → ∃ e', forP (bdT [(bdN 2), (bdT [(bdN 3), (bdN 4), (bdN 5), (bdN 6), (bdN 7)])]) lb_check_edges_1 (enl i (es.map Re.pv)) (ceE n E x2 x3 x4 x5 x6 x7) = .er e' er.c er.fs) := by
  intro es
  induction es with
  | nil => exact fun i x2 x3 x4 x5 x6 x7 => ⟨fun _ => ⟨x2, x3, x4, x5, x6, x7, rfl⟩, fun er h => nomatch h⟩
  | cons e es ih =>
    intro i x2 x3 x4 x5 x6 x7
    obtain ⟨h1, h2⟩ := ih (i + 1) (iv i) (iv e.t) (iv e.h) (iv e.lo) (.val (optI e.hi)) (iv e.c)
    have p1 := check_place_is n e.t
    have p2 := check_place_is n e.h
    have bd : (bdT [(bdN 2), (bdT [(bdN 3), (bdN 4), (bdN 5), (bdN 6), (bdN 7)])]) (.tup [.int i, e.pv]) (ceE n E x2 x3 x4 x5 x6 x7) = some (ceE n E (iv i) (iv e.t) (iv e.h) (iv e.lo) (.val (optI e.hi)) (iv e.c)) := rfl
    have c1 : callE f_check_place (argsC (rdV 0) (argsC (rdV 3) args0)) (ceE n E (iv i) (iv e.t) (iv e.h) (iv e.lo) (.val (optI e.hi)) (iv e.c)) = rer8 .non (if out n e.t = true then some (.place e.t) else none) := call_ok (args2_ok (rd_ok rfl) (rd_ok rfl)) p1
    have c2 : callE f_check_place (argsC (rdV 0) (argsC (rdV 4) args0)) (ceE n E (iv i) (iv e.t) (iv e.h) (iv e.lo) (.val (optI e.hi)) (iv e.c)) = rer8 .non (if out n e.h = true then some (.place e.h) else none) := call_ok (args2_ok (rd_ok rfl) (rd_ok rfl)) p2
    have c3 : notT (toB (callE f_is_edge (argsC (rdV 3) (argsC (rdV 4) (argsC (rdV 5) (argsC (rdV 6) (argsC (rdV 7) args0))))))) (ceE n E (iv i) (iv e.t) (iv e.h) (iv e.lo) (.val (optI e.hi)) (iv e.c)) = .ok (!e.ok) := notT_ok (toB_ok (call_ok (args5_ok (rd_ok rfl) (rd_ok rfl) (rd_ok rfl) (rd_ok rfl) (rd_ok rfl)) (is_edge_ok e)))
    rw [List.map_cons, enl_cons]
    unfold dueE
    by_cases o1 : out n e.t = true
    · rw [if_pos o1] at c1 ⊢
      refine ⟨fun h => (nomatch h), fun er h => ?_⟩
      cases h
      exact ⟨_, forP_er bd (seq_er (drop_er c1))⟩
    · rw [if_neg o1] at c1 ⊢
      by_cases o2 : out n e.h = true
      · rw [if_pos o2] at c2 ⊢
        refine ⟨fun h => (nomatch h), fun er h => ?_⟩
        cases h
        exact ⟨_, forP_er bd (seq_to (drop_ok c1) (seq_er (drop_er c2)))⟩
      · rw [if_neg o2] at c2 ⊢
        by_cases o3 : e.ok = true
        · rw [if_pos o3]
          have st : lb_check_edges_1 (ceE n E (iv i) (iv e.t) (iv e.h) (iv e.lo) (.val (optI e.hi)) (iv e.c)) = .nx (ceE n E (iv i) (iv e.t) (iv e.h) (iv e.lo) (.val (optI e.hi)) (iv e.c)) := seq_to (drop_ok c1) (seq_to (drop_ok c2) (ite_n (c3.trans (by rw [o3]; rfl)) rfl))
          rw [forP_step bd st]
          exact ⟨h1, h2⟩
        · rw [if_neg o3]
          refine ⟨fun h => (nomatch h), fun er h => ?_⟩
          cases h
          exact ⟨_, forP_er bd (seq_to (drop_ok c1) (seq_to (drop_ok c2) (ite_t (c3.trans (by rw [Bool.eq_false_iff.mpr o3]; rfl)) (raise1 (rd_ok (p := .int i) rfl)))))⟩
theorem check_edges_is (n : Int) (es : List Re) : f_check_edges [.int n, .lst (es.map Re.pv)] = rer8 .non (dueEs n es) := by
  unfold f_check_edges p_check_edges
  refine An.fn rfl ?_
  simp only [env0, List.length_cons, List.length_nil, List.map_cons, List.map_nil, List.cons_append, List.nil_append, List.replicate, Nat.reduceAdd, Nat.reduceSub]
  have le : callE lenB (argsC (rdV 1) args0) (ceE n (.lst (es.map Re.pv)) .no .no .no .no .no .no) = .ok (.int es.length) := lenL (rd_ok rfl)
  unfold dueEs
  by_cases z : (decide (1 ≤ es.length) && decide (es.length ≤ 16)) = true
  · rw [if_pos z]
    rw [Bool.and_eq_true, decide_eq_true_eq, decide_eq_true_eq] at z
    refine An.to (drop_ok (call_ok (args4_ok (p := .str "edges") rfl le rfl rfl) (count_ok (by omega) (by omega)))) ?_
    obtain ⟨h1, h2⟩ := ce_loop n (.lst (es.map Re.pv)) es 0 .no .no .no .no .no .no
    cases hd : dueE n 0 es with
    | none =>
      obtain ⟨y2, y3, y4, y5, y6, y7, k⟩ := h1 hd
      exact An.nx (forE_ok (enumE_lst (rd_ok rfl)) k)
    | some er =>
      obtain ⟨e', k⟩ := h2 er hd
      exact An.er (forE_er (enumE_lst (rd_ok rfl)) k)
  · rw [if_neg z]
    rw [Bool.and_eq_true, decide_eq_true_eq, decide_eq_true_eq] at z
    exact An.er (seq_er (drop_er (call_ok (args4_ok (p := .str "edges") rfl le rfl rfl) (count_er (by omega)))))
end J

namespace J
open PySem.Spec PySem
abbrev csE (n : Int) (S : PV) (x2 x3 x4 : Sl) : Env := [iv n, .val S, x2, x3, x4]
theorem cs_loop (n : Int) (S : PV) (x4 : Sl) : ∀ (ss : List Int) (i : Nat) (x2 x3 : Sl),
    (dueS1 i ss = none → ∃ y2 y3, forP (bdT [(bdN 2), (bdN 3)]) lb_check_supplies_1 (enl i (ss.map .int)) (csE n S x2 x3 x4) = .nx (csE n S y2 y3 x4)) ∧
    (∀ er, dueS1 i ss = some er → ∃ e', forP (bdT [(bdN 2), (bdN 3)]) lb_check_supplies_1 (enl i (ss.map .int)) (csE n S x2 x3 x4) = .er e' er.c er.fs) := by
  intro ss
  induction ss with
  | nil => exact fun i x2 x3 => ⟨fun _ => ⟨x2, x3, rfl⟩, fun er h => nomatch h⟩
  | cons s ss ih =>
    intro i x2 x3
    obtain ⟨h1, h2⟩ := ih (i + 1) (iv i) (iv s)
    have bd : (bdT [(bdN 2), (bdN 3)]) (.tup [.int i, .int s]) (csE n S x2 x3 x4) = some (csE n S (iv i) (iv s) x4) := rfl
    have c1 : notT (toB (callE f_is_amount (argsC (rdV 3) args0))) (csE n S (iv i) (iv s) x4) = .ok (!amt s) := notT_ok (toB_ok (call_ok (args1_ok (rd_ok rfl)) (is_amount_ok s)))
    rw [List.map_cons, enl_cons]
    unfold dueS1
    by_cases z : amt s = true
    · rw [if_pos z, forP_step bd (show lb_check_supplies_1 _ = _ from ite_n (c1.trans (by rw [z]; rfl)) rfl)]
      exact ⟨h1, h2⟩
    · rw [if_neg z]
      refine ⟨fun h => (nomatch h), fun er h => ?_⟩
      cases h
      exact ⟨_, forP_er bd (ite_t (c1.trans (by rw [Bool.eq_false_iff.mpr z]; rfl)) (raise1 (rd_ok (p := .int i) rfl)))⟩
theorem check_supplies_is (n : Int) (ss : List Int) : f_check_supplies [.int n, .lst (ss.map .int)] = rer8 .non (dueS n ss) := by
  unfold f_check_supplies p_check_supplies
  refine An.fn rfl ?_
  simp only [env0, List.length_cons, List.length_nil, List.map_cons, List.map_nil, List.cons_append, List.nil_append, List.replicate, Nat.reduceAdd, Nat.reduceSub]
  have le : callE lenB (argsC (rdV 1) args0) (csE n (.lst (ss.map .int)) .no .no .no) = .ok (.int ss.length) := lenL (rd_ok rfl)
  unfold dueS
  by_cases z : (ss.length : Int) = n
  · rw [if_pos z]
    refine An.to (drop_ok (call_ok (args2_ok le (rd_ok rfl)) (by rw [z]; exact check_width_ok n))) ?_
    obtain ⟨h1, h2⟩ := cs_loop n (.lst (ss.map .int)) .no ss 0 .no .no
    cases hd : dueS1 0 ss with
    | none =>
      obtain ⟨y2, y3, k⟩ := h1 hd
      refine An.to (forE_ok (enumE_lst (rd_ok rfl)) k) ?_
      refine An.set (p := .int ss.sum) (call_ok (args1_ok (rd_ok rfl)) (sum_int ss)) ?_
      have cd : toB (bin2 neS (rdV 4) (fun _ => .ok (.int 0))) (csE n (.lst (ss.map .int)) y2 y3 (iv ss.sum)) = .ok (!decide (ss.sum = 0)) := toB_ok (bin_ok (rd_ok rfl) rfl (neS_int _ _))
      simp only
      by_cases y : ss.sum = 0
      · rw [if_pos y]
        exact An.nx (ite_n (cd.trans (by rw [decide_eq_true y]; rfl)) rfl)
      · rw [if_neg y]
        exact An.er (ite_t (cd.trans (by rw [decide_eq_false y]; rfl)) (raise1 (rd_ok rfl)))
    | some er =>
      obtain ⟨e', k⟩ := h2 er hd
      exact An.er (seq_er (forE_er (enumE_lst (rd_ok rfl)) k))
  · rw [if_neg z]
    exact An.er (seq_er (drop_er (call_ok (args2_ok le (rd_ok rfl)) (check_width_er z))))
def webR (n : Int) (es : List Re) (ss : List Int) : PV := .obj 31 [("places", .int n), ("edges", .tup (es.map Re.pv)), ("supplies", .tup (ss.map .int))]
theorem dueEs_len {n : Int} {es : List Re} (h : dueEs n es = none) : es.length ≤ 16 := by
  unfold dueEs at h
  split at h
  · rename_i z
    rw [Bool.and_eq_true, decide_eq_true_eq, decide_eq_true_eq] at z
    exact z.2
  · cases h
theorem Web_init_is (n : Int) (es : List Re) (ss : List Int) : f_Web_init [.int n, .lst (es.map Re.pv), .lst (ss.map .int)] = rer8 (webR n es ss) (dueW n es ss) := by
  unfold f_Web_init
  have cc : ∀ e : Env, Env.at e 1 = iv n → argsC (fun _ => R.ok (.str "places")) (argsC (rdV 1) (argsC (fun _ => .ok (.int 2)) (argsC (fun _ => .ok (.int 8)) args0))) e = .ok [.str "places", .int n, .int 2, .int 8] := fun e h => args4_ok rfl (rd_ok h) rfl rfl
  unfold dueW
  by_cases z : (decide (2 ≤ n) && decide (n ≤ 8)) = true
  · rw [if_pos z]
    rw [Bool.and_eq_true, decide_eq_true_eq, decide_eq_true_eq] at z
    have s1 : dropF (callE f_check_count (argsC (fun _ => .ok (.str "places")) (argsC (rdV 1) (argsC (fun _ => .ok (.int 2)) (argsC (fun _ => .ok (.int 8)) args0))))) [.oob 31 [], iv n, .val (.lst (es.map Re.pv)), .val (.lst (ss.map .int)), .no] = .nx [.oob 31 [], iv n, .val (.lst (es.map Re.pv)), .val (.lst (ss.map .int)), .no] := drop_ok (call_ok (cc _ rfl) (count_ok z.1 z.2))
    have c2 : callE f_check_edges (argsC (rdV 1) (argsC (rdV 2) args0)) [.oob 31 [], iv n, .val (.lst (es.map Re.pv)), .val (.lst (ss.map .int)), .no] = rer8 .non (dueEs n es) := call_ok (args2_ok (rd_ok rfl) (rd_ok rfl)) (check_edges_is n es)
    have c3 : callE f_check_supplies (argsC (rdV 1) (argsC (rdV 3) args0)) [.oob 31 [], iv n, .val (.lst (es.map Re.pv)), .val (.lst (ss.map .int)), .no] = rer8 .non (dueS n ss) := call_ok (args2_ok (rd_ok rfl) (rd_ok rfl)) (check_supplies_is n ss)
    cases h1 : dueEs n es with
    | some er =>
      rw [h1] at c2
      exact fnI_er rfl (seq_to s1 (seq_er (drop_er c2)))
    | none =>
      rw [h1] at c2
      simp only
      cases h2 : dueS n ss with
      | some er =>
        rw [h2] at c3
        exact fnI_er rfl (seq_to s1 (seq_to (drop_ok c2) (seq_er (drop_er c3))))
      | none =>
        rw [h2] at c3
        have el := dueEs_len h1
        refine fnI_ok (e := [.oob 31 [("places", .int n), ("edges", .tup (es.map Re.pv)), ("supplies", .tup (ss.map .int))], iv n, .val (.lst (es.map Re.pv)), .val (.lst (ss.map .int)), .no]) rfl ?_ rfl
        refine seq_to s1 (seq_to (drop_ok c2) (seq_to (drop_ok c3) ?_))
        refine seq_to (fldF_ok rfl (rd_ok (p := .int n) rfl) (by decide) (by decide)) ?_
        refine seq_to (fldF_ok (p := .tup (es.map Re.pv)) rfl (call_ok (args1_ok (lc_ok (l := es.map Re.pv) (itE_ok (rd_ok rfl)) (by rw [List.length_map]; omega) (a2maps fun a _ => ⟨_, rfl, rfl⟩))) rfl) (by decide) (show 1 < 900 by decide)) ?_
        refine (fldF_ok (c := 31) (fs := [("places", .int n), ("edges", .tup (es.map Re.pv))]) (p := .tup (ss.map .int)) rfl (call_ok (args1_ok (p := .lst (ss.map .int)) (rd_ok rfl)) rfl) (by decide) (show 2 < 900 by decide)).trans rfl
  · rw [if_neg z]
    rw [Bool.and_eq_true, decide_eq_true_eq, decide_eq_true_eq] at z
    exact fnI_er rfl (seq_er (drop_er (call_ok (cc _ rfl) (count_er z))))
theorem An.tryX {cat : Nat → Option Bool} {i : Nat} {fb fs k : Env → F} {e e' : Env} {c : Nat} {l : List (Str × PV)} {p : PV} (h1 : fb e = .er e' c l) (h2 : cat c = some true) (hp : p ≠ .non) (h3 : Ans (fs (List.set e' i (.exc c l))) (.ok p)) : Ans (seqF (tryF cat i fb fs) k e) (.ok p) := by
  have h3 := rt_any h3 hp
  have : tryF cat i fb fs e = .rt p := by
    unfold tryF
    rw [h1]
    simp only [h2]
    rw [h3]
    rfl
  exact An.toR this
theorem integer81_ok (n : Int) : f_law_integer_k81 [.int n] = .ok (.int n) := by
  unfold f_law_integer_k81 p_law_integer_k81
  refine An.fn rfl ?_
  simp only [env0, List.length_cons, List.length_nil, List.map_cons, List.map_nil, List.cons_append, List.nil_append, List.replicate, Nat.reduceAdd, Nat.reduceSub]
  exact An.iteX rfl (An.retO rfl)
theorem Er8.ne (o : Option Er8) : Er8.lv o ≠ .non := by
  cases o with
  | none => exact fun z => nomatch z
  | some e => cases e <;> exact fun z => nomatch z
theorem law_made_is (n : Int) (es : List Re) (ss : List Int) : f_law_made [.int n, .lst (es.map Re.pv), .lst (ss.map .int)] = .ok (Er8.lv (dueW n es ss)) := by
  have wi := Web_init_is n es ss
  unfold f_law_made p_law_made
  refine An.fn rfl ?_
  simp only [env0, List.length_cons, List.length_nil, List.map_cons, List.map_nil, List.cons_append, List.nil_append, List.replicate, Nat.reduceAdd, Nat.reduceSub]
  have mk : makeE f_Web_init [] (argsC (rdV 0) (argsC (rdV 1) (argsC (rdV 2) args0))) [iv n, .val (.lst (es.map Re.pv)), .val (.lst (ss.map .int)), .no, .no] = rer8 (webR n es ss) (dueW n es ss) := makeE_ok (args3_ok (rd_ok rfl) (rd_ok rfl) (rd_ok rfl)) wi
  cases hd : dueW n es ss with
  | none =>
    rw [hd] at mk
    exact An.tryN (drop_ok mk) (An.retO rfl)
  | some er =>
    rw [hd] at mk
    refine An.tryX (drop_er mk) (by cases er <;> rfl) (Er8.ne _) ?_
    cases er with
    | count w m =>
      refine An.set (p := .lst [.bl true, .bl false]) rfl (An.set (p := .lst [.bl true, .bl false, .bl false, .bl false]) rfl (An.set (p := .lst [.bl true, .bl false, .bl false, .bl false, .bl false, .bl false]) rfl ?_))
      refine An.iteX rfl (An.iteT rfl (An.retSO (tup_ok (args2_ok (fldx_ok rfl (by simp [Er8.c]) rfl) (call_ok (args1_ok (fldx_ok rfl (by simp [Er8.c]) rfl)) (integer81_ok m))) (show 2 ≤ 1000 by decide))))
    | place m =>
      refine An.set (p := .lst [.bl false, .bl true]) rfl (An.set (p := .lst [.bl false, .bl true, .bl false, .bl false]) rfl (An.set (p := .lst [.bl false, .bl true, .bl false, .bl false, .bl false, .bl false]) rfl ?_))
      refine An.iteX rfl (An.iteX rfl (An.iteT rfl (An.retSO (tup_ok (args2_ok rfl (call_ok (args1_ok (fldx_ok rfl (by simp [Er8.c]) rfl)) (integer81_ok m))) (show 2 ≤ 1000 by decide)))))
    | edge m =>
      refine An.set (p := .lst [.bl false, .bl false]) rfl (An.set (p := .lst [.bl false, .bl false, .bl true, .bl false]) rfl (An.set (p := .lst [.bl false, .bl false, .bl true, .bl false, .bl false, .bl false]) rfl ?_))
      refine An.iteX rfl (An.iteX rfl (An.iteX rfl (An.iteT rfl (An.retSO (tup_ok (args2_ok rfl (call_ok (args1_ok (fldx_ok rfl (by simp [Er8.c]) rfl)) (integer81_ok m))) (show 2 ≤ 1000 by decide))))))
    | width m k =>
      refine An.set (p := .lst [.bl false, .bl false]) rfl (An.set (p := .lst [.bl false, .bl false, .bl false, .bl true]) rfl (An.set (p := .lst [.bl false, .bl false, .bl false, .bl true, .bl false, .bl false]) rfl ?_))
      refine An.iteX rfl (An.iteX rfl (An.iteX rfl (An.iteX rfl (An.iteT rfl (An.retSO (tup_ok (args3_ok rfl (call_ok (args1_ok (fldx_ok rfl (by simp [Er8.c]) rfl)) (integer81_ok m)) (call_ok (args1_ok (fldx_ok rfl (by simp [Er8.c]) rfl)) (integer81_ok k))) (show 3 ≤ 1000 by decide)))))))
    | supply m =>
      refine An.set (p := .lst [.bl false, .bl false]) rfl (An.set (p := .lst [.bl false, .bl false, .bl false, .bl false]) rfl (An.set (p := .lst [.bl false, .bl false, .bl false, .bl false, .bl true, .bl false]) rfl ?_))
      refine An.iteX rfl (An.iteX rfl (An.iteX rfl (An.iteX rfl (An.iteX rfl (An.iteT rfl (An.retSO (tup_ok (args2_ok rfl (call_ok (args1_ok (fldx_ok rfl (by simp [Er8.c]) rfl)) (integer81_ok m))) (show 2 ≤ 1000 by decide))))))))
    | total m =>
      refine An.set (p := .lst [.bl false, .bl false]) rfl (An.set (p := .lst [.bl false, .bl false, .bl false, .bl false]) rfl (An.set (p := .lst [.bl false, .bl false, .bl false, .bl false, .bl false, .bl true]) rfl ?_))
      refine An.iteX rfl (An.iteX rfl (An.iteX rfl (An.iteX rfl (An.iteX rfl (An.iteX rfl (An.retO (tup_ok (args2_ok rfl (call_ok (args1_ok (fldx_ok rfl (by simp [Er8.c]) rfl)) (integer81_ok m))) (show 2 ≤ 1000 by decide))))))))
end J

namespace J
open PySem.Spec PySem
def Nc (p : PV) (k : Nat) : Prop := ∃ d, toD p = some d ∧ d.canLay0 = true ∧ d.depth ≤ k ∧ d.eqv d = true
theorem Nc.int (i : Int) (k : Nat) : Nc (.int i) k := ⟨.int i, by simp [toD], by simp [PySem.PyData.canLay0], by simp [PySem.PyData.depth], by simp [PySem.PyData.eqv]⟩
theorem Nc.non (k : Nat) : Nc .non k := ⟨.none, by simp [toD], by simp [PySem.PyData.canLay0], by simp [PySem.PyData.depth], by simp [PySem.PyData.eqv]⟩
theorem Nc.str {x : Str} (h : sOk x) (k : Nat) : Nc (.str x) k := ⟨.str x, by simp [toD], by simp [PySem.PyData.canLay0, h], by simp [PySem.PyData.depth], by simp [PySem.PyData.eqv]⟩
theorem Nc.optI (o : Option Int) (k : Nat) : Nc (J.optI o) k := by
  cases o with
  | none => exact .non k
  | some i => exact .int i k
theorem Nc.all {k : Nat} : ∀ {l : List PV}, (∀ p ∈ l, Nc p k) → ∃ ds, toDs l = some ds ∧ PySem.PyData.canLayAll0 ds = true ∧ PySem.PyData.depthAll ds ≤ k ∧ PySem.PyData.eqvAll ds ds = true
  | [], _ => ⟨[], by simp [toDs], by simp [PySem.PyData.canLayAll0], by simp [PySem.PyData.depthAll], by simp [PySem.PyData.eqvAll]⟩
  | p :: l, h => by
    obtain ⟨d, d1, d2, d3, d4⟩ := h p List.mem_cons_self
    obtain ⟨ds, e1, e2, e3, e4⟩ := Nc.all fun q hq => h q (List.mem_cons_of_mem _ hq)
    exact ⟨d :: ds, by simp only [toDs, d1, e1], by simp only [PySem.PyData.canLayAll0, d2, e2, Bool.and_self], by simp only [PySem.PyData.depthAll]; omega, by simp only [PySem.PyData.eqvAll, d4, e4, Bool.and_self]⟩
theorem Nc.lst {k : Nat} {l : List PV} (h : ∀ p ∈ l, Nc p k) : Nc (.lst l) (k + 1) := by
  obtain ⟨ds, e1, e2, e3, e4⟩ := Nc.all h
  exact ⟨.list ds, by simp only [toD, e1], by simp [PySem.PyData.canLay0, e2], by simp only [PySem.PyData.depth]; omega, by simp [PySem.PyData.eqv, e4]⟩
theorem Nc.tup {k : Nat} {l : List PV} (h : ∀ p ∈ l, Nc p k) : Nc (.tup l) (k + 1) := by
  obtain ⟨ds, e1, e2, e3, e4⟩ := Nc.all h
  exact ⟨.tuple ds, by simp only [toD, e1], by simp [PySem.PyData.canLay0, e2], by simp only [PySem.PyData.depth]; omega, by simp [PySem.PyData.eqv, e4]⟩
theorem Nc.eq {p : PV} {k : Nat} (h : Nc p k) (hk : k ≤ 64) : J.eqA p p = .ok (.bl true) := by
  obtain ⟨d, d1, d2, d3, d4⟩ := h
  exact eqA_same d1 (by unfold PySem.SeqAt.shaped; rw [d2, decide_eq_true (by omega)]; rfl) d4
theorem Nc.nE {p : PV} {k : Nat} (h : Nc p k) (hk : k ≤ 64) : J.neA p p = .ok (.bl false) := ne_of_eqA (h.eq hk)
theorem Re.nc (e : Re) : Nc e.pv 1 := Nc.tup (k := 0) fun p hp => by
  simp only [List.mem_cons, List.mem_nil_iff, or_false] at hp
  rcases hp with h | h | h | h | h <;> rw [h]
  · exact .int _ _
  · exact .int _ _
  · exact .int _ _
  · exact .optI _ _
  · exact .int _ _
theorem words8 : ∀ s ∈ (["let", "no", "edge", "width", "supply", "total", "places", "edges"] : List Str), sOk s := by decide +kernel
def Er8.Ok : Option Er8 → Prop
  | some (.count w _) => sOk w
  | _ => True
theorem nc_si {s : Str} (h : sOk s) (n : Int) : Nc (.tup [.str s, .int n]) 1 := Nc.tup (k := 0) fun p hp => by
  simp only [List.mem_cons, List.mem_nil_iff, or_false] at hp
  rcases hp with q | q <;> rw [q]
  · exact .str h _
  · exact .int _ _
theorem nc_sii {s : Str} (h : sOk s) (n m : Int) : Nc (.tup [.str s, .int n, .int m]) 1 := Nc.tup (k := 0) fun p hp => by
  simp only [List.mem_cons, List.mem_nil_iff, or_false] at hp
  rcases hp with q | q | q <;> rw [q]
  · exact .str h _
  · exact .int _ _
  · exact .int _ _
theorem Er8.nc {o : Option Er8} (h : Er8.Ok o) : Nc (Er8.lv o) 1 := by
  cases o with
  | none => exact nc_si (words8 _ (by simp)) _
  | some e =>
    cases e with
    | count w n => exact nc_si h _
    | place p => exact nc_si (words8 _ (by simp)) _
    | edge i => exact nc_si (words8 _ (by simp)) _
    | width a b => exact nc_sii (words8 _ (by simp)) _ _
    | supply i => exact nc_si (words8 _ (by simp)) _
    | total t => exact nc_si (words8 _ (by simp)) _
theorem neA_si {a b : Str} (ha : sOk a) (hb : sOk b) (m n : Int) (h : a ≠ b) : J.neA (.tup [.str a, .int m]) (.tup [.str b, .int n]) = .ok (.bl true) := by
  unfold J.neA
  simp only [toD, toDs]
  rw [if_pos (by simp [PySem.SeqAt.shaped, PySem.PyData.canLay0, PySem.PyData.canLayAll0, PySem.PyData.depth, PySem.PyData.depthAll, ha, hb])]
  simp [PySem.PyData.eqv, PySem.PyData.eqvAll, h]
def one (n : Int) (i : Nat) (e : Re) : Option Er8 := if out n e.t = true then some (.place e.t) else if out n e.h = true then some (.place e.h) else if e.ok = true then none else some (.edge i)
theorem dueE_one (n : Int) (i : Nat) (e : Re) (es : List Re) : dueE n i (e :: es) = match one n i e with | some er => some er | none => dueE n (i + 1) es := by
  unfold one
  rw [dueE]
  by_cases h1 : out n e.t = true
  · rw [if_pos h1, if_pos h1]
  · rw [if_neg h1, if_neg h1]
    by_cases h2 : out n e.h = true
    · rw [if_pos h2, if_pos h2]
    · rw [if_neg h2, if_neg h2]
      by_cases h3 : e.ok = true
      · rw [if_pos h3, if_pos h3]
      · rw [if_neg h3, if_neg h3]
def fine (n : Int) (e : Re) : Prop := out n e.t = false ∧ out n e.h = false ∧ e.ok = true
theorem fine.one {n : Int} {e : Re} (h : fine n e) (i : Nat) : J.one n i e = none := by
  unfold J.one
  rw [h.1, h.2.1, h.2.2]
  rfl
theorem dueE_fine {n : Int} : ∀ {es : List Re} (i : Nat), (∀ e ∈ es, fine n e) → dueE n i es = none
  | [], _, _ => rfl
  | e :: es, i, h => by
    rw [dueE_one, (h e List.mem_cons_self).one]
    exact dueE_fine (i + 1) fun f hf => h f (List.mem_cons_of_mem _ hf)
theorem dueE_at {n : Int} {r : Re} {er : Er8} : ∀ {es : List Re} {k i : Nat}, (∀ j e, j < k → es[j]? = some e → fine n e) → es[k]? = some r → one n (i + k) r = some er → dueE n i es = some er
  | [], k, i, _, h, _ => by simp at h
  | e :: es, 0, i, _, h, h1 => by
    have : e = r := by simpa using h
    subst this
    rw [dueE_one]
    rw [Nat.add_zero] at h1
    rw [h1]
  | e :: es, k + 1, i, hf, h, h1 => by
    rw [dueE_one, (hf 0 e (by omega) rfl).one]
    exact dueE_at (k := k) (fun j f hj hh => hf (j + 1) f (by omega) (by simpa using hh)) (by simpa using h) (by rw [show i + 1 + k = i + (k + 1) by omega]; exact h1)
theorem in_rng {n x : Nat} (h : x < n) : out n x = false := by
  unfold out
  rw [decide_eq_false (by omega), decide_eq_false (by omega)]
  rfl
structure DEd (n : Nat) (e : Ed) : Prop where
  t : e.t < n
  h : e.h < n
  ne : e.t ≠ e.h
  lo : 0 ≤ e.lo ∧ e.lo ≤ 100
  hi : ∀ x, e.hi = some x → e.lo ≤ x ∧ x ≤ 1000
  c : -1000 ≤ e.c ∧ e.c ≤ 1000
theorem re_ok {e : Re} (ne : e.t ≠ e.h) (lo : 0 ≤ e.lo ∧ e.lo ≤ 1000) (hi : ∀ x, e.hi = some x → e.lo ≤ x ∧ x ≤ 1000) (c : -1000 ≤ e.c ∧ e.c ≤ 1000) : e.ok = true := by
  unfold Re.ok badE amt
  rw [decide_eq_false ne, decide_eq_false (show ¬ e.lo < 0 by omega), decide_eq_false (show ¬ 1000 < e.lo by omega), decide_eq_true c.1, decide_eq_true c.2]
  unfold hiOk
  cases h : e.hi with
  | none => rfl
  | some x =>
    show (true && (decide (e.lo ≤ x) && decide (x ≤ 1000))) = true
    rw [decide_eq_true (hi x h).1, decide_eq_true (hi x h).2]; rfl
theorem re_no {e : Re} (h : e.t = e.h ∨ e.lo < 0 ∨ 1000 < e.lo ∨ e.c < -1000 ∨ 1000 < e.c ∨ ∃ x, e.hi = some x ∧ (x < e.lo ∨ 1000 < x)) : e.ok = false := by
  cases hk : e.ok with
  | false => rfl
  | true =>
    exfalso
    unfold Re.ok at hk
    rw [Bool.and_eq_true] at hk
    obtain ⟨h1, h2⟩ := hk
    unfold badE amt at h1
    simp only [Bool.not_or, Bool.and_eq_true, Bool.not_eq_true', decide_eq_false_iff_not, decide_eq_true_eq, Bool.not_not] at h1
    rcases h with h | h | h | h | h | ⟨x, hx, h⟩
    · exact h1.1 h
    · omega
    · omega
    · omega
    · omega
    · rw [hx] at h2
      unfold hiOk at h2
      simp only [Bool.and_eq_true, decide_eq_true_eq] at h2
      omega
theorem DEd.fine {n : Nat} {e : Ed} (h : DEd n e) : J.fine n e.re := ⟨in_rng h.t, in_rng h.h, re_ok (fun z => h.ne (Int.ofNat.inj z)) ⟨h.lo.1, by have := h.lo.2; show e.lo ≤ 1000; omega⟩ h.hi h.c⟩
def faults (e : Ed) (i : Nat) (off : Int) : List (Re × Option Er8) :=
  [(⟨off, e.h, e.lo, e.hi, e.c⟩, some (.place off)), (⟨e.t, off, e.lo, e.hi, e.c⟩, some (.place off)), (⟨-2, off, e.lo, e.hi, e.c⟩, some (.place (-2))), (⟨off, off, -1, some 1001, 1001⟩, some (.place off)), (⟨e.t, off, 1001, some 0, -1001⟩, some (.place off)),
   (⟨e.t, e.t, e.lo, e.hi, e.c⟩, some (.edge i)), (⟨e.t, e.h, -1, e.hi, e.c⟩, some (.edge i)), (⟨e.t, e.h, 1001, none, e.c⟩, some (.edge i)), (⟨e.t, e.h, 1001, some 1001, e.c⟩, some (.edge i)), (⟨e.t, e.h, e.lo, some (e.lo - 1), e.c⟩, some (.edge i)),
   (⟨e.t, e.h, 5, some 4, e.c⟩, some (.edge i)), (⟨e.t, e.h, 1000, some 999, e.c⟩, some (.edge i)), (⟨e.t, e.h, e.lo, some 1001, e.c⟩, some (.edge i)), (⟨e.t, e.h, e.lo, e.hi, 1001⟩, some (.edge i)), (⟨e.t, e.h, e.lo, e.hi, -1001⟩, some (.edge i)),
   (⟨e.t, e.h, 1000, some 1000, 1000⟩, none), (⟨e.t, e.h, 1000, none, -1000⟩, none), (⟨e.t, e.h, 0, some 1000, 0⟩, none), (⟨e.h, e.t, 0, some 0, -1⟩, none)]
theorem one_p1 {n : Int} {i : Nat} {e : Re} (h : out n e.t = true) : one n i e = some (.place e.t) := by unfold one; rw [if_pos h]
theorem one_p2 {n : Int} {i : Nat} {e : Re} (h : out n e.t = false) (k : out n e.h = true) : one n i e = some (.place e.h) := by unfold one; rw [if_neg (by rw [h]; decide), if_pos k]
theorem one_ed {n : Int} {i : Nat} {e : Re} (h : out n e.t = false) (k : out n e.h = false) (m : e.ok = false) : one n i e = some (.edge i) := by unfold one; rw [if_neg (by rw [h]; decide), if_neg (by rw [k]; decide), if_neg (by rw [m]; decide)]
theorem faults_ok {n : Nat} {e : Ed} (h : DEd n e) (i : Nat) {off : Int} (ho : out n off = true) : ∀ f ∈ faults e i off, one n i f.1 = f.2 ∧ (f.2 = none → fine n f.1) := by
  have ht := in_rng h.t
  have hh := in_rng h.h
  have tn : (e.t : Int) ≠ e.h := fun z => h.ne (Int.ofNat.inj z)
  have hn : (e.h : Int) ≠ e.t := fun z => tn z.symm
  have lo := h.lo
  have cc := h.c
  intro f hf
  simp only [faults, List.mem_cons, List.mem_nil_iff, or_false] at hf
  have nn : ∀ {r : Re} {er : Er8}, one n i r = some er → one n i r = some er ∧ ((some er : Option Er8) = none → fine n r) := fun q => ⟨q, fun z => nomatch z⟩
  have gd : ∀ {r : Re}, fine n r → one n i r = none ∧ ((none : Option Er8) = none → fine n r) := fun q => ⟨q.one i, fun _ => q⟩
  rcases hf with q | q | q | q | q | q | q | q | q | q | q | q | q | q | q | q | q | q | q <;> rw [q]
  · exact nn (one_p1 ho)
  · exact nn (one_p2 ht ho)
  · exact nn (one_p1 (e := ⟨-2, off, e.lo, e.hi, e.c⟩) rfl)
  · exact nn (one_p1 ho)
  · exact nn (one_p2 ht ho)
  · exact nn (one_ed ht ht (re_no (.inl rfl)))
  · exact nn (one_ed ht hh (re_no (.inr (.inl (by first | decide | (dsimp only; decide))))))
  · exact nn (one_ed ht hh (re_no (.inr (.inr (.inl (by first | decide | (dsimp only; decide)))))))
  · exact nn (one_ed ht hh (re_no (.inr (.inr (.inl (by first | decide | (dsimp only; decide)))))))
  · exact nn (one_ed ht hh (re_no (.inr (.inr (.inr (.inr (.inr ⟨_, rfl, .inl (by show e.lo - 1 < e.lo; omega)⟩)))))))
  · exact nn (one_ed ht hh (re_no (.inr (.inr (.inr (.inr (.inr ⟨_, rfl, .inl (by first | decide | (dsimp only; decide))⟩)))))))
  · exact nn (one_ed ht hh (re_no (.inr (.inr (.inr (.inr (.inr ⟨_, rfl, .inl (by first | decide | (dsimp only; decide))⟩)))))))
  · exact nn (one_ed ht hh (re_no (.inr (.inr (.inr (.inr (.inr ⟨_, rfl, .inr (by first | decide | (dsimp only; decide))⟩)))))))
  · exact nn (one_ed ht hh (re_no (.inr (.inr (.inr (.inr (.inl (by first | decide | (dsimp only; decide)))))))))
  · exact nn (one_ed ht hh (re_no (.inr (.inr (.inr (.inl (by first | decide | (dsimp only; decide))))))))
  · exact gd ⟨ht, hh, re_ok tn (by first | decide | (dsimp only; decide)) (fun x hx => by cases hx; dsimp only; decide) (by first | decide | (dsimp only; decide))⟩
  · exact gd ⟨ht, hh, re_ok tn (by first | decide | (dsimp only; decide)) (fun x hx => nomatch hx) (by first | decide | (dsimp only; decide))⟩
  · exact gd ⟨ht, hh, re_ok tn (by first | decide | (dsimp only; decide)) (fun x hx => by cases hx; dsimp only; decide) (by first | decide | (dsimp only; decide))⟩
  · exact gd ⟨hh, ht, re_ok hn (by first | decide | (dsimp only; decide)) (fun x hx => by cases hx; dsimp only; decide) (by first | decide | (dsimp only; decide))⟩
end J

namespace J
open PySem.Spec PySem
theorem law_with_ok {l : List PV} {i : Nat} {p : PV} (h : i < l.length) : f_law_with [.lst l, .int i, p] = .ok (.lst (l.set i p)) := by
  unfold f_law_with p_law_with
  refine An.fn rfl ?_
  simp only [env0, List.length_cons, List.length_nil, List.map_cons, List.map_nil, List.cons_append, List.nil_append, List.replicate, Nat.reduceAdd, Nat.reduceSub]
  refine An.to (setCO_ok (l := l) (by unfold listO; rfl)) ?_
  refine An.to (setI_at (i := 3) (l := l) rfl (rd_ok (p := .int i) rfl) (rd_ok (p := p) rfl) h) ?_
  exact An.frz (l := l.set i p) rfl (An.retO (rd_ok rfl))
theorem with_re {rs : List Re} {i : Nat} {r : Re} (h : i < rs.length) : f_law_with [.lst (rs.map Re.pv), .int i, r.pv] = .ok (.lst ((rs.set i r).map Re.pv)) := by
  rw [law_with_ok (by simpa using h), List.map_set]
def fpv (f : Re × Option Er8) : PV := .tup [f.1.pv, Er8.lv f.2]
abbrev efE (n : PV) (es : List Ed) (i : Nat) (o : Int) (e : Ed) (L : List (Re × Option Er8)) : Env := [.val n, .val (.lst (es.map Ed.pv)), iv i, iv o, iv e.t, iv e.h, iv e.lo, .val (optI e.hi), iv e.c, .own (L.map fpv)]
theorem An.efa {n : PV} {es : List Ed} {i : Nat} {o : Int} {e : Ed} {L : List (Re × Option Er8)} {d : Env → R PV} {g : Env → F} {r : R PV} (f : Re × Option Er8) (h : ∀ L, d (efE n es i o e L) = .ok (fpv f)) (hl : L.length < 900) (k : Ans (g (efE n es i o e (L ++ [f]))) r) : Ans (seqF (appF 9 d) g (efE n es i o e L)) r := by
  refine An.to ((app_own (l := L.map fpv) rfl (h L) (by rw [List.length_map]; omega)).trans ?_) k
  rw [← List.map_singleton, ← List.map_append]
  rfl
theorem edge_faults_ok {es : List Ed} {n off : PV} {i : Nat} {o : Int} {e : Ed} (h : es[i]? = some e) : f_law_edge_faults [n, .lst (es.map Ed.pv), .int i, .int o] = .ok (.lst ((faults e i o).map fpv)) := by
  unfold f_law_edge_faults p_law_edge_faults
  refine An.fn rfl ?_
  simp only [env0, List.length_cons, List.length_nil, List.map_cons, List.map_nil, List.cons_append, List.nil_append, List.replicate, Nat.reduceAdd, Nat.reduceSub]
  have ex : ∀ (x4 x5 x6 x7 x8 x9 : Sl), bin2 ixP (rdV 1) (rdV 2) [.val n, .val (.lst (es.map Ed.pv)), iv i, iv o, x4, x5, x6, x7, x8, x9] = .ok e.pv := fun x4 x5 x6 x7 x8 x9 => bin_ok (p := .lst (es.map Ed.pv)) (rd_ok rfl) (rd_ok rfl) (ixP_lst (k := i) (by rw [List.getElem?_map, h]; rfl))
  refine An.set (p := .int e.t) (bin_ok (ex _ _ _ _ _ _) rfl rfl) ?_
  refine An.set (p := .int e.h) (bin_ok (ex _ _ _ _ _ _) rfl rfl) ?_
  refine An.set (p := .int e.lo) (bin_ok (ex _ _ _ _ _ _) rfl rfl) ?_
  refine An.set (p := optI e.hi) (bin_ok (ex _ _ _ _ _ _) rfl rfl) ?_
  refine An.set (p := .int e.c) (bin_ok (ex _ _ _ _ _ _) rfl rfl) ?_
  refine An.to (e' := efE n es i o e [(⟨o, e.h, e.lo, e.hi, e.c⟩, some (.place o))]) (setCO_ok (l := [fpv (⟨o, e.h, e.lo, e.hi, e.c⟩, some (.place o))]) rfl) ?_
  refine An.efa (⟨e.t, o, e.lo, e.hi, e.c⟩, some (.place o)) (fun _ => rfl) (by simp) ?_
  refine An.efa (⟨-2, o, e.lo, e.hi, e.c⟩, some (.place (-2))) (fun _ => rfl) (by simp) ?_
  refine An.efa (⟨o, o, -1, some 1001, 1001⟩, some (.place o)) (fun _ => rfl) (by simp) ?_
  refine An.efa (⟨e.t, o, 1001, some 0, -1001⟩, some (.place o)) (fun _ => rfl) (by simp) ?_
  refine An.efa (⟨e.t, e.t, e.lo, e.hi, e.c⟩, some (.edge i)) (fun _ => rfl) (by simp) ?_
  refine An.efa (⟨e.t, e.h, -1, e.hi, e.c⟩, some (.edge i)) (fun _ => rfl) (by simp) ?_
  refine An.efa (⟨e.t, e.h, 1001, none, e.c⟩, some (.edge i)) (fun _ => rfl) (by simp) ?_
  refine An.efa (⟨e.t, e.h, 1001, some 1001, e.c⟩, some (.edge i)) (fun _ => rfl) (by simp) ?_
  refine An.efa (⟨e.t, e.h, e.lo, some (e.lo - 1), e.c⟩, some (.edge i)) (fun _ => rfl) (by simp) ?_
  refine An.efa (⟨e.t, e.h, 5, some 4, e.c⟩, some (.edge i)) (fun _ => rfl) (by simp) ?_
  refine An.efa (⟨e.t, e.h, 1000, some 999, e.c⟩, some (.edge i)) (fun _ => rfl) (by simp) ?_
  refine An.efa (⟨e.t, e.h, e.lo, some 1001, e.c⟩, some (.edge i)) (fun _ => rfl) (by simp) ?_
  refine An.efa (⟨e.t, e.h, e.lo, e.hi, 1001⟩, some (.edge i)) (fun _ => rfl) (by simp) ?_
  refine An.efa (⟨e.t, e.h, e.lo, e.hi, -1001⟩, some (.edge i)) (fun _ => rfl) (by simp) ?_
  refine An.efa (⟨e.t, e.h, 1000, some 1000, 1000⟩, none) (fun _ => rfl) (by simp) ?_
  refine An.efa (⟨e.t, e.h, 1000, none, -1000⟩, none) (fun _ => rfl) (by simp) ?_
  refine An.efa (⟨e.t, e.h, 0, some 1000, 0⟩, none) (fun _ => rfl) (by simp) ?_
  refine An.efa (⟨e.h, e.t, 0, some 0, -1⟩, none) (fun _ => rfl) (by simp) ?_
  have key : ∀ L : List (Re × Option Er8), L = faults e i o → Ans ((fun env => (retF (rdV 9)) (J.frz 9 env)) (efE n es i o e L)) (.ok (.lst ((faults e i o).map fpv))) := fun L hL => by
    subst hL
    generalize faults e i o = L
    exact An.frz (l := L.map fpv) rfl (An.retO (rd_ok rfl))
  refine key _ ?_
  simp only [List.cons_append, List.nil_append, faults]
structure DW (n : Nat) (es : List Ed) (ss : List Int) : Prop where
  n2 : 2 ≤ n
  n8 : n ≤ 8
  e1 : 1 ≤ es.length
  e16 : es.length ≤ 16
  ed : ∀ e ∈ es, DEd n e
  sn : ss.length = n
  sd : dueS n ss = none
section
variable {n : Nat} {es : List Ed} {ss : List Int}
theorem DW.nz (h : DW n es ss) : (decide (2 ≤ (n : Int)) && decide ((n : Int) ≤ 8)) = true := by
  have := h.n2
  have := h.n8
  rw [decide_eq_true (by omega), decide_eq_true (by omega)]; rfl
theorem DW.fine (h : DW n es ss) : ∀ r ∈ es.map Ed.re, J.fine n r := fun r hr => by
  obtain ⟨e, he, rfl⟩ := List.mem_map.mp hr
  exact (h.ed e he).fine
theorem due_len (h : DW n es ss) {rs : List Re} (hl : 1 ≤ rs.length ∧ rs.length ≤ 16) (ts : List Int) : dueW n rs ts = match dueE n 0 rs with | some e => some e | none => dueS n ts := by
  unfold dueW dueEs
  rw [if_pos h.nz, if_pos (by rw [decide_eq_true hl.1, decide_eq_true hl.2]; rfl)]
  all_goals (cases dueE n 0 rs <;> rfl)
theorem due_bad (h : DW n es ss) {rs : List Re} (hl : 1 ≤ rs.length ∧ rs.length ≤ 16) {k : Nat} {r : Re} {er : Er8} (hf : ∀ j e, j < k → rs[j]? = some e → J.fine n e) (hk : rs[k]? = some r) (h1 : one n k r = some er) (ts : List Int) : dueW n rs ts = some er := by
  rw [due_len h hl, dueE_at hf hk (by rw [Nat.zero_add]; exact h1)]
theorem due_good (h : DW n es ss) {rs : List Re} (hl : 1 ≤ rs.length ∧ rs.length ≤ 16) (hf : ∀ r ∈ rs, J.fine n r) (ts : List Int) : dueW n rs ts = dueS n ts := by
  rw [due_len h hl, dueE_fine 0 hf]
theorem set_fine {rs : List Re} {k : Nat} {r : Re} (h : ∀ r ∈ rs, J.fine n r) (hr : J.fine n r) : ∀ q ∈ rs.set k r, J.fine n q := fun q hq => by
  rcases List.mem_or_eq_of_mem_set hq with z | z
  · exact h q z
  · rw [z]; exact hr
theorem set_before {rs : List Re} {k : Nat} {r : Re} (h : ∀ r ∈ rs, J.fine n r) : ∀ j e, j < k → (rs.set k r)[j]? = some e → J.fine n e := fun j e hj he => by
  rw [List.getElem?_set_ne (by omega)] at he
  exact h e (List.mem_of_getElem? he)
end
theorem red (es : List Ed) : es.map Ed.pv = (es.map Ed.re).map Re.pv := by rw [List.map_map]; rfl
abbrev eaE (n : Nat) (es : List Ed) (ss : List Int) (i : Nat) (o : Int) (x5 x6 x7 x8 : Sl) : Env := [iv n, .val (.lst (es.map Ed.pv)), .val (.lst (ss.map .int)), iv i, iv o, x5, x6, x7, x8]
theorem made_at {n : Nat} {rs : List Re} {ss : List Int} {dn de ds : Env → R PV} {e : Env} (h : dn e = .ok (.int n)) (k : de e = .ok (.lst (rs.map Re.pv))) (m : ds e = .ok (.lst (ss.map .int))) : callE f_law_made (argsC dn (argsC de (argsC ds args0))) e = .ok (Er8.lv (dueW n rs ss)) := call_ok (args3_ok h k m) (law_made_is n rs ss)
theorem one_okW {n : Int} {i : Nat} {r : Re} {er : Er8} (h : one n i r = some er) : Er8.Ok (some er) ∧ ∃ (s : Str) (m : Int), Er8.lv (some er) = .tup [.str s, .int m] ∧ sOk s ∧ s ≠ "let" := by
  unfold one at h
  split at h
  · cases h; exact ⟨trivial, _, _, rfl, words8 _ (by simp), by decide⟩
  · split at h
    · cases h; exact ⟨trivial, _, _, rfl, words8 _ (by simp), by decide⟩
    · split at h
      · cases h
      · cases h; exact ⟨trivial, _, _, rfl, words8 _ (by simp), by decide⟩
theorem ea_step {n : Nat} {es : List Ed} {ss : List Int} (D : DW n es ss) {i : Nat} (hi : i < es.length) {o : Int} (f : Re × Option Er8) (hf : one n i f.1 = f.2 ∧ (f.2 = none → J.fine n f.1)) (x6 x7 x8 : Sl) :
    ∃ x6', lb_law_edges_asked_1 (eaE n es ss i o (.val (fpv f)) x6 x7 x8) = .nx (eaE n es ss i o (.val (fpv f)) x6' x7 x8) := by
  have hl : 1 ≤ ((es.map Ed.re).set i f.1).length ∧ ((es.map Ed.re).set i f.1).length ≤ 16 := by rw [List.length_set, List.length_map]; exact ⟨D.e1, D.e16⟩
  have f0 : ∀ x6, bin2 ixP (rdV 5) (fun _ => .ok (.int 0)) (eaE n es ss i o (.val (fpv f)) x6 x7 x8) = .ok f.1.pv := fun x6 => bin_ok (rd_ok rfl) rfl rfl
  have f1 : ∀ x6, bin2 ixP (rdV 5) (fun _ => .ok (.int 1)) (eaE n es ss i o (.val (fpv f)) x6 x7 x8) = .ok (Er8.lv f.2) := fun x6 => bin_ok (rd_ok rfl) rfl rfl
  refine ⟨.val (.lst (((es.map Ed.re).set i f.1).map Re.pv)), ?_⟩
  unfold lb_law_edges_asked_1
  refine seq_to (e' := eaE n es ss i o (.val (fpv f)) (.val (.lst (((es.map Ed.re).set i f.1).map Re.pv))) x7 x8) (set_ok (call_ok (args3_ok (p := .lst ((es.map Ed.re).map Re.pv)) (by rw [← red]; exact rd_ok rfl) (rd_ok rfl) (f0 _)) (with_re (by rw [List.length_map]; exact hi)))) ?_
  have ok : Er8.Ok f.2 := by
    cases h : f.2 with
    | none => trivial
    | some er => rw [h] at hf; exact (one_okW hf.1).1
  have due : ∀ ts : List Int, (f.2 = none → dueS n ts = none) → dueW n ((es.map Ed.re).set i f.1) ts = f.2 := fun ts hts => by
    cases h : f.2 with
    | none =>
      rw [h] at hf hts
      rw [due_good D hl (set_fine D.fine (hf.2 rfl)), hts rfl]
    | some er =>
      rw [h] at hf
      exact due_bad D hl (set_before D.fine) (by rw [List.getElem?_set_self (by rw [List.length_map]; exact hi)]) hf.1 ts
  have m1 : callE f_law_made (argsC (rdV 0) (argsC (rdV 6) (argsC (rdV 2) args0))) (eaE n es ss i o (.val (fpv f)) (.val (.lst (((es.map Ed.re).set i f.1).map Re.pv))) x7 x8) = .ok (Er8.lv f.2) := (made_at (rd_ok rfl) (rd_ok rfl) (rd_ok rfl)).trans (by rw [due ss fun _ => D.sd])
  refine seq_to (e' := eaE n es ss i o (.val (fpv f)) (.val (.lst (((es.map Ed.re).set i f.1).map Re.pv))) x7 x8) (ite_n (toB_ok (bin_ok m1 (f1 _) ((Er8.nc ok).nE (by decide)))) rfl) ?_
  cases h : f.2 with
  | none =>
    refine ite_n (and_no (toB_ok (bin_ok (f1 _) (q := Er8.lv none) rfl ?_))) rfl
    rw [h]
    exact (Er8.nc (o := none) trivial).nE (by decide)
  | some er =>
    rw [h] at hf due f1 ok
    obtain ⟨_, s, m, e1, e2, e3⟩ := one_okW hf.1
    refine ite_n (and_yes5 (toB_ok (bin_ok (f1 _) (q := .tup [.str "let", .int 0]) rfl (by rw [e1]; exact neA_si e2 (words8 _ (by simp)) _ _ e3))) (toB_ok (bin_ok ((made_at (ss := []) (rd_ok rfl) (rd_ok rfl) rfl).trans (by rw [due [] fun z => nomatch z])) (f1 _) ((Er8.nc ok).nE (by decide))))) rfl
theorem ea_loop {n : Nat} {es : List Ed} {ss : List Int} (D : DW n es ss) {i : Nat} (hi : i < es.length) {o : Int} (x7 x8 : Sl) : ∀ (fs : List (Re × Option Er8)) (x5 x6 : Sl), (∀ f ∈ fs, one n i f.1 = f.2 ∧ (f.2 = none → J.fine n f.1)) →
    ∃ x5' x6', forP (bdN 5) lb_law_edges_asked_1 (fs.map fpv) (eaE n es ss i o x5 x6 x7 x8) = .nx (eaE n es ss i o x5' x6' x7 x8)
  | [], x5, x6, _ => ⟨x5, x6, rfl⟩
  | f :: fs, x5, x6, h => by
    obtain ⟨y6, k⟩ := ea_step D hi f (h f List.mem_cons_self) x6 x7 x8 (o := o)
    obtain ⟨x5', x6', kk⟩ := ea_loop D hi x7 x8 fs (.val (fpv f)) y6 (fun g hg => h g (List.mem_cons_of_mem _ hg)) (o := o)
    exact ⟨x5', x6', (forP_step (e1 := eaE n es ss i o (.val (fpv f)) x6 x7 x8) rfl k).trans kk⟩
end J

namespace J
open PySem.Spec PySem
theorem neA_no {d u : Env → R PV} {e : Env} {p : PV} {k : Nat} (h : Nc p k) (hk : k ≤ 64) (h1 : d e = .ok p) (h2 : u e = .ok p) : toB (bin2 qNotEq_A d u) e = .ok false := toB_ok (bin_ok h1 h2 (h.nE hk))
theorem edges_asked_ok {n : Nat} {es : List Ed} {ss : List Int} (D : DW n es ss) {i : Nat} (hi : i < es.length) {o : Int} (ho : out n o = true) :
    f_law_edges_asked [.int n, .lst (es.map Ed.pv), .lst (ss.map .int), .int i, .int o] = .ok (.bl true) := by
  obtain ⟨e, he⟩ : ∃ e, es[i]? = some e := ⟨_, List.getElem?_eq_getElem hi⟩
  have De := D.ed e (List.mem_of_getElem? he)
  have n2 := D.n2
  unfold f_law_edges_asked p_law_edges_asked
  refine An.fn rfl ?_
  simp only [env0, List.length_cons, List.length_nil, List.map_cons, List.map_nil, List.cons_append, List.nil_append, List.replicate, Nat.reduceAdd, Nat.reduceSub]
  obtain ⟨x5, x6, k⟩ := ea_loop D hi .no .no (faults e i o) .no .no (faults_ok De i ho) (o := o)
  refine An.to (forE_ok (itE_ok (call_ok (args4_ok (rd_ok rfl) (rd_ok rfl) (rd_ok rfl) (rd_ok rfl)) (edge_faults_ok (off := .non) he))) k) ?_
  refine An.set (p := .int ((es.length - 1 : Nat) : Int)) (bin_ok (lenL (rd_ok rfl)) rfl (show subI (.int es.length) (.int 1) = _ by have := D.e1; rw [show ((es.length - 1 : Nat) : Int) = (es.length : Int) - 1 by omega]; rfl)) ?_
  have cd : toB (bin2 ltI (rdV 3) (rdV 7)) (eaE n es ss i o x5 x6 (iv ((es.length - 1 : Nat) : Int)) .no) = .ok (decide ((i : Int) < ((es.length - 1 : Nat) : Int))) := toB_ok (bin_ok (rd_ok rfl) (rd_ok rfl) (ltI_int _ _))
  by_cases z : i < es.length - 1
  · refine An.iteT (cd.trans (by rw [decide_eq_true (by omega)])) ?_
    have ht := in_rng De.t
    have hh := in_rng De.h
    have rl : ∀ q r : Re, 1 ≤ (((es.map Ed.re).set (es.length - 1) q).set i r).length ∧ (((es.map Ed.re).set (es.length - 1) q).set i r).length ≤ 16 := fun q r => by rw [List.length_set, List.length_set, List.length_map]; exact ⟨D.e1, D.e16⟩
    have rf : ∀ q r : Re, ∀ j f, j < i → (((es.map Ed.re).set (es.length - 1) q).set i r)[j]? = some f → J.fine n f := fun q r j f hj hf => by
      rw [List.getElem?_set_ne (by omega), List.getElem?_set_ne (by omega)] at hf
      exact D.fine f (List.mem_of_getElem? hf)
    have rg : ∀ q r : Re, (((es.map Ed.re).set (es.length - 1) q).set i r)[i]? = some r := fun q r => by rw [List.getElem?_set_self (by rw [List.length_set, List.length_map]; exact hi)]
    have ww : ∀ (q r : Re) (dq dr : Env → R PV) (E : Env), Env.at E 1 = .val (.lst (es.map Ed.pv)) → Env.at E 3 = iv i → Env.at E 7 = iv ((es.length - 1 : Nat) : Int) → dq E = .ok q.pv → dr E = .ok r.pv →
        callE f_law_with (argsC (callE f_law_with (argsC (rdV 1) (argsC (rdV 7) (argsC dq args0)))) (argsC (rdV 3) (argsC dr args0))) E = .ok (.lst ((((es.map Ed.re).set (es.length - 1) q).set i r).map Re.pv)) := fun q r dq dr E h1 h3 h7 hq hr =>
      call_ok (args3_ok (call_ok (args3_ok (p := .lst ((es.map Ed.re).map Re.pv)) (by rw [← red]; exact rd_ok h1) (rd_ok h7) hq) (with_re (by rw [List.length_map]; omega))) (rd_ok h3) hr) (with_re (by rw [List.length_set, List.length_map]; exact hi))
    have ex : ∀ (x6 x7 x8 : Sl), bin2 ixP (rdV 1) (rdV 3) (eaE n es ss i o x5 x6 x7 x8) = .ok e.pv := fun x6 x7 x8 => bin_ok (p := .lst (es.map Ed.pv)) (rd_ok rfl) (rd_ok rfl) (ixP_lst (k := i) (by rw [List.getElem?_map, he]; rfl))
    let r1 : Re := ⟨e.t, e.h, 0, some 0, 1001⟩
    have o1 : one n i r1 = some (.edge i) := one_ed ht hh (re_no (.inr (.inr (.inr (.inr (.inl (show (1000 : Int) < 1001 by decide)))))))
    have tf : tupE (argsC (bin2 ixP (bin2 ixP (rdV 1) (rdV 3)) (fun _ => .ok (.int 0))) (argsC (bin2 ixP (bin2 ixP (rdV 1) (rdV 3)) (fun _ => .ok (.int 1))) (argsC (fun _ => .ok (.int 0)) (argsC (fun _ => .ok (.int 0)) (argsC (fun _ => .ok (.int 1001)) args0))))) (eaE n es ss i o x5 x6 (iv ((es.length - 1 : Nat) : Int)) .no) = .ok r1.pv := tup_ok (args5_ok (bin_ok (ex _ _ _) rfl rfl) (bin_ok (ex _ _ _) rfl rfl) rfl rfl rfl) (show 5 ≤ 1000 by decide)
    refine An.assoc (An.to (e' := eaE n es ss i o x5 x6 (iv ((es.length - 1 : Nat) : Int)) (.val r1.pv)) (set_ok tf) ?_)
    refine An.assoc (An.to (set_ok (ww ⟨o, o, 0, some 0, 0⟩ r1 _ _ _ rfl rfl rfl rfl (rd_ok rfl))) ?_)
    refine An.assoc (An.iteX (neA_no (Er8.nc (o := some (.edge i)) trivial) (by decide) ((made_at (rd_ok rfl) (rd_ok rfl) (rd_ok rfl)).trans (by rw [due_bad D (rl _ _) (rf _ _) (rg _ _) o1])) rfl) ?_)
    refine An.assoc (An.to (set_ok (ww ⟨0, 0, 0, some 0, 0⟩ ⟨o, 0, 0, some 0, 0⟩ _ _ _ rfl rfl rfl rfl rfl)) ?_)
    refine An.iteX (neA_no (Er8.nc (o := some (.place o)) trivial) (by decide) ((made_at (rd_ok rfl) (rd_ok rfl) (rd_ok rfl)).trans (by rw [due_bad D (rl _ _) (rf _ _) (rg _ _) (one_p1 (e := ⟨o, 0, 0, some 0, 0⟩) ho)])) rfl) ?_
    exact An.retO rfl
  · exact An.iteX (cd.trans (by rw [decide_eq_false (by omega)])) (An.retO rfl)
end J

namespace J
open PySem.Spec PySem
structure DS (n : Nat) (ss : List Int) : Prop where
  len : ss.length = n
  sm : ∀ s ∈ ss, -100 ≤ s ∧ s ≤ 100
  sum : ss.sum = 0
theorem amt_yes {x : Int} (h : -1000 ≤ x ∧ x ≤ 1000) : amt x = true := by unfold amt; rw [decide_eq_true h.1, decide_eq_true h.2]; rfl
theorem amt_no {x : Int} (h : x < -1000 ∨ 1000 < x) : amt x = false := by
  unfold amt
  rcases h with h | h
  · rw [decide_eq_false (by omega)]; rfl
  · rw [decide_eq_false (show ¬ x ≤ 1000 by omega), Bool.and_false]
theorem dueS1_fine : ∀ {ss : List Int} (i : Nat), (∀ s ∈ ss, amt s = true) → dueS1 i ss = none
  | [], _, _ => rfl
  | s :: ss, i, h => by
    rw [dueS1, if_pos (h s List.mem_cons_self)]
    exact dueS1_fine (i + 1) fun t ht => h t (List.mem_cons_of_mem _ ht)
theorem dueS1_at : ∀ {ss : List Int} {k i : Nat} {x : Int}, (∀ j s, j < k → ss[j]? = some s → amt s = true) → ss[k]? = some x → amt x = false → dueS1 i ss = some (.supply (i + k))
  | [], k, i, x, _, h, _ => by simp at h
  | s :: ss, 0, i, x, _, h, hx => by
    have : s = x := by simpa using h
    subst this
    rw [dueS1, if_neg (by rw [hx]; decide)]
    rfl
  | s :: ss, k + 1, i, x, hf, h, hx => by
    rw [dueS1, if_pos (hf 0 s (by omega) rfl)]
    rw [dueS1_at (k := k) (fun j t hj hh => hf (j + 1) t (by omega) (by simpa using hh)) (by simpa using h) hx, show i + 1 + k = i + (k + 1) by omega]
theorem sum_set : ∀ {l : List Int} {i : Nat} {x y : Int}, l[i]? = some y → (l.set i x).sum = l.sum - y + x
  | [], i, x, y, h => by simp at h
  | a :: l, 0, x, y, h => by
    have : a = y := by simpa using h
    subst this
    simp only [List.set_cons_zero, List.sum_cons]
    omega
  | a :: l, i + 1, x, y, h => by
    simp only [List.set_cons_succ, List.sum_cons]
    rw [sum_set (l := l) (i := i) (by simpa using h)]
    omega
theorem DS.due {n : Nat} {ss : List Int} (h : DS n ss) : dueS n ss = none := by
  unfold dueS
  rw [if_pos (by rw [h.len]), dueS1_fine 0 fun s hs => amt_yes (by have := h.sm s hs; omega)]
  simp only
  rw [if_pos h.sum]
theorem dueS_len {n : Nat} {ts : List Int} (h : ts.length ≠ n) : dueS n ts = some (.width ts.length n) := by
  unfold dueS
  rw [if_neg (by omega)]
theorem dueS_bad {n k : Nat} {ts : List Int} {x : Int} (h : ts.length = n) (hf : ∀ j s, j < k → ts[j]? = some s → amt s = true) (hk : ts[k]? = some x) (hx : amt x = false) : dueS n ts = some (.supply k) := by
  unfold dueS
  rw [if_pos (by rw [h]), dueS1_at hf hk hx, Nat.zero_add]
theorem dueS_tot {n : Nat} {ts : List Int} (h : ts.length = n) (hf : ∀ s ∈ ts, amt s = true) (hs : ts.sum ≠ 0) : dueS n ts = some (.total ts.sum) := by
  unfold dueS
  rw [if_pos (by rw [h]), dueS1_fine 0 hf]
  simp only
  rw [if_neg hs]
theorem zero_sum : ∀ n : Nat, (List.replicate n (0 : Int)).sum = 0
  | 0 => rfl
  | n + 1 => by rw [List.replicate_succ, List.sum_cons, zero_sum n]; rfl
theorem with_int {ts : List Int} {i : Nat} {x : Int} (h : i < ts.length) : f_law_with [.lst (ts.map .int), .int i, .int x] = .ok (.lst ((ts.set i x).map .int)) := by
  rw [law_with_ok (by simpa using h), List.map_set]
abbrev saE (n : Nat) (es : List Ed) (ss : List Int) (i : Nat) (o : Int) (x5 x6 x7 x8 x9 x10 : Sl) : Env := [iv n, .val (.lst (es.map Ed.pv)), .val (.lst (ss.map .int)), iv i, iv o, x5, x6, x7, x8, x9, x10]
section
variable {n : Nat} {es : List Ed} {ss : List Int}
theorem made_s (D : DW n es ss) {ts : List Int} {dn de ds : Env → R PV} {e : Env} (h : dn e = .ok (.int n)) (k : de e = .ok (.lst (es.map Ed.pv))) (m : ds e = .ok (.lst (ts.map .int))) : callE f_law_made (argsC dn (argsC de (argsC ds args0))) e = .ok (Er8.lv (dueS n ts)) := by
  rw [red] at k
  rw [made_at h k m, due_good D (by rw [List.length_map]; exact ⟨D.e1, D.e16⟩) D.fine]
theorem sa_step (D : DW n es ss) (S : DS n ss) {i : Nat} (hi : i < n) {o y : Int} (hy : amt y = false) (x5 x8 x9 x10 : Sl) : ∃ x8', lb_law_supplies_asked_1 (saE n es ss i o x5 (.val (.lst ((ss.set (n - 1) 1001).map .int))) (iv y) x8 x9 x10) = .nx (saE n es ss i o x5 (.val (.lst ((ss.set (n - 1) 1001).map .int))) (iv y) x8' x9 x10) := by
  have ln := S.len
  have hl : i < (ss.set (n - 1) 1001).length := by rw [List.length_set, ln]; exact hi
  refine ⟨.val (.lst (((ss.set (n - 1) 1001).set i y).map .int)), ?_⟩
  unfold lb_law_supplies_asked_1
  refine seq_to (set_ok (call_ok (args3_ok (p := .lst ((ss.set (n - 1) 1001).map .int)) (rd_ok rfl) (rd_ok rfl) (rd_ok rfl)) (with_int hl))) ?_
  refine ite_n (neA_no (Er8.nc (o := some (.supply i)) trivial) (by decide) ((made_s D (ts := (ss.set (n - 1) 1001).set i y) (rd_ok rfl) (rd_ok rfl) (rd_ok rfl)).trans ?_) rfl) rfl
  rw [dueS_bad (by rw [List.length_set, List.length_set, ln]) (fun j s hj hs => ?_) (by rw [List.getElem?_set_self hl]) hy]
  rw [List.getElem?_set_ne (by omega), List.getElem?_set_ne (by omega)] at hs
  exact amt_yes (by have := S.sm s (List.mem_of_getElem? hs); omega)
theorem supplies_asked_ok (D : DW n es ss) (S : DS n ss) {i : Nat} (hi : i < n) {o : Int} (h0 : o ≠ 0) (h1 : -20 ≤ o ∧ o ≤ 20) : f_law_supplies_asked [.int n, .lst (es.map Ed.pv), .lst (ss.map .int), .int i, .int o] = .ok (.bl true) := by
  have ln := S.len
  have n2 := D.n2
  have n8 := D.n8
  obtain ⟨s, hs⟩ : ∃ s, ss[i]? = some s := ⟨_, List.getElem?_eq_getElem (by omega)⟩
  have sb := S.sm s (List.mem_of_getElem? hs)
  have en : ((n - 1 : Nat) : Int) = (n : Int) - 1 := by omega
  have nm : ∀ e : Env, Env.at e 0 = iv n → bin2 subI (rdV 0) (fun _ => .ok (.int 1)) e = .ok (.int ((n - 1 : Nat) : Int)) := fun e h => bin_ok (rd_ok h) rfl (by rw [en]; rfl)
  unfold f_law_supplies_asked p_law_supplies_asked
  refine An.fn rfl ?_
  simp only [env0, List.length_cons, List.length_nil, List.map_cons, List.map_nil, List.cons_append, List.nil_append, List.replicate, Nat.reduceAdd, Nat.reduceSub]
  refine An.set (p := .lst ((ss.take (n - 1)).map .int)) ((sl_to (m := ss.map .int) (rd_ok rfl) (nm _ rfl)).trans (by rw [List.map_take])) ?_
  have tl : (ss.take (n - 1)).length = n - 1 := by rw [List.length_take]; omega
  refine An.iteX (neA_no (Er8.nc (o := some (.width ((n - 1 : Nat) : Int) n)) trivial) (by decide) ((made_s D (ts := ss.take (n - 1)) (rd_ok rfl) (rd_ok rfl) (rd_ok rfl)).trans (by rw [dueS_len (by omega), tl])) (tup_ok (args3_ok rfl (nm _ rfl) (rd_ok rfl)) (show 3 ≤ 1000 by decide))) ?_
  have cl : ∀ e : Env, Env.at e 2 = .val (.lst (ss.map .int)) → bin2 catL (lstE (argsC (fun _ => .ok (.int 1001)) args0)) (rdV 2) e = .ok (.lst ((1001 :: ss).map .int)) := fun e h => bin_ok (p := .lst [.int 1001]) rfl (rd_ok h) (cat_ok (by rw [List.length_map, ln]; show 1 + n ≤ 1000; omega))
  refine An.iteX (neA_no (Er8.nc (o := some (.width ((n : Int) + 1) n)) trivial) (by decide) ((made_s D (ts := 1001 :: ss) (rd_ok rfl) (rd_ok rfl) (cl _ rfl)).trans (by rw [dueS_len (by rw [List.length_cons]; omega), List.length_cons, ln]; rfl)) (tup_ok (args3_ok (q := .int ((n : Int) + 1)) rfl (bin_ok (rd_ok rfl) rfl rfl) (rd_ok rfl)) (show 3 ≤ 1000 by decide))) ?_
  refine An.set (p := .lst ((ss.set (n - 1) 1001).map .int)) (call_ok (args3_ok (p := .lst (ss.map .int)) (rd_ok rfl) (nm _ rfl) rfl) (with_int (by omega))) ?_
  obtain ⟨y1, k1⟩ := sa_step D S hi (o := o) (y := 1001) (amt_no (by decide)) (.val (.lst ((ss.take (n - 1)).map .int))) .no .no .no
  obtain ⟨y2, k2⟩ := sa_step D S hi (o := o) (y := -1001) (amt_no (by decide)) (.val (.lst ((ss.take (n - 1)).map .int))) y1 .no .no
  refine An.to (forE_ok (l := [.int 1001, .int (-1001)]) rfl ((forP_step (e1 := saE n es ss i o (.val (.lst ((ss.take (n - 1)).map .int))) (.val (.lst ((ss.set (n - 1) 1001).map .int))) (iv 1001) .no .no .no) rfl k1).trans ((forP_step (e1 := saE n es ss i o (.val (.lst ((ss.take (n - 1)).map .int))) (.val (.lst ((ss.set (n - 1) 1001).map .int))) (iv (-1001)) y1 .no .no) rfl k2).trans rfl))) ?_
  refine An.set (p := .lst ((ss.set i (s + o)).map .int)) (call_ok (args3_ok (p := .lst (ss.map .int)) (rd_ok rfl) (rd_ok rfl) (bin_ok (p := .int s) (bin_ok (p := .lst (ss.map .int)) (rd_ok rfl) (rd_ok rfl) (ixP_lst (k := i) (by rw [List.getElem?_map, hs]; rfl))) (rd_ok rfl) rfl)) (with_int (by omega))) ?_
  have ts : (ss.set i (s + o)).sum = o := by rw [sum_set hs, S.sum]; omega
  refine An.iteX (neA_no (Er8.nc (o := some (.total o)) trivial) (by decide) ((made_s D (ts := ss.set i (s + o)) (rd_ok rfl) (rd_ok rfl) (rd_ok rfl)).trans ?_) (tup_ok (args2_ok rfl (rd_ok rfl)) (show 2 ≤ 1000 by decide))) ?_
  · rw [dueS_tot (by rw [List.length_set, ln]) (fun t ht => ?_) (by rw [ts]; exact h0), ts]
    rcases List.mem_or_eq_of_mem_set ht with q | q
    · exact amt_yes (by have := S.sm t q; omega)
    · exact amt_yes (by omega)
  refine An.to (setCO_ok (l := List.replicate n (.int 0)) (repO8 rfl (rd_ok rfl) (by omega))) ?_
  obtain ⟨j, hj, ej, jn⟩ : ∃ j : Nat, j < n ∧ ((i : Int) + 1) % n = j ∧ i ≠ j := by
    by_cases z : i + 1 = n
    · exact ⟨0, by omega, by rw [show (i : Int) + 1 = (n : Int) by omega, Int.emod_self]; rfl, by omega⟩
    · exact ⟨i + 1, by omega, by rw [Int.emod_eq_of_lt (by omega) (by omega)]; rfl, by omega⟩
  refine An.to (setI_at (i := 10) (k := i) (l := List.replicate n (.int 0)) (p := .int 1000) rfl (rd_ok rfl) rfl (by simpa using hi)) ?_
  refine An.to (setI_at (i := 10) (k := j) (l := (List.replicate n (.int 0)).set i (.int 1000)) (p := .int (-1000)) rfl (bin_ok (p := .int ((i : Int) + 1)) (q := .int n) (call_ok (args1_ok (bin_ok (rd_ok rfl) rfl rfl)) rfl) (rd_ok rfl) ((modI_int (by omega)).trans (by rw [ej]))) rfl (by simpa using hj)) ?_
  have el : ((List.replicate n (PV.int 0)).set i (.int 1000)).set j (.int (-1000)) = (((List.replicate n (0 : Int)).set i 1000).set j (-1000)).map .int := by rw [List.map_set, List.map_set, List.map_replicate]
  have zl : (((List.replicate n (0 : Int)).set i 1000).set j (-1000)).length = n := by simp
  have dz : dueS n (((List.replicate n (0 : Int)).set i 1000).set j (-1000)) = none := by
    unfold dueS
    rw [if_pos (by rw [zl]), dueS1_fine 0 (fun t ht => ?_)]
    · simp only
      have r0 := zero_sum n
      have s1 := sum_set (l := List.replicate n (0 : Int)) (i := i) (x := 1000) (y := 0) (by rw [List.getElem?_replicate, if_pos hi])
      have s2 := sum_set (l := (List.replicate n (0 : Int)).set i 1000) (i := j) (x := -1000) (y := 0) (by rw [List.getElem?_set_ne jn, List.getElem?_replicate, if_pos hj])
      rw [if_pos (by rw [s2, s1, r0]; rfl)]
    · rcases List.mem_or_eq_of_mem_set ht with q | q
      · rcases List.mem_or_eq_of_mem_set q with q | q
        · rw [(List.mem_replicate.mp q).2]; decide
        · rw [q]; decide
      · rw [q]; decide
  refine An.frz (l := ((List.replicate n (PV.int 0)).set i (.int 1000)).set j (.int (-1000))) rfl (An.retO (bin_ok (p := Er8.lv none) (q := Er8.lv none) ((made_s D (ts := ((List.replicate n (0 : Int)).set i 1000).set j (-1000)) (rd_ok rfl) (rd_ok rfl) (by rw [← el]; exact rd_ok rfl)).trans (by rw [dz])) rfl ((Er8.nc (o := none) trivial).eq (by decide))))
end
end J

namespace J
open PySem.Spec PySem
theorem due_cnt {n : Int} (h : ¬ (2 ≤ n ∧ n ≤ 8)) (rs : List Re) (ts : List Int) : dueW n rs ts = some (.count "places" n) := by
  unfold dueW
  rw [if_neg]
  rw [Bool.and_eq_true, decide_eq_true_eq, decide_eq_true_eq]
  exact h
section
variable {n : Nat} {es : List Ed} {ss : List Int}
theorem due_many (D : DW n es ss) {rs : List Re} (h : ¬ (1 ≤ rs.length ∧ rs.length ≤ 16)) (ts : List Int) : dueW n rs ts = some (.count "edges" rs.length) := by
  unfold dueW dueEs
  rw [if_pos D.nz, if_neg (by rw [Bool.and_eq_true, decide_eq_true_eq, decide_eq_true_eq]; exact h)]
abbrev caE (n : Nat) (es : List Ed) (ss : List Int) (x3 x4 x5 : Sl) : Env := [iv n, .val (.lst (es.map Ed.pv)), .val (.lst (ss.map .int)), x3, x4, x5]
theorem ok_places (m : Int) : Er8.Ok (some (.count "places" m)) := words8 _ (by simp)
theorem ok_edges (m : Int) : Er8.Ok (some (.count "edges" m)) := words8 _ (by simp)
theorem made_l {m : Int} {rs : List Re} {ts : List Int} {dn de ds : Env → R PV} {e : Env} (h : dn e = .ok (.int m)) (k : de e = .ok (.lst (rs.map Re.pv))) (l : ds e = .ok (.lst (ts.map .int))) : callE f_law_made (argsC dn (argsC de (argsC ds args0))) e = .ok (Er8.lv (dueW m rs ts)) := call_ok (args3_ok h k l) (law_made_is m rs ts)
theorem ca_step {m : Int} (hm : ¬ (2 ≤ m ∧ m ≤ 8)) (x4 x5 : Sl) : lb_law_counts_asked_1 (caE n es ss (iv m) x4 x5) = .nx (caE n es ss (iv m) x4 x5) := by
  have rs : ∀ x3 x4 x5, rdV 1 (caE n es ss x3 x4 x5) = .ok (.lst ((es.map Ed.re).map Re.pv)) := fun _ _ _ => by rw [← red]; rfl
  unfold lb_law_counts_asked_1
  refine seq_to (e' := caE n es ss (iv m) x4 x5) (ite_n (neA_no (Er8.nc (ok_places m)) (by decide) ((made_l (rd_ok rfl) (rs _ _ _) (rd_ok rfl)).trans (by rw [due_cnt hm])) (tup_ok (args2_ok rfl (rd_ok rfl)) (show 2 ≤ 1000 by decide))) rfl) ?_
  exact ite_n (neA_no (Er8.nc (ok_places m)) (by decide) ((made_l (rs := []) (ts := []) (rd_ok rfl) rfl rfl).trans (by rw [due_cnt hm])) (tup_ok (args2_ok rfl (rd_ok rfl)) (show 2 ≤ 1000 by decide))) rfl
theorem ca_loop8 (x4 x5 : Sl) : ∀ (l : List Int) (x3 : Sl), (∀ m ∈ l, ¬ (2 ≤ m ∧ m ≤ 8)) → ∃ x3', forP (bdN 3) lb_law_counts_asked_1 (l.map .int) (caE n es ss x3 x4 x5) = .nx (caE n es ss x3' x4 x5)
  | [], x3, _ => ⟨x3, rfl⟩
  | m :: l, x3, h => by
    obtain ⟨x3', k⟩ := ca_loop8 x4 x5 l (iv m) fun p hp => h p (List.mem_cons_of_mem _ hp)
    exact ⟨x3', (forP_step (e1 := caE n es ss (iv m) x4 x5) rfl (ca_step (h m List.mem_cons_self) x4 x5)).trans k⟩
theorem pick_ed {l : List Ed} (h : 1 ≤ l.length) (k : Nat) : ∃ e, l[k % l.length]? = some e := ⟨_, List.getElem?_eq_getElem (Nat.mod_lt _ (by omega))⟩
theorem counts_asked_ok (D : DW n es ss) : f_law_counts_asked [.int n, .lst (es.map Ed.pv), .lst (ss.map .int)] = .ok (.bl true) := by
  have n8 := D.n8
  unfold f_law_counts_asked p_law_counts_asked
  refine An.fn rfl ?_
  simp only [env0, List.length_cons, List.length_nil, List.map_cons, List.map_nil, List.cons_append, List.nil_append, List.replicate, Nat.reduceAdd, Nat.reduceSub]
  obtain ⟨x3, k⟩ := ca_loop8 (n := n) (es := es) (ss := ss) .no .no [1, 0, 9, 17, -1] .no (by decide)
  refine An.to (forE_ok (l := ([1, 0, 9, 17, -1] : List Int).map .int) rfl k) ?_
  refine An.iteX (neA_no (Er8.nc (ok_edges 0)) (by decide) ((made_l (rs := []) (ts := []) (rd_ok rfl) rfl rfl).trans (by rw [due_many D (by simp)]; rfl)) rfl) ?_
  obtain ⟨rs, rl, rf, ra⟩ : ∃ rs : List Re, rs.length = 17 ∧ (∀ r ∈ rs, J.fine n r) ∧ lcE [5] (fun env => ((argsC (fun _ => .ok (.int 17)) args0) env).bind rng1) (bdN 5) yesT (bin2 ixP (rdV 1) (bin2 modI (callE intB (argsC (rdV 5) args0)) (callE lenB (argsC (rdV 1) args0)))) (caE n es ss x3 .no .no) = .ok (.lst (rs.map Re.pv)) := by
    refine ⟨(List.range 17).map fun k => match es[k % es.length]? with | some e => e.re | none => ⟨0, 1, 0, none, 0⟩, by simp, fun r hr => ?_, ?_⟩
    · obtain ⟨k, _, rfl⟩ := List.mem_map.mp hr
      obtain ⟨e, he⟩ := pick_ed D.e1 k
      rw [he]
      exact (D.ed e (List.mem_of_getElem? he)).fine
    · have rg : (fun env => ((argsC (fun _ => R.ok (.int 17)) args0) env).bind rng1) (caE n es ss x3 .no .no) = .ok (rngL 0 17) := rngE (n := 17) rfl (by decide)
      rw [rng_map] at rg
      rw [List.map_map]
      refine lc_ok rg (by simp) (a2maps fun k _ => ⟨caE n es ss x3 .no (iv k), rfl, ?_⟩)
      obtain ⟨e, he⟩ := pick_ed D.e1 k
      have e1 := D.e1
      refine bin_ok (p := .lst (es.map Ed.pv)) (q := .int ((k % es.length : Nat) : Int)) (rd_ok rfl) (bin_ok (p := .int k) (q := .int es.length) (call_ok (args1_ok (rd_ok rfl)) rfl) (lenL (rd_ok rfl)) ((modI_int (by omega)).trans (by rw [Int.natCast_emod]))) (ixP_lst ?_)
      rw [List.getElem?_map, he]
      show some e.pv = some (Re.pv (match es[k % es.length]? with | some e => e.re | none => ⟨0, 1, 0, none, 0⟩))
      rw [he]
      rfl
  refine An.set ra ?_
  have l17 : ¬ (1 ≤ rs.length ∧ rs.length ≤ 16) := by omega
  refine An.iteX (neA_no (Er8.nc (ok_edges 17)) (by decide) ((made_l (rs := rs) (ts := ss) (rd_ok rfl) (rd_ok rfl) (rd_ok rfl)).trans (by rw [due_many D l17, rl]; rfl)) rfl) ?_
  refine An.set (call_ok (args3_ok (rd_ok rfl) (q := .int (0 : Nat)) rfl (r := Re.pv ⟨n, 0, 0, some 0, 0⟩) (tup_ok (args5_ok (rd_ok rfl) rfl rfl rfl rfl) (show 5 ≤ 1000 by decide))) (with_re (rs := rs) (by omega))) ?_
  have sl : (rs.set 0 ⟨n, 0, 0, some 0, 0⟩).length = 17 := by rw [List.length_set, rl]
  refine An.iteX (neA_no (Er8.nc (ok_edges 17)) (by decide) ((made_l (rs := rs.set 0 ⟨n, 0, 0, some 0, 0⟩) (ts := [1]) (rd_ok rfl) (rd_ok rfl) rfl).trans (by rw [due_many D (by omega), sl]; rfl)) rfl) ?_
  have dr : sliceE (rdV 4) (someB (fun _ => .ok (.int 1))) noB (caE n es ss x3 (.val (.lst ((rs.set 0 ⟨n, 0, 0, some 0, 0⟩).map Re.pv))) .no) = .ok (.lst ((rs.drop 1).map Re.pv)) := by
    match rs, rl with
    | r :: rs, rl => 
      have : sliceE (rdV 4) (someB (fun _ => .ok (.int 1))) noB (caE n es ss x3 (.val (.lst (((r :: rs).set 0 ⟨n, 0, 0, some 0, 0⟩).map Re.pv))) .no) = .ok (.lst (cutP (((r :: rs).set 0 ⟨n, 0, 0, some 0, 0⟩).map Re.pv) (some 1) none)) := rfl
      rw [this]
      congr 2
      exact cut_from _ _
  refine An.retO (bin_ok (p := Er8.lv none) (q := Er8.lv none) ((made_l (rs := rs.drop 1) (ts := ss) (rd_ok rfl) dr (rd_ok rfl)).trans ?_) rfl ((Er8.nc (o := none) trivial).eq (by decide)))
  rw [due_good D (by rw [List.length_drop]; omega) (fun r hr => rf r (List.mem_of_mem_drop hr)), D.sd]
end
end J

namespace J
open PySem.Spec PySem
theorem ixP_due {l : List PV} {d p : PV} {k : Nat} (hd : d = .tup l ∨ d = .lst l) (h : l[k]? = some p) : ixP d (.int k) = .ok p := by
  rcases hd with q | q <;> rw [q]
  · exact ixP_tup h
  · exact ixP_lst h
theorem lenB_due {l : List PV} {d : PV} (hd : d = .tup l ∨ d = .lst l) : lenB [d] = .ok (.int l.length) := by
  rcases hd with q | q <;> rw [q]
  · exact lenB_tup l
  · exact lenB_lst l
theorem pl_loop {l : List (Option Int)} {d : PV} (hd : d = .tup (l.map optI) ∨ d = .lst (l.map optI)) : ∀ (k j : Nat) (x : Sl), j + k = l.length → ∃ x', forP (bdN 2) lb_law_plain_1 ((List.range' j k).map fun (i : Nat) => PV.int i) [.val (.tup (l.map optI)), .val d, x] = .nx [.val (.tup (l.map optI)), .val d, x']
  | 0, j, x, _ => ⟨x, rfl⟩
  | k + 1, j, x, h => by
    obtain ⟨x', kk⟩ := pl_loop hd k (j + 1) (iv j) (by omega)
    refine ⟨x', ?_⟩
    rw [List.range'_succ, List.map_cons]
    refine (forP_step (e1 := [.val (.tup (l.map optI)), .val d, iv j]) (e2 := [.val (.tup (l.map optI)), .val d, iv j]) rfl ?_).trans kk
    obtain ⟨o, ho⟩ : ∃ o, l[j]? = some o := ⟨_, List.getElem?_eq_getElem (by omega)⟩
    have hm : (l.map optI)[j]? = some (optI o) := by rw [List.getElem?_map, ho]; rfl
    have a0 : bin2 ixP (rdV 0) (rdV 2) [.val (.tup (l.map optI)), .val d, iv j] = .ok (optI o) := bin_ok (rd_ok rfl) (rd_ok rfl) (ixP_tup hm)
    have a1 : bin2 ixP (rdV 1) (rdV 2) [.val (.tup (l.map optI)), .val d, iv j] = .ok (optI o) := bin_ok (rd_ok rfl) (rd_ok rfl) (ixP_due hd hm)
    unfold lb_law_plain_1
    refine seq_to (e' := [.val (.tup (l.map optI)), .val d, iv j]) (ite_n ?_ rfl) (ite_n (neA_no (Nc.optI o 0) (by decide) a0 a1) rfl)
    cases o with
    | none => exact and_no (toB_ok (bin_ok a0 rfl rfl))
    | some n => exact and_yes5 (toB_ok (bin_ok a0 rfl rfl)) (toB_ok (bin_ok (call_ok (args1_ok a0) (integer81_ok n)) rfl rfl))
theorem plain_ok {l : List (Option Int)} {d : PV} (hd : d = .tup (l.map optI) ∨ d = .lst (l.map optI)) (hl : l.length ≤ 900) : f_law_plain [.tup (l.map optI), d] = .ok (.bl true) := by
  unfold f_law_plain p_law_plain
  refine An.fn rfl ?_
  simp only [env0, List.length_cons, List.length_nil, List.map_cons, List.map_nil, List.cons_append, List.nil_append, List.replicate, Nat.reduceAdd, Nat.reduceSub]
  have l0 : callE lenB (argsC (rdV 0) args0) [.val (.tup (l.map optI)), .val d, .no] = .ok (.int l.length) := (lenT8 rfl).trans (by rw [List.length_map])
  have l1 : callE lenB (argsC (rdV 1) args0) [.val (.tup (l.map optI)), .val d, .no] = .ok (.int l.length) := call_ok (args1_ok (rd_ok rfl)) ((lenB_due hd).trans (by rw [List.length_map]))
  refine An.iteX (orT_is (a := false) (b := false) rfl (neA_no (Nc.int l.length 0) (by decide) l0 l1)) ?_
  obtain ⟨x', k⟩ := pl_loop hd l.length 0 .no (by omega)
  rw [← rngL_range'] at k
  have rg : (fun env => ((argsC (callE lenB (argsC (rdV 1) args0)) args0) env).bind rng1) [.val (.tup (l.map optI)), .val d, .no] = .ok (rngL 0 l.length) := rngE (n := l.length) l1 (by omega)
  exact An.to (forE_ok rg k) (An.retO rfl)
theorem plain_ed (e : Ed) : f_law_plain [e.pv, e.pv] = .ok (.bl true) := plain_ok (l := [some e.t, some e.h, some e.lo, e.hi, some e.c]) (.inl rfl) (show 5 ≤ 900 by decide)
theorem plain_ss {ss : List Int} (h : ss.length ≤ 900) : f_law_plain [.tup (ss.map .int), .lst (ss.map .int)] = .ok (.bl true) := by
  have e : (ss.map some).map optI = ss.map PV.int := by rw [List.map_map]; rfl
  have := plain_ok (l := ss.map some) (d := .lst (ss.map .int)) (.inr (by rw [e])) (by rw [List.length_map]; exact h)
  rw [e] at this
  exact this
def costs8 : List Int := [1, 2, 0, -1, 3, -2, 5, -3, 4]
def wide8 : List (Option Int) := [some 3, some 2, some 4, none, some 1, some 0, none, some 2]
def lows8 : List Int := [0, 1, 0, 2]
theorem costs8_b : ∀ z ∈ costs8, -10 ≤ z ∧ z ≤ 10 := by decide
theorem wide8_b : ∀ z ∈ wide8, ∀ x, z = some x → 0 ≤ x ∧ x ≤ 4 := by decide
theorem lows8_b : ∀ z ∈ lows8, 0 ≤ z ∧ z ≤ 2 := by decide
structure Q8 where
  lo : Int
  w : Option Int
  c : Int
def Q8.Ok (q : Q8) : Prop := (0 ≤ q.lo ∧ q.lo ≤ 100) ∧ (∀ x, q.w = some x → 0 ≤ x ∧ q.lo + x ≤ 1000) ∧ -1000 ≤ q.c ∧ q.c ≤ 1000
abbrev deE (c : Int) (i n : Nat) (st : Int) (tl : Nat) (h : Sl) (q : Q8) : Env := [iv c, iv i, iv n, iv q.c, .val (optI q.w), iv st, iv q.lo, iv tl, h]
theorem fd {c s : Int} {d : Env → R PV} {e : Env} (h : d e = .ok (.int c)) (h0 : 0 < s) (h1 : s ≤ 10 ^ 7) : bin2 fdivI d (fun _ => .ok (.int s)) e = .ok (.int (c / s)) := bin_ok h rfl (fdivI_int h0 (Nat.lt_of_lt_of_le (show s.natAbs < 2 ^ 30 by omega) (Nat.pow_le_pow_right (by decide) (by decide))))
theorem md {c s : Int} {d u : Env → R PV} {e : Env} (h : d e = .ok (.int c)) (k : u e = .ok (.int s)) (h0 : 0 < s) : bin2 modI (callE intB (argsC d args0)) u e = .ok (.int (c % s)) := bin_ok (call_ok (args1_ok h) rfl) k (modI_int h0)
theorem law_edge_ok {c : Int} {i n : Nat} (hn : 2 ≤ n ∧ n ≤ 8) : ∃ e : Ed, DEd n e ∧ f_law_edge [.int c, .int i, .int n] = .ok e.pv := by
  unfold f_law_edge p_law_edge
  refine ExA.fn (P := fun e : Ed => DEd n e) (w := Ed.pv) rfl ?_
  simp only [env0, List.length_cons, List.length_nil, List.map_cons, List.map_nil, List.cons_append, List.nil_append, List.replicate, Nat.reduceAdd, Nat.reduceSub]
  obtain ⟨cost, hc, kc⟩ := ix_mod (f := PV.int) (l := costs8) (d := lstE (argsC (fun _ => .ok (.int 1)) (argsC (fun _ => .ok (.int 2)) (argsC (fun _ => .ok (.int 0)) (argsC (un1 negI (fun _ => .ok (.int 1))) (argsC (fun _ => .ok (.int 3)) (argsC (un1 negI (fun _ => .ok (.int 2))) (argsC (fun _ => .ok (.int 5)) (argsC (un1 negI (fun _ => .ok (.int 3))) (argsC (fun _ => .ok (.int 4)) args0)))))))))) (dc := rdV 0) (e := [iv c, iv i, iv n, .no, .no, .no, .no, .no, .no]) (c := c) (s := 9) (by decide) rfl rfl rfl
  refine ExA.to (set_ok kc) ?_
  obtain ⟨wd, hw, kw⟩ := ix_mod (f := optI) (l := wide8) (d := lstE (argsC (fun _ => .ok (.int 3)) (argsC (fun _ => .ok (.int 2)) (argsC (fun _ => .ok (.int 4)) (argsC (fun _ => .ok .non) (argsC (fun _ => .ok (.int 1)) (argsC (fun _ => .ok (.int 0)) (argsC (fun _ => .ok .non) (argsC (fun _ => .ok (.int 2)) args0))))))))) (dc := bin2 fdivI (rdV 0) (fun _ => .ok (.int 9))) (e := [iv c, iv i, iv n, iv cost, .no, .no, .no, .no, .no]) (c := c / 9) (s := 8) (by decide) rfl rfl (fd (rd_ok rfl) (by decide) (by decide))
  refine ExA.to (set_ok kw) ?_
  refine ExA.to (set_ok (fd (c := c) (rd_ok rfl) (by decide) (by decide))) ?_
  generalize c / 72 = c
  have n1 : ∀ e : Env, Env.at e 2 = iv n → bin2 subI (rdV 2) (fun _ => .ok (.int 1)) e = .ok (.int ((n : Int) - 1)) := fun e h => bin_ok (rd_ok h) rfl rfl
  have sm := mod_rng c (s := (n : Int) - 1) (by omega)
  refine ExA.to (set_ok (p := .int (1 + c % ((n : Int) - 1))) (bin_ok (p := .int 1) rfl (md (c := c) (rd_ok rfl) (n1 _ rfl) (by omega)) rfl)) ?_
  generalize hst : 1 + c % ((n : Int) - 1) = st
  have hst : 1 ≤ st ∧ st ≤ (n : Int) - 1 := by omega
  refine ExA.to (set_ok (p := .int (c / ((n : Int) - 1))) (bin_ok (p := .int c) (rd_ok rfl) (n1 _ rfl) (fdivI_int (by omega) (Nat.lt_of_lt_of_le (show ((n : Int) - 1).natAbs < 2 ^ 30 by omega) (Nat.pow_le_pow_right (by decide) (by decide)))))) ?_
  clear sm
  generalize c / ((n : Int) - 1) = c
  obtain ⟨lo, hl, kl⟩ := ix_mod (f := PV.int) (l := lows8) (d := lstE (argsC (fun _ => .ok (.int 0)) (argsC (fun _ => .ok (.int 1)) (argsC (fun _ => .ok (.int 0)) (argsC (fun _ => .ok (.int 2)) args0))))) (dc := rdV 0) (e := [iv c, iv i, iv n, iv cost, .val (optI wd), iv st, .no, .no, .no]) (c := c) (s := 4) (by decide) rfl rfl rfl
  refine ExA.to (set_ok kl) ?_
  have tm := mod_rng ((i : Int) + (c / 4) % n) (s := n) (by omega)
  obtain ⟨tl, et⟩ : ∃ tl : Nat, ((i : Int) + (c / 4) % n) % n = tl := ⟨(((i : Int) + (c / 4) % n) % n).toNat, by omega⟩
  refine ExA.to (set_ok (p := .int tl) ((md (c := (i : Int) + (c / 4) % n) (s := n) (bin_ok (p := .int i) (rd_ok rfl) (md (c := c / 4) (s := n) (fd (c := c) (rd_ok rfl) (by decide) (by decide)) (rd_ok rfl) (by omega)) rfl) (rd_ok rfl) (by omega)).trans (by rw [et]))) ?_
  have tn : tl < n := by omega
  refine ExA.to (set_ok (p := .int (c / (4 * (n : Int)))) (bin_ok (p := .int c) (q := .int (4 * (n : Int))) (rd_ok rfl) (bin_ok (p := .int 4) (q := .int n) rfl (rd_ok rfl) (mulI_int (Nat.lt_of_lt_of_le (show (4 : Int).natAbs < 2 ^ (40 * 1) by decide) (pow_big (k := 1) (by decide))) (Nat.lt_of_lt_of_le (show (n : Int).natAbs < 2 ^ (40 * 1) by omega) (pow_big (k := 1) (by decide))))) (fdivI_int (by omega) (Nat.lt_of_lt_of_le (show (4 * (n : Int)).natAbs < 2 ^ 30 by omega) (Nat.pow_le_pow_right (by decide) (by decide)))))) ?_
  clear tm et
  generalize c / (4 * (n : Int)) = c
  have cb := costs8_b _ hc
  have wb := wide8_b _ hw
  have lb := lows8_b _ hl
  refine ExA.st (deE c i n st tl .no) Q8.Ok (b := ⟨lo, wd, cost⟩) ?_ ?_
  · refine ex_ite (b := decide (c % 8 = 7)) (toB_ok (bin_ok (md (c := c) (s := 8) (rd_ok rfl) rfl (by decide)) rfl (eqS_int _ _))) (fun _ => ?_) (fun _ => ?_)
    · have m1 := mod_rng (c / 8) (s := 101) (by decide)
      have m2 := mod_rng (c / 808) (s := 2001) (by decide)
      have m3 := mod_rng (c / 1616808) (s := 1001 - c / 8 % 101) (by omega)
      have s1 : setF 6 (bin2 modI (callE intB (argsC (bin2 fdivI (rdV 0) (fun _ => .ok (.int 8))) args0)) (fun _ => .ok (.int 101))) (deE c i n st tl .no ⟨lo, wd, cost⟩) = .nx (deE c i n st tl .no ⟨c / 8 % 101, wd, cost⟩) := set_ok (md (fd (c := c) (rd_ok rfl) (by decide) (by decide)) rfl (by decide))
      have s2 : setF 3 (bin2 subI (bin2 modI (callE intB (argsC (bin2 fdivI (rdV 0) (fun _ => .ok (.int 808))) args0)) (fun _ => .ok (.int 2001))) (fun _ => .ok (.int 1000))) (deE c i n st tl .no ⟨c / 8 % 101, wd, cost⟩) = .nx (deE c i n st tl .no ⟨c / 8 % 101, wd, c / 808 % 2001 - 1000⟩) := set_ok (bin_ok (md (fd (c := c) (rd_ok rfl) (by decide) (by decide)) rfl (by decide)) rfl rfl)
      cases wd with
      | none => exact ⟨⟨c / 8 % 101, none, c / 808 % 2001 - 1000⟩, ⟨⟨m1.1, by show c / 8 % 101 ≤ 100; omega⟩, fun x hx => (nomatch hx), by show -1000 ≤ c / 808 % 2001 - 1000; omega, by show c / 808 % 2001 - 1000 ≤ 1000; omega⟩, seq_to s1 (seq_to s2 (ite_n rfl rfl))⟩
      | some w =>
        refine ⟨⟨c / 8 % 101, some (c / 1616808 % (1001 - c / 8 % 101)), c / 808 % 2001 - 1000⟩, ⟨⟨m1.1, by show c / 8 % 101 ≤ 100; omega⟩, fun x hx => ?_, by show -1000 ≤ c / 808 % 2001 - 1000; omega, by show c / 808 % 2001 - 1000 ≤ 1000; omega⟩, seq_to s1 (seq_to s2 (ite_t rfl (set_ok (md (fd (c := c) (rd_ok rfl) (by decide) (by decide)) (bin_ok (p := .int 1001) rfl (rd_ok rfl) rfl) (by show (0 : Int) < 1001 - c / 8 % 101; omega)))))⟩
        cases hx
        show 0 ≤ c / 1616808 % (1001 - c / 8 % 101) ∧ c / 8 % 101 + c / 1616808 % (1001 - c / 8 % 101) ≤ 1000
        omega
    · exact ⟨⟨lo, wd, cost⟩, ⟨⟨lb.1, by show lo ≤ 100; omega⟩, fun x hx => by have := wb x hx; show 0 ≤ x ∧ lo + x ≤ 1000; omega, by show -1000 ≤ cost; omega, by show cost ≤ 1000; omega⟩, rfl⟩
  · rintro ⟨lo, w, co⟩ ⟨⟨q1, q2⟩, q3, q4, q5⟩
    have hm := mod_rng ((tl : Int) + st) (s := n) (by omega)
    obtain ⟨hd, eh⟩ : ∃ hd : Nat, ((tl : Int) + st) % n = hd := ⟨(((tl : Int) + st) % n).toNat, by omega⟩
    have hne : tl ≠ hd := by
      intro z
      by_cases y : (tl : Int) + st < n
      · rw [Int.emod_eq_of_lt (by omega) y] at eh; omega
      · have : ((tl : Int) + st) % n = (tl : Int) + st - n := by
          rw [← Int.sub_emod_right, Int.emod_eq_of_lt (by omega) (by omega)]
        omega
    refine ExA.to (e' := deE c i n st tl (.val .non) ⟨lo, w, co⟩) rfl ?_
    have fin : ∀ hi : Option Int, tupE (argsC (rdV 7) (argsC (bin2 modI (callE intB (argsC (bin2 addI (rdV 7) (rdV 5)) args0)) (rdV 2)) (argsC (rdV 6) (argsC (rdV 8) (argsC (rdV 3) args0))))) (deE c i n st tl (.val (optI hi)) ⟨lo, w, co⟩) = .ok (Ed.pv ⟨tl, hd, lo, hi, co⟩) := fun hi => tup_ok (args5_ok (rd_ok rfl) ((md (c := (tl : Int) + st) (s := n) (bin_ok (p := .int tl) (rd_ok rfl) (rd_ok rfl) rfl) (rd_ok rfl) (by omega)).trans (by rw [eh])) (rd_ok rfl) (rd_ok rfl) (rd_ok rfl)) (show 5 ≤ 1000 by decide)
    cases w with
    | none => exact ⟨⟨tl, hd, lo, none, co⟩, ⟨tn, by show hd < n; omega, hne, ⟨q1, q2⟩, fun x hx => (nomatch hx), q4, q5⟩, An.iteX rfl (An.retO (fin none))⟩
    | some w =>
      have := q3 w rfl
      exact ⟨⟨tl, hd, lo, some (lo + w), co⟩, ⟨tn, by show hd < n; omega, hne, ⟨q1, q2⟩, fun x hx => by cases hx; show lo ≤ lo + w ∧ lo + w ≤ 1000; exact ⟨by omega, this.2⟩, q4, q5⟩, An.iteT rfl (An.to (e' := deE c i n st tl (.val (optI (some (lo + w)))) ⟨lo, some w, co⟩) (set_ok (bin_ok (rd_ok rfl) (rd_ok (p := .int w) rfl) rfl)) (An.retO (fin (some (lo + w)))))⟩
end J

namespace J
open PySem.Spec PySem
abbrev drE (xs : List Int) (v1 v2 v3 v4 : Sl) (es : List Ed) (x6 : Sl) : Env := [.val (scr xs), v1, v2, v3, v4, .own (es.map Ed.pv), x6, .no, .no, .no, .no, .no, .no, .no, .no, .no, .no, .no, .no]
theorem edges_loop (xs : List Int) (v1 v2 v4 : Sl) {n : Nat} (hn : 2 ≤ n ∧ n ≤ 8) : ∀ (k j : Nat) (es : List Ed) (x6 : Sl), es.length = j → j + k ≤ 20 → (∀ e ∈ es, DEd n e) →
    ∃ es' x6', es'.length = j + k ∧ (∀ e ∈ es', DEd n e) ∧ forP (bdN 6) lb_law_k81_1 ((List.range' j k).map fun (i : Nat) => PV.int i) (drE xs v1 v2 (iv n) v4 es x6) = .nx (drE xs v1 v2 (iv n) v4 es' x6')
  | 0, j, es, x6, hl, _, h => ⟨es, x6, by rw [hl]; rfl, h, rfl⟩
  | k + 1, j, es, x6, hl, hj, h => by
    obtain ⟨c, _, _, kc⟩ := cellI xs (k := 1 + (j : Int)) (by omega) (by omega)
    obtain ⟨e, de, ke⟩ := law_edge_ok (c := c) (i := j) hn
    obtain ⟨es', x6', h1, h2, h3⟩ := edges_loop xs v1 v2 v4 hn k (j + 1) (es ++ [e]) (iv j) (by rw [List.length_append, hl]; rfl) (by omega) (fun a ha => by
      rcases List.mem_append.mp ha with q | q
      · exact h a q
      · rw [List.mem_singleton] at q; rw [q]; exact de)
    refine ⟨es', x6', by rw [h1]; omega, h2, ?_⟩
    rw [List.range'_succ, List.map_cons]
    refine (forP_step (e1 := drE xs v1 v2 (iv n) v4 es (iv j)) (e2 := drE xs v1 v2 (iv n) v4 (es ++ [e]) (iv j)) rfl ?_).trans h3
    unfold lb_law_k81_1
    refine (app_own (l := es.map Ed.pv) rfl (call_ok (args3_ok (p := .int c) (call_ok (args2_ok (rd_ok rfl) (q := .int (1 + (j : Int))) (bin_ok rfl (rd_ok rfl) rfl)) kc) (rd_ok rfl) (rd_ok rfl)) ke) (by rw [List.length_map]; omega)).trans ?_
    rw [← List.map_singleton, ← List.map_append]
    rfl
def less (k : Int) (e : Ed) : Ed := if e.c.natAbs < 100 then { e with c := e.c - k } else e
theorem DEd.less {n : Nat} {e : Ed} (h : DEd n e) {k : Int} (hk : 0 ≤ k ∧ k ≤ 2) : DEd n (less k e) := by
  unfold J.less
  split
  · exact ⟨h.t, h.h, h.ne, h.lo, h.hi, by show -1000 ≤ e.c - k ∧ e.c - k ≤ 1000; omega⟩
  · exact h
abbrev rcE (E : PV) (k : Int) (L : List Ed) (x3 x4 : Sl) : Env := [.val E, iv k, .own (L.map Ed.pv), x3, x4]
theorem rc_loop (E : PV) (k : Int) : ∀ (es L : List Ed) (x3 x4 : Sl), L.length + es.length ≤ 100 → ∃ x3' x4', forP (bdN 3) lb_law_recosted_1 (es.map Ed.pv) (rcE E k L x3 x4) = .nx (rcE E k (L ++ es.map (less k)) x3' x4')
  | [], L, x3, x4, _ => ⟨x3, x4, by show F.nx (rcE E k L x3 x4) = F.nx (rcE E k (L ++ []) x3 x4); rw [List.append_nil]⟩
  | e :: es, L, x3, x4, h => by
    rw [List.length_cons] at h
    obtain ⟨x3', x4', kk⟩ := rc_loop E k es (L ++ [less k e]) (.val e.pv) (iv (less k e).c) (by rw [List.length_append]; show L.length + 1 + es.length ≤ 100; omega)
    rw [List.append_assoc] at kk
    refine ⟨x3', x4', (forP_step (e1 := rcE E k L (.val e.pv) x4) (e2 := rcE E k (L ++ [less k e]) (.val e.pv) (iv (less k e).c)) rfl ?_).trans kk⟩
    unfold lb_law_recosted_1
    have s1 : setF 4 (bin2 ixP (rdV 3) (fun _ => .ok (.int 4))) (rcE E k L (.val e.pv) x4) = .nx (rcE E k L (.val e.pv) (iv e.c)) := set_ok (ed4 rfl)
    have cd : toB (bin2 ltI (callE absB (argsC (rdV 4) args0)) (fun _ => .ok (.int 100))) (rcE E k L (.val e.pv) (iv e.c)) = .ok (decide (e.c.natAbs < 100)) := (toB_ok (bin_ok (call_ok (args1_ok (rd_ok rfl)) (absB_int _)) rfl (ltI_int _ _))).trans (congrArg R.ok (decide_eq_decide.mpr (by omega)))
    refine seq_to s1 (seq_to (e' := rcE E k L (.val e.pv) (iv (less k e).c)) ?_ ?_)
    · unfold less
      by_cases z : e.c.natAbs < 100
      · rw [if_pos z]
        exact ite_t (cd.trans (by rw [decide_eq_true z])) (aug_to (i := 4) (a := .int e.c) (b := .int k) rfl (rd_ok rfl) rfl)
      · rw [if_neg z]
        exact ite_n (cd.trans (by rw [decide_eq_false z])) rfl
    · have f : (less k e).t = e.t ∧ (less k e).h = e.h ∧ (less k e).lo = e.lo ∧ (less k e).hi = e.hi := by unfold less; split <;> exact ⟨rfl, rfl, rfl, rfl⟩
      refine (app_own (l := L.map Ed.pv) (p := (less k e).pv) rfl (tup_ok (args5_ok (p := .int (less k e).t) (q := .int (less k e).h) (r := .int (less k e).lo) (s := optI (less k e).hi) (t := .int (less k e).c) (by rw [f.1]; exact ed0 rfl) (by rw [f.2.1]; exact ed1 rfl) (by rw [f.2.2.1]; exact ed2 rfl) (by rw [f.2.2.2]; exact ed3 rfl) (rd_ok rfl)) (show 5 ≤ 1000 by decide)) (by rw [List.length_map]; omega)).trans ?_
      rw [← List.map_singleton, ← List.map_append]
      rfl
theorem recosted_ok {es : List Ed} (k : Int) (h : es.length ≤ 100) : fo_law_recosted [.lst (es.map Ed.pv), .int k] = .ok ((es.map (less k)).map Ed.pv) := by
  obtain ⟨x3, x4, kk⟩ := rc_loop (.lst (es.map Ed.pv)) k es [] .no .no (by simpa using h)
  rw [List.nil_append] at kk
  unfold fo_law_recosted po_law_recosted
  refine (fnO_eq (np := 2) (l := [.lst (es.map Ed.pv), .int k]) rfl).trans ?_
  refine seqO_to (e' := rcE (.lst (es.map Ed.pv)) k [] .no .no) rfl (seqO_to (forE_ok (itE_ok (rd_ok rfl)) kk) ?_)
  rfl
abbrev feE (xs : List Int) (n : Nat) (L : List Int) (x : Sl) : Env := [.val (scr xs), iv n, .own (L.map .int), x]
theorem free_loop (xs : List Int) (n : Nat) : ∀ (k j : Nat) (L : List Int) (x : Sl), L.length = j → j + k ≤ 50 → (∀ s ∈ L, -3 ≤ s ∧ s ≤ 3) → ∃ L' x', L'.length = j + k ∧ (∀ s ∈ L', -3 ≤ s ∧ s ≤ 3) ∧ forP (bdN 3) lb_law_free_1 ((List.range' j k).map fun (i : Nat) => PV.int i) (feE xs n L x) = .nx (feE xs n L' x')
  | 0, j, L, x, hl, _, h => ⟨L, x, by rw [hl]; rfl, h, rfl⟩
  | k + 1, j, L, x, hl, hj, h => by
    obtain ⟨c, _, _, kc⟩ := cellI xs (k := 17 + (j : Int)) (by omega) (by omega)
    have m := mod_rng c (s := 7) (by decide)
    obtain ⟨L', x', h1, h2, h3⟩ := free_loop xs n k (j + 1) (L ++ [c % 7 - 3]) (iv j) (by rw [List.length_append, hl]; rfl) (by omega) (fun a ha => by
      rcases List.mem_append.mp ha with q | q
      · exact h a q
      · rw [List.mem_singleton] at q; rw [q]; omega)
    refine ⟨L', x', by rw [h1]; omega, h2, ?_⟩
    rw [List.range'_succ, List.map_cons]
    refine (forP_step (e1 := feE xs n L (iv j)) (e2 := feE xs n (L ++ [c % 7 - 3]) (iv j)) rfl ?_).trans h3
    unfold lb_law_free_1
    exact app_map (l := L) rfl (bin_ok (md (call_ok (args2_ok (rd_ok rfl) (q := .int (17 + (j : Int))) (bin_ok rfl (rd_ok rfl) rfl)) kc) rfl (by decide)) rfl rfl) (by omega)
theorem sum_b : ∀ (L : List Int), (∀ s ∈ L, -3 ≤ s ∧ s ≤ 3) → -3 * (L.length : Int) ≤ L.sum ∧ L.sum ≤ 3 * (L.length : Int)
  | [], _ => ⟨by decide, by decide⟩
  | s :: L, h => by
    have := sum_b L fun t ht => h t (List.mem_cons_of_mem _ ht)
    have := h s List.mem_cons_self
    rw [List.sum_cons, List.length_cons]
    omega
theorem free_ok (xs : List Int) {n : Nat} (hn : 2 ≤ n ∧ n ≤ 8) : ∃ ss, DS n ss ∧ f_law_free [scr xs, .int n] = .ok (.lst (ss.map .int)) := by
  obtain ⟨L, x, hl, hb, kk⟩ := free_loop xs n (n - 1) 0 [] .no rfl (by omega) (fun s hs => nomatch hs)
  have sb := sum_b L hb
  refine ⟨L ++ [-L.sum], ⟨by rw [List.length_append, hl]; show 0 + (n - 1) + 1 = n; omega, fun s hs => ?_, by rw [List.sum_append]; simp; omega⟩, ?_⟩
  · rcases List.mem_append.mp hs with q | q
    · have := hb s q; omega
    · rw [List.mem_singleton] at q
      rw [q]
      omega
  unfold f_law_free p_law_free
  refine An.fn rfl ?_
  simp only [env0, List.length_cons, List.length_nil, List.map_cons, List.map_nil, List.cons_append, List.nil_append, List.replicate, Nat.reduceAdd, Nat.reduceSub]
  refine An.own ?_
  have rg : (fun env => ((argsC (bin2 subI (rdV 1) (fun _ => .ok (.int 1))) args0) env).bind rng1) (feE xs n [] .no) = .ok (rngL 0 (n - 1)) := rngE (n := n - 1) (bin_ok (p := .int n) (rd_ok rfl) rfl (by rw [show ((n - 1 : Nat) : Int) = (n : Int) - 1 by omega]; rfl)) (by omega)
  refine An.to (forE_ok rg (by rw [rngL_range']; exact kk)) ?_
  refine An.to (app_map (i := 2) (l := L) (x := -L.sum) rfl (lend_int rfl (show un1 negI (callE sumB (argsC (rdV 2) args0)) [.val (scr xs), iv n, .val (.lst (L.map .int)), x] = _ from ?_)) (by omega)) ?_
  · unfold un1
    rw [call_ok (f := sumB) (args1_ok (rd_ok (p := .lst (L.map .int)) rfl)) (sum_int L)]
    rfl
  · exact An.frz (l := (L ++ [-L.sum]).map .int) rfl (An.retO (rd_ok rfl))
end J

namespace J
open PySem.Spec PySem
section
variable {n : Nat} {es es2 : List Ed} {ss : List Int}
theorem DW.EsOk (D : DW n es ss) : J.EsOk n es := fun e he => ⟨(D.ed e he).t, (D.ed e he).h, (D.ed e he).ne⟩
theorem web_made (D : DW n es ss) {dn de ds : Env → R PV} {e : Env} (h : dn e = .ok (.int n)) (k : de e = .ok (.lst (es.map Ed.pv))) (l : ds e = .ok (.lst (ss.map .int))) : makeE f_Web_init [] (argsC dn (argsC de (argsC ds args0))) e = .ok (webO n es (ss.map .int)) := by
  have w := Web_init_is n (es.map Ed.re) ss
  rw [due_good D (by rw [List.length_map]; exact ⟨D.e1, D.e16⟩) D.fine, D.sd, ← red] at w
  refine (makeE_ok (args3_ok h k l) w).trans ?_
  show R.ok (webR n (es.map Ed.re) ss) = _
  unfold webR webO
  rw [← red]
theorem chk (D : DW n es ss) (ha : es2.map Ed.arc = es.map Ed.arc) (he : J.EsOk n es2) {j k : Nat} {e : Env} (h : Env.at e j = .val (webO n es (ss.map .int))) (h3 : Env.at e 3 = iv n) (hk : Env.at e k = .val (.lst (es2.map Ed.pv))) :
    notT (toB (callE f_law_heights_right (argsC (callE f_heights (argsC (rdV j) args0)) (argsC (rdV 3) (argsC (rdV k) args0))))) e = .ok false := by
  have n2 := D.n2
  have n8 := D.n8
  have e16 := D.e16
  obtain ⟨H, k1, k2⟩ := heights_ok D.EsOk n2 n8 (by omega) (ss.map .int)
  exact notT_ok (toB_ok (call_ok (args3_ok (call_ok (args1_ok (rd_ok h)) k1) (rd_ok h3) (rd_ok hk)) (heights_right_ok k2 ha he (by omega) (by omega))))
end
def noC (e : Ed) : Ed := ⟨e.t, e.h, 0, some 0, e.c⟩
def frC (e : Ed) : Ed := ⟨e.t, e.h, 0, none, -e.c⟩
theorem noC_ok {n : Nat} {e : Ed} (h : DEd n e) : DEd n (noC e) := ⟨h.t, h.h, h.ne, (show (0 : Int) ≤ 0 ∧ (0 : Int) ≤ 100 by decide), fun x hx => by cases hx; show (0 : Int) ≤ 0 ∧ (0 : Int) ≤ 1000; decide, h.c⟩
theorem frC_ok {n : Nat} {e : Ed} (h : DEd n e) : DEd n (frC e) := ⟨h.t, h.h, h.ne, (show (0 : Int) ≤ 0 ∧ (0 : Int) ≤ 100 by decide), fun x hx => (nomatch hx), by have := h.c; show -1000 ≤ -e.c ∧ -e.c ≤ 1000; omega⟩
theorem zeros_ok {n : Nat} : DS n (List.replicate n (0 : Int)) := ⟨List.length_replicate, fun s hs => by rw [(List.mem_replicate.mp hs).2]; decide, zero_sum n⟩
theorem DW.of {n : Nat} {es : List Ed} {ss : List Int} (hn : 2 ≤ n ∧ n ≤ 8) (hl : 1 ≤ es.length ∧ es.length ≤ 16) (h : ∀ e ∈ es, DEd n e) (S : DS n ss) : DW n es ss := ⟨hn.1, hn.2, hl.1, hl.2, h, S.len, S.due⟩
theorem DW.map {n : Nat} {es : List Ed} {ss : List Int} (D : DW n es ss) (f : Ed → Ed) (hf : ∀ e, DEd n e → DEd n (f e)) : DW n (es.map f) (List.replicate n 0) := DW.of ⟨D.n2, D.n8⟩ (by rw [List.length_map]; exact ⟨D.e1, D.e16⟩) (fun e he => by
  obtain ⟨a, ha, rfl⟩ := List.mem_map.mp he
  exact hf a (D.ed a ha)) zeros_ok
abbrev lwE (s0 s1 s2 : Sl) (n : Nat) (s4 s5 s6 s7 s8 s9 s10 s11 s12 s13 s14 s15 s16 s17 s18 : Sl) : Env := [s0, s1, s2, iv n, s4, s5, s6, s7, s8, s9, s10, s11, s12, s13, s14, s15, s16, s17, s18]
theorem fr_loop {s0 s1 s2 : Sl} {n : Nat} {s4 s5 s6 s7 s8 s9 s10 s11 s13 : Sl} : ∀ (es L : List Ed) (x : Sl), L.length + es.length ≤ 100 → ∃ x', forP (bdN 12) lb_law_k81_2 (es.map Ed.pv) (lwE s0 s1 s2 n s4 s5 s6 s7 s8 s9 s10 s11 x s13 (.own (L.map Ed.pv)) .no .no .no .no) = .nx (lwE s0 s1 s2 n s4 s5 s6 s7 s8 s9 s10 s11 x' s13 (.own ((L ++ es.map frC).map Ed.pv)) .no .no .no .no)
  | [], L, x, _ => ⟨x, by show F.nx (lwE s0 s1 s2 n s4 s5 s6 s7 s8 s9 s10 s11 x s13 (.own (L.map Ed.pv)) .no .no .no .no) = F.nx (lwE s0 s1 s2 n s4 s5 s6 s7 s8 s9 s10 s11 x s13 (.own ((L ++ []).map Ed.pv)) .no .no .no .no); rw [List.append_nil]⟩
  | e :: es, L, x, h => by
    rw [List.length_cons] at h
    obtain ⟨x', kk⟩ := fr_loop (s0 := s0) (s1 := s1) (s2 := s2) (n := n) (s4 := s4) (s5 := s5) (s6 := s6) (s7 := s7) (s8 := s8) (s9 := s9) (s10 := s10) (s11 := s11) (s13 := s13) es (L ++ [frC e]) (.val e.pv) (by rw [List.length_append]; show L.length + 1 + es.length ≤ 100; omega)
    rw [List.append_assoc] at kk
    refine ⟨x', (forP_step (e1 := lwE s0 s1 s2 n s4 s5 s6 s7 s8 s9 s10 s11 (.val e.pv) s13 (.own (L.map Ed.pv)) .no .no .no .no) (e2 := lwE s0 s1 s2 n s4 s5 s6 s7 s8 s9 s10 s11 (.val e.pv) s13 (.own ((L ++ [frC e]).map Ed.pv)) .no .no .no .no) rfl ?_).trans kk⟩
    unfold lb_law_k81_2
    refine (app_own (i := 14) (l := L.map Ed.pv) (p := (frC e).pv) rfl (tup_ok (args5_ok (ed0 (i := 12) (a := e) rfl) (ed1 (i := 12) (a := e) rfl) rfl rfl (by unfold un1; rw [ed4 (i := 12) (a := e) rfl]; rfl)) (show 5 ≤ 1000 by decide)) (by rw [List.length_map]; omega)).trans ?_
    rw [← List.map_singleton, ← List.map_append]
    rfl
theorem pc_loop {E : Env} {es : List Ed} {sup : List PV} {n : Nat} : ∀ (k j : Nat) (e : Env), j + k = es.length → (∀ x, Env.at (List.set e 6 x) 8 = .val (.lst (es.map Ed.pv)) ∧ Env.at (List.set e 6 x) 10 = .val (webO n es sup) ∧ Env.at (List.set e 6 x) 6 = x) →
    ∃ x, forP (bdN 6) lb_law_k81_3 ((List.range' j k).map fun (i : Nat) => PV.int i) e = .nx (if k = 0 then e else List.set e 6 x)
  | 0, j, e, _, _ => ⟨.no, rfl⟩
  | k + 1, j, e, h, he => by
    obtain ⟨h8, h10, h6⟩ := he (iv j)
    obtain ⟨a, ha⟩ : ∃ a, es[j]? = some a := ⟨_, List.getElem?_eq_getElem (by omega)⟩
    have hm : (es.map Ed.pv)[j]? = some a.pv := by rw [List.getElem?_map, ha]; rfl
    have st : lb_law_k81_3 (List.set e 6 (iv j)) = .nx (List.set e 6 (iv j)) := by
      unfold lb_law_k81_3
      exact ite_n (notT_ok (toB_ok (call_ok (args2_ok (bin_ok (p := .tup (es.map Ed.pv)) (fld_ok (rd_ok h10) (by decide) rfl) (rd_ok h6) (ixP_tup hm)) (bin_ok (p := .lst (es.map Ed.pv)) (rd_ok h8) (rd_ok h6) (ixP_lst hm))) (plain_ed a)))) rfl
    obtain ⟨x, kk⟩ := pc_loop (E := E) (es := es) (sup := sup) (n := n) k (j + 1) (List.set e 6 (iv j)) (by omega) (fun y => by rw [List.set_set]; exact he y)
    refine ⟨if k = 0 then iv j else x, ?_⟩
    rw [List.range'_succ, List.map_cons, if_neg (Nat.succ_ne_zero k)]
    refine (forP_step (e1 := List.set e 6 (iv j)) (e2 := List.set e 6 (iv j)) rfl st).trans (kk.trans ?_)
    by_cases z : k = 0
    · rw [if_pos z, if_pos z]
    · rw [if_neg z, if_neg z, List.set_set]
def places8 : List Nat := [4, 3, 5, 2, 6, 8, 7]
def counts8 : List Nat := [5, 6, 4, 7, 3, 2, 1, 16]
theorem law_true_k81 (xs : List Int) : f_law_k81 [scr xs] = .ok (.bl true) := by
  unfold f_law_k81 p_law_k81
  refine An.fn rfl ?_
  simp only [env0, List.length_cons, List.length_nil, List.map_cons, List.map_nil, List.cons_append, List.nil_append, List.replicate, Nat.reduceAdd, Nat.reduceSub]
  obtain ⟨ys, hys⟩ : ∃ ys, xs.take 63 = ys := ⟨_, rfl⟩
  refine An.set (p := scr ys) ((sl_to (m := xs.map .int) (k := 63) (rd_ok rfl) rfl).trans (by rw [← List.map_take, hys])) ?_
  obtain ⟨c, _, _, kc⟩ := cellI ys (k := 0) (by decide) (by decide)
  refine An.set (call_ok (args2_ok (rd_ok rfl) rfl) kc) ?_
  have cm := mod_rng c (s := 2) (by decide)
  refine An.set (p := .int (2 * (c % 2))) (bin_ok (p := .int 2) rfl (md (c := c) (rd_ok rfl) rfl (by decide)) (mulI_int (Nat.lt_of_lt_of_le (show (2 : Int).natAbs < 2 ^ (40 * 1) by decide) (pow_big (k := 1) (by decide))) (Nat.lt_of_lt_of_le (show (c % 2).natAbs < 2 ^ (40 * 1) by omega) (pow_big (k := 1) (by decide))))) ?_
  obtain ⟨n, hn, kn⟩ := ix_mod (f := fun (k : Nat) => PV.int k) (l := places8) (d := lstE (argsC (fun _ => .ok (.int 4)) (argsC (fun _ => .ok (.int 3)) (argsC (fun _ => .ok (.int 5)) (argsC (fun _ => .ok (.int 2)) (argsC (fun _ => .ok (.int 6)) (argsC (fun _ => .ok (.int 8)) (argsC (fun _ => .ok (.int 7)) args0)))))))) (dc := bin2 fdivI (rdV 1) (fun _ => .ok (.int 2))) (e := [.val (scr ys), iv c, iv (2 * (c % 2)), .no, .no, .no, .no, .no, .no, .no, .no, .no, .no, .no, .no, .no, .no, .no, .no]) (c := c / 2) (s := 7) (by decide) rfl rfl (fd (rd_ok rfl) (by decide) (by decide))
  have hn : 2 ≤ n ∧ n ≤ 8 := (show ∀ z ∈ places8, 2 ≤ z ∧ z ≤ 8 by decide) n hn
  refine An.set kn ?_
  obtain ⟨m, hm, km⟩ := ix_mod (f := fun (k : Nat) => PV.int k) (l := counts8) (d := lstE (argsC (fun _ => .ok (.int 5)) (argsC (fun _ => .ok (.int 6)) (argsC (fun _ => .ok (.int 4)) (argsC (fun _ => .ok (.int 7)) (argsC (fun _ => .ok (.int 3)) (argsC (fun _ => .ok (.int 2)) (argsC (fun _ => .ok (.int 1)) (argsC (fun _ => .ok (.int 16)) args0))))))))) (dc := bin2 fdivI (rdV 1) (fun _ => .ok (.int 14))) (e := [.val (scr ys), iv c, iv (2 * (c % 2)), iv n, .no, .no, .no, .no, .no, .no, .no, .no, .no, .no, .no, .no, .no, .no, .no]) (c := c / 14) (s := 8) (by decide) rfl rfl (fd (rd_ok rfl) (by decide) (by decide))
  have hm : 1 ≤ m ∧ m ≤ 16 := (show ∀ z ∈ counts8, 1 ≤ z ∧ z ≤ 16 by decide) m hm
  refine An.set km (An.own ?_)
  obtain ⟨es, x6, el, ed, ke⟩ := edges_loop ys (iv c) (iv (2 * (c % 2))) (iv m) hn m 0 [] .no rfl (by omega) (fun e he => nomatch he)
  rw [Nat.zero_add] at el
  have rg : (fun env => ((argsC (rdV 4) args0) env).bind rng1) (drE ys (iv c) (iv (2 * (c % 2))) (iv n) (iv m) [] .no) = .ok (rngL 0 m) := rngE (n := m) (rd_ok rfl) (by omega)
  refine An.to (forE_ok rg (by rw [rngL_range']; exact ke)) ?_
  refine An.frz (i := 5) (l := es.map Ed.pv) rfl ?_
  have kb : 0 ≤ 2 * (c % 2) ∧ 2 * (c % 2) ≤ 2 := by omega
  refine An.to (setCO_ok (callO_ok (args2_ok (rd_ok rfl) (rd_ok rfl)) (recosted_ok (2 * (c % 2)) (by omega)))) ?_
  have ed2 : ∀ e ∈ es.map (less (2 * (c % 2))), DEd n e := fun e he => by
    obtain ⟨a, ha, rfl⟩ := List.mem_map.mp he
    exact (ed a ha).less kb
  have el2 : (es.map (less (2 * (c % 2)))).length = m := by rw [List.length_map, el]
  generalize es.map (less (2 * (c % 2))) = fs at ed2 el2
  clear ke rg
  obtain ⟨ss, S, ks⟩ := free_ok ys hn
  have D : DW n fs ss := DW.of hn (by omega) ed2 S
  refine An.set (call_ok (args2_ok (rd_ok rfl) (rd_ok rfl)) ks) ?_
  refine An.frz (i := 5) (l := fs.map Ed.pv) rfl ?_
  refine An.to (setCO_ok (l := fs.map Ed.pv) (by unfold listO; rfl)) ?_
  refine An.to (setCO_ok (l := ss.map .int) (by unfold listO; rfl)) ?_
  refine An.set (web_made D (rd_ok rfl) (rd_ok rfl) (rd_ok rfl)) ?_
  refine An.iteX (chk D (j := 10) (k := 5) rfl D.EsOk rfl rfl rfl) ?_
  have noP : (fs.map noC).map Ed.pv = fs.map fun a => (noC a).pv := by rw [List.map_map]; rfl
  refine An.set (p := .lst ((fs.map noC).map Ed.pv)) (by rw [noP]; exact lc_ok (l := fs.map Ed.pv) (itE_ok (rd_ok rfl)) (by rw [List.length_map]; omega) (a2maps fun a _ => ⟨_, rfl, rfl⟩)) ?_
  have D2 := D.map noC fun e => noC_ok
  have zr : ∀ e : Env, Env.at e 3 = iv n → ofO (repO (argsC (fun _ => .ok (.int 0)) args0) (rdV 3)) e = .ok (.lst ((List.replicate n (0 : Int)).map .int)) := fun e h => (ofO_ok (repO8 rfl (rd_ok h) (by omega))).trans (by rw [List.map_replicate])
  refine An.set (web_made D2 (rd_ok rfl) (rd_ok rfl) (zr _ rfl)) ?_
  have a2 : fs.map Ed.arc = (fs.map noC).map Ed.arc := by rw [List.map_map]; rfl
  refine An.iteX (chk D2 (es2 := fs) a2 (j := 13) (k := 5) D.EsOk rfl rfl rfl) (An.own ?_)
  obtain ⟨x12, kf⟩ := fr_loop (s0 := .val (scr ys)) (s1 := iv c) (s2 := iv (2 * (c % 2))) (n := n) (s4 := iv m) (s5 := .val (.lst (fs.map Ed.pv))) (s6 := x6) (s7 := .val (.lst (ss.map .int))) (s8 := .own (fs.map Ed.pv)) (s9 := .own (ss.map .int)) (s10 := .val (webO n fs (ss.map .int))) (s11 := .val (.lst ((fs.map noC).map Ed.pv))) (s13 := .val (webO n (fs.map noC) ((List.replicate n (0 : Int)).map .int))) fs [] .no (by simp; omega)
  rw [List.nil_append] at kf
  refine An.to (forE_ok (itE_ok (rd_ok rfl)) kf) ?_
  refine An.frz (i := 14) (l := (fs.map frC).map Ed.pv) rfl ?_
  have D3 := D.map frC fun e => frC_ok
  refine An.set (web_made D3 (rd_ok rfl) (rd_ok rfl) (zr _ rfl)) ?_
  refine An.iteX (chk D3 (j := 15) (k := 14) rfl D3.EsOk rfl rfl rfl) ?_
  refine An.iteX (chk D (j := 10) (k := 5) rfl D.EsOk rfl rfl rfl) ?_
  obtain ⟨c2, _, _, kc2⟩ := cellI ys (k := 24) (by decide) (by decide)
  refine An.set (call_ok (args2_ok (rd_ok rfl) rfl) kc2) ?_
  obtain ⟨o, ho, ko⟩ := ix_mod (f := PV.int) (l := [-1, (n : Int), (n : Int) + 3, -(n : Int)]) (d := lstE (argsC (un1 negI (fun _ => .ok (.int 1))) (argsC (rdV 3) (argsC (bin2 addI (rdV 3) (fun _ => .ok (.int 3))) (argsC (un1 negI (rdV 3)) args0))))) (dc := rdV 1) (e := lwE (.val (scr ys)) (iv c2) (iv (2 * (c % 2))) n (iv m) (.val (.lst (fs.map Ed.pv))) x6 (.val (.lst (ss.map .int))) (.own (fs.map Ed.pv)) (.own (ss.map .int)) (.val (webO n fs (ss.map .int))) (.val (.lst ((fs.map noC).map Ed.pv))) x12 (.val (webO n (fs.map noC) ((List.replicate n (0 : Int)).map .int))) (.val (.lst ((fs.map frC).map Ed.pv))) (.val (webO n (fs.map frC) ((List.replicate n (0 : Int)).map .int))) .no .no .no) (c := c2) (s := 4) (by decide) rfl rfl rfl
  have ob : out n o = true ∧ o ≠ 0 ∧ -20 ≤ o ∧ o ≤ 20 := by
    simp only [List.mem_cons, List.mem_nil_iff, or_false] at ho
    unfold out
    rw [Bool.or_eq_true, decide_eq_true_eq, decide_eq_true_eq]
    omega
  refine An.set ko ?_
  have m1 := mod_rng (c2 / 4) (s := m) (by omega)
  have m2 := mod_rng (c2 / 64) (s := n) (by omega)
  obtain ⟨i, hi⟩ : ∃ i : Nat, c2 / 4 % m = i := ⟨(c2 / 4 % m).toNat, by omega⟩
  obtain ⟨j, hj⟩ : ∃ j : Nat, c2 / 64 % n = j := ⟨(c2 / 64 % n).toNat, by omega⟩
  refine An.set (p := .int i) ((md (c := c2 / 4) (s := m) (fd (rd_ok rfl) (by decide) (by decide)) (rd_ok rfl) (by omega)).trans (by rw [hi])) ?_
  refine An.set (p := .int j) ((md (c := c2 / 64) (s := n) (fd (rd_ok rfl) (by decide) (by decide)) (rd_ok rfl) (by omega)).trans (by rw [hj])) ?_
  refine An.iteX (notT_ok (toB_ok (call_ok (args5_ok (rd_ok rfl) (rd_ok rfl) (rd_ok rfl) (rd_ok rfl) (rd_ok rfl)) (edges_asked_ok D (i := i) (by omega) ob.1)))) ?_
  refine An.iteX (notT_ok (toB_ok (call_ok (args5_ok (rd_ok rfl) (rd_ok rfl) (rd_ok rfl) (rd_ok rfl) (rd_ok rfl)) (supplies_asked_ok D S (i := j) (by omega) ob.2.1 ob.2.2)))) ?_
  refine An.iteX (notT_ok (toB_ok (call_ok (args3_ok (rd_ok rfl) (rd_ok rfl) (rd_ok rfl)) (counts_asked_ok D)))) ?_
  refine An.frz (i := 8) (l := fs.map Ed.pv) rfl ?_
  have ep : Nc (.tup (fs.map Ed.pv)) 2 := Nc.tup fun p hp => by
    obtain ⟨a, _, rfl⟩ := List.mem_map.mp hp
    exact a.re.nc
  have elp : Nc (.lst (fs.map Ed.pv)) 2 := Nc.lst fun p hp => by
    obtain ⟨a, _, rfl⟩ := List.mem_map.mp hp
    exact a.re.nc
  have sp : Nc (.lst (ss.map .int)) 1 := Nc.lst (k := 0) fun p hp => by
    obtain ⟨a, _, rfl⟩ := List.mem_map.mp hp
    exact .int a 0
  refine An.iteX (orT_is (a := false) (b := false) (neA_no (Nc.int n 0) (by decide) (call_ok (args1_ok (fld_ok (rd_ok rfl) (by decide) rfl)) (integer81_ok n)) (rd_ok rfl)) (neA_no ep (by decide) (fld_ok (rd_ok rfl) (by decide) rfl) (call_ok (args1_ok (rd_ok rfl)) rfl))) ?_
  obtain ⟨x, kp⟩ := pc_loop (E := []) (es := fs) (sup := ss.map .int) (n := n) m 0 (lwE (.val (scr ys)) (iv c2) (iv (2 * (c % 2))) n (iv m) (.val (.lst (fs.map Ed.pv))) x6 (.val (.lst (ss.map .int))) (.val (.lst (fs.map Ed.pv))) (.own (ss.map .int)) (.val (webO n fs (ss.map .int))) (.val (.lst ((fs.map noC).map Ed.pv))) x12 (.val (webO n (fs.map noC) ((List.replicate n (0 : Int)).map .int))) (.val (.lst ((fs.map frC).map Ed.pv))) (.val (webO n (fs.map frC) ((List.replicate n (0 : Int)).map .int))) (iv o) (iv i) (iv j)) (by omega) (fun x => ⟨rfl, rfl, rfl⟩)
  rw [if_neg (by omega), ← rngL_range'] at kp
  have rg2 : (fun env => ((argsC (rdV 4) args0) env).bind rng1) (lwE (.val (scr ys)) (iv c2) (iv (2 * (c % 2))) n (iv m) (.val (.lst (fs.map Ed.pv))) x6 (.val (.lst (ss.map .int))) (.val (.lst (fs.map Ed.pv))) (.own (ss.map .int)) (.val (webO n fs (ss.map .int))) (.val (.lst ((fs.map noC).map Ed.pv))) x12 (.val (webO n (fs.map noC) ((List.replicate n (0 : Int)).map .int))) (.val (.lst ((fs.map frC).map Ed.pv))) (.val (webO n (fs.map frC) ((List.replicate n (0 : Int)).map .int))) (iv o) (iv i) (iv j)) = .ok (rngL 0 m) := rngE (n := m) (rd_ok rfl) (by omega)
  refine An.to (forE_ok rg2 kp) ?_
  refine An.frz (i := 9) (l := ss.map .int) rfl (An.retO ?_)
  exact andV_is (a := true) (bin_ok (rd_ok rfl) (rd_ok rfl) (elp.eq (by decide))) (andV_is (a := true) (bin_ok (rd_ok rfl) (rd_ok rfl) (sp.eq (by decide))) (call_ok (args2_ok (p := .tup (ss.map .int)) (fld_ok (rd_ok rfl) (by decide) rfl) (rd_ok rfl)) (plain_ss (by rw [S.len]; omega))))
end J

namespace Bp
open PySem.Spec PySem PyProof.Rows
open L2 hiding St
theorem c_lowered : FnScope ["labels", "arcs", "ways", "_", "place", "at", "tail", "head", "cost", "number"] ["labels", "arcs"] (defScope s_lowered) := ⟨rfl, rfl, rfl, by decide +kernel, rfl, by decide +kernel, by decide +kernel⟩
theorem c_way_to : FnScope ["arcs", "ways", "place", "found", "seen"] ["arcs", "ways", "place"] (defScope s_way_to) := ⟨rfl, rfl, rfl, by decide +kernel, rfl, by decide +kernel, by decide +kernel⟩
theorem c_ring_at : FnScope ["arcs", "ways", "place", "_"] ["arcs", "ways", "place"] (defScope s_ring_at) := ⟨rfl, rfl, rfl, by decide +kernel, rfl, by decide +kernel, by decide +kernel⟩
theorem c_BadCount_init : FnScope ["self", "what", "many"] ["self", "what", "many"] (defScope s_BadCount_init) := ⟨rfl, rfl, rfl, by decide +kernel, rfl, by decide +kernel, by decide +kernel⟩
theorem c_WrongWidth_init : FnScope ["self", "have", "need"] ["self", "have", "need"] (defScope s_WrongWidth_init) := ⟨rfl, rfl, rfl, by decide +kernel, rfl, by decide +kernel, by decide +kernel⟩
theorem c_check_count : FnScope ["what", "many", "least", "most"] ["what", "many", "least", "most"] (defScope s_check_count) := ⟨rfl, rfl, rfl, by decide +kernel, rfl, by decide +kernel, by decide +kernel⟩
theorem c_check_width : FnScope ["have", "need"] ["have", "need"] (defScope s_check_width) := ⟨rfl, rfl, rfl, by decide +kernel, rfl, by decide +kernel, by decide +kernel⟩
theorem c_NoPlace_init : FnScope ["self", "place"] ["self", "place"] (defScope s_NoPlace_init) := ⟨rfl, rfl, rfl, by decide +kernel, rfl, by decide +kernel, by decide +kernel⟩
theorem c_BadEdge_init : FnScope ["self", "at"] ["self", "at"] (defScope s_BadEdge_init) := ⟨rfl, rfl, rfl, by decide +kernel, rfl, by decide +kernel, by decide +kernel⟩
theorem c_BadSupply_init : FnScope ["self", "place"] ["self", "place"] (defScope s_BadSupply_init) := ⟨rfl, rfl, rfl, by decide +kernel, rfl, by decide +kernel, by decide +kernel⟩
theorem c_Unbalanced_init : FnScope ["self", "total"] ["self", "total"] (defScope s_Unbalanced_init) := ⟨rfl, rfl, rfl, by decide +kernel, rfl, by decide +kernel, by decide +kernel⟩
theorem c_check_place : FnScope ["places", "place"] ["places", "place"] (defScope s_check_place) := ⟨rfl, rfl, rfl, by decide +kernel, rfl, by decide +kernel, by decide +kernel⟩
theorem c_is_amount : FnScope ["number"] ["number"] (defScope s_is_amount) := ⟨rfl, rfl, rfl, by decide +kernel, rfl, by decide +kernel, by decide +kernel⟩
theorem c_is_edge : FnScope ["tail", "head", "low", "high", "cost"] ["tail", "head", "low", "high", "cost"] (defScope s_is_edge) := ⟨rfl, rfl, rfl, by decide +kernel, rfl, by decide +kernel, by decide +kernel⟩
theorem c_check_edges : FnScope ["places", "edges", "at", "tail", "head", "low", "high", "cost"] ["places", "edges"] (defScope s_check_edges) := ⟨rfl, rfl, rfl, by decide +kernel, rfl, by decide +kernel, by decide +kernel⟩
theorem c_check_supplies : FnScope ["places", "supplies", "place", "supply", "total"] ["places", "supplies"] (defScope s_check_supplies) := ⟨rfl, rfl, rfl, by decide +kernel, rfl, by decide +kernel, by decide +kernel⟩
theorem c_Web_init : FnScope ["self", "places", "edges", "supplies", "edge"] ["self", "places", "edges", "supplies"] (defScope s_Web_init) := ⟨rfl, rfl, rfl, by decide +kernel, rfl, by decide +kernel, by decide +kernel⟩
theorem c_heights : FnScope ["web", "arcs", "tail", "head", "_", "cost", "labels", "ways", "place"] ["web"] (defScope s_heights) := ⟨rfl, rfl, rfl, by decide +kernel, rfl, by decide +kernel, by decide +kernel⟩
theorem c_law_cell : FnScope ["script", "k"] ["script", "k"] (defScope s_law_cell) := ⟨rfl, rfl, rfl, by decide +kernel, rfl, by decide +kernel, by decide +kernel⟩
theorem c_law_edge : FnScope ["cell", "k", "places", "cost", "width", "step", "low", "tail", "high"] ["cell", "k", "places"] (defScope s_law_edge) := ⟨rfl, rfl, rfl, by decide +kernel, rfl, by decide +kernel, by decide +kernel⟩
theorem c_law_ring : FnScope ["places", "edges", "numbers", "changed", "turn", "edge"] ["places", "edges"] (defScope s_law_ring) := ⟨rfl, rfl, rfl, by decide +kernel, rfl, by decide +kernel, by decide +kernel⟩
theorem c_law_recosted : FnScope ["edges", "shift", "found", "edge", "cost"] ["edges", "shift"] (defScope s_law_recosted) := ⟨rfl, rfl, rfl, by decide +kernel, rfl, by decide +kernel, by decide +kernel⟩
theorem c_law_free : FnScope ["script", "places", "supplies", "at"] ["script", "places"] (defScope s_law_free) := ⟨rfl, rfl, rfl, by decide +kernel, rfl, by decide +kernel, by decide +kernel⟩
theorem c_law_ring_is : FnScope ["told", "places", "edges", "at", "passed", "total", "k", "edge", "after"] ["told", "places", "edges"] (defScope s_law_ring_is) := ⟨rfl, rfl, rfl, by decide +kernel, rfl, by decide +kernel, by decide +kernel⟩
theorem c_law_heights_right : FnScope ["told", "places", "edges", "number", "edge"] ["told", "places", "edges"] (defScope s_law_heights_right) := ⟨rfl, rfl, rfl, by decide +kernel, rfl, by decide +kernel, by decide +kernel⟩
theorem c_law_integer_k81 : FnScope ["number"] ["number"] (defScope s_law_integer_k81) := ⟨rfl, rfl, rfl, by decide +kernel, rfl, by decide +kernel, by decide +kernel⟩
theorem c_law_made : FnScope ["places", "edges", "supplies", "e", "kinds"] ["places", "edges", "supplies"] (defScope s_law_made) := ⟨rfl, rfl, rfl, by decide +kernel, rfl, by decide +kernel, by decide +kernel⟩
theorem c_law_with : FnScope ["rows", "spot", "row", "found"] ["rows", "spot", "row"] (defScope s_law_with) := ⟨rfl, rfl, rfl, by decide +kernel, rfl, by decide +kernel, by decide +kernel⟩
theorem c_law_edge_faults : FnScope ["places", "edges", "spot", "odd", "tail", "head", "low", "high", "cost", "found"] ["places", "edges", "spot", "odd"] (defScope s_law_edge_faults) := ⟨rfl, rfl, rfl, by decide +kernel, rfl, by decide +kernel, by decide +kernel⟩
theorem c_law_edges_asked : FnScope ["places", "edges", "supplies", "spot", "odd", "fault", "rows", "last", "bad"] ["places", "edges", "supplies", "spot", "odd"] (defScope s_law_edges_asked) := ⟨rfl, rfl, rfl, by decide +kernel, rfl, by decide +kernel, by decide +kernel⟩
theorem c_law_supplies_asked : FnScope ["places", "edges", "supplies", "spot", "odd", "rest", "last", "number", "rows", "more", "full"] ["places", "edges", "supplies", "spot", "odd"] (defScope s_law_supplies_asked) := ⟨rfl, rfl, rfl, by decide +kernel, rfl, by decide +kernel, by decide +kernel⟩
theorem c_law_counts_asked : FnScope ["places", "edges", "supplies", "many", "rows", "k"] ["places", "edges", "supplies"] (defScope s_law_counts_asked) := ⟨rfl, rfl, rfl, by decide +kernel, rfl, by decide +kernel, by decide +kernel⟩
theorem c_law_plain : FnScope ["told", "due", "k"] ["told", "due"] (defScope s_law_plain) := ⟨rfl, rfl, rfl, by decide +kernel, rfl, by decide +kernel, by decide +kernel⟩
theorem c_law_k81 : FnScope ["script", "cell", "shift", "places", "many", "edges", "k", "supplies", "kept", "needs", "web", "blank", "edge", "bare", "turned", "other", "odd", "spot", "at"] ["script"] (defScope s_law_k81) := ⟨rfl, rfl, rfl, by decide +kernel, rfl, by decide +kernel, by decide +kernel⟩
end Bp

namespace J
open PySem.Spec PySem PyProof.Rows
open L2 hiding St Takes XE CX takes_of PMk MkP ps_raise mk_of ps_try_as ps_try_many pmk_own passAt passes_call takes0 passL
open L2N hiding St
open Bp (takes0 passL OpS R2S IsI)

open Bp (s_lowered c_lowered s_way_to c_way_to s_ring_at c_ring_at s_BadCount_init c_BadCount_init s_WrongWidth_init c_WrongWidth_init s_check_count c_check_count s_check_width c_check_width s_NoPlace_init c_NoPlace_init s_BadEdge_init c_BadEdge_init s_BadSupply_init c_BadSupply_init s_Unbalanced_init c_Unbalanced_init s_check_place c_check_place s_is_amount c_is_amount s_is_edge c_is_edge s_check_edges c_check_edges s_check_supplies c_check_supplies s_Web_init c_Web_init s_heights c_heights s_law_cell c_law_cell s_law_edge c_law_edge s_law_ring c_law_ring s_law_recosted c_law_recosted s_law_free c_law_free s_law_ring_is c_law_ring_is s_law_heights_right c_law_heights_right s_law_integer_k81 c_law_integer_k81 s_law_made c_law_made s_law_with c_law_with s_law_edge_faults c_law_edge_faults s_law_edges_asked c_law_edges_asked s_law_supplies_asked c_law_supplies_asked s_law_counts_asked c_law_counts_asked s_law_plain c_law_plain s_law_k81 c_law_k81)
structure TX (P : Program) (mg : Str → Option Value) (G : Gb) : Prop where
  b_len : mg "len" = none
  b_int : mg "int" = none
  f_law_cell : Bp.GFun G.K mg "_law_cell" s_law_cell ["script", "k"]
  b_range : mg "range" = none
  f_law_edge : Bp.GFun G.K mg "_law_edge" s_law_edge ["cell", "k", "places"]
  b_abs : mg "abs" = none
  f_law_recosted : Bp.GFun G.K mg "_law_recosted" s_law_recosted ["edges", "shift"]
  b_sum : mg "sum" = none
  f_law_free : Bp.GFun G.K mg "_law_free" s_law_free ["script", "places"]
  b_list : mg "list" = none
  gk_LEAST_PLACES : ∃ t, mg "LEAST_PLACES" = some (.int 2 t)
  gk_MOST_PLACES : ∃ t, mg "MOST_PLACES" = some (.int 8 t)
  x_BadCount : ∃ f fd, L2.Fun G.K "__init__" "BadCount.__init__" s_BadCount_init f fd ∧ OexC G.K (G.cm 4) ∧ PySem.W.findIn G.K (.ref (G.cm 4)) "__init__" = some (some (.ref f)) ∧ PySem.W.typeIn G.K (.ref f) = some (.type "function") ∧ L2.Binds G.K fd ["self", "what", "many"] []
  nx_BadCount_what : PySem.W.findIn G.K (.ref (G.cm 4)) "what" = some none
  nx_BadCount_many : PySem.W.findIn G.K (.ref (G.cm 4)) "many" = some none
  g_BadCount : mg "BadCount" = some (.ref (G.cm 4))
  f_check_count : Bp.GFun G.K mg "check_count" s_check_count ["what", "many", "least", "most"]
  gk_MOST_EDGES : ∃ t, mg "MOST_EDGES" = some (.int 16 t)
  b_enumerate : mg "enumerate" = none
  x_NoPlace : ∃ f fd, L2.Fun G.K "__init__" "NoPlace.__init__" s_NoPlace_init f fd ∧ OexC G.K (G.cm 32) ∧ PySem.W.findIn G.K (.ref (G.cm 32)) "__init__" = some (some (.ref f)) ∧ PySem.W.typeIn G.K (.ref f) = some (.type "function") ∧ L2.Binds G.K fd ["self", "place"] []
  nx_NoPlace_place : PySem.W.findIn G.K (.ref (G.cm 32)) "place" = some none
  g_NoPlace : mg "NoPlace" = some (.ref (G.cm 32))
  f_check_place : Bp.GFun G.K mg "check_place" s_check_place ["places", "place"]
  gk_MOST_AMOUNT : ∃ t, mg "MOST_AMOUNT" = some (.int 1000 t)
  f_is_amount : Bp.GFun G.K mg "is_amount" s_is_amount ["number"]
  f_is_edge : Bp.GFun G.K mg "is_edge" s_is_edge ["tail", "head", "low", "high", "cost"]
  x_BadEdge : ∃ f fd, L2.Fun G.K "__init__" "BadEdge.__init__" s_BadEdge_init f fd ∧ OexC G.K (G.cm 33) ∧ PySem.W.findIn G.K (.ref (G.cm 33)) "__init__" = some (some (.ref f)) ∧ PySem.W.typeIn G.K (.ref f) = some (.type "function") ∧ L2.Binds G.K fd ["self", "at"] []
  nx_BadEdge_at : PySem.W.findIn G.K (.ref (G.cm 33)) "at" = some none
  g_BadEdge : mg "BadEdge" = some (.ref (G.cm 33))
  f_check_edges : Bp.GFun G.K mg "check_edges" s_check_edges ["places", "edges"]
  x_WrongWidth : ∃ f fd, L2.Fun G.K "__init__" "WrongWidth.__init__" s_WrongWidth_init f fd ∧ OexC G.K (G.cm 14) ∧ PySem.W.findIn G.K (.ref (G.cm 14)) "__init__" = some (some (.ref f)) ∧ PySem.W.typeIn G.K (.ref f) = some (.type "function") ∧ L2.Binds G.K fd ["self", "have", "need"] []
  nx_WrongWidth_have : PySem.W.findIn G.K (.ref (G.cm 14)) "have" = some none
  nx_WrongWidth_need : PySem.W.findIn G.K (.ref (G.cm 14)) "need" = some none
  g_WrongWidth : mg "WrongWidth" = some (.ref (G.cm 14))
  f_check_width : Bp.GFun G.K mg "check_width" s_check_width ["have", "need"]
  x_BadSupply : ∃ f fd, L2.Fun G.K "__init__" "BadSupply.__init__" s_BadSupply_init f fd ∧ OexC G.K (G.cm 34) ∧ PySem.W.findIn G.K (.ref (G.cm 34)) "__init__" = some (some (.ref f)) ∧ PySem.W.typeIn G.K (.ref f) = some (.type "function") ∧ L2.Binds G.K fd ["self", "place"] []
  nx_BadSupply_place : PySem.W.findIn G.K (.ref (G.cm 34)) "place" = some none
  g_BadSupply : mg "BadSupply" = some (.ref (G.cm 34))
  x_Unbalanced : ∃ f fd, L2.Fun G.K "__init__" "Unbalanced.__init__" s_Unbalanced_init f fd ∧ OexC G.K (G.cm 35) ∧ PySem.W.findIn G.K (.ref (G.cm 35)) "__init__" = some (some (.ref f)) ∧ PySem.W.typeIn G.K (.ref f) = some (.type "function") ∧ L2.Binds G.K fd ["self", "total"] []
  nx_Unbalanced_total : PySem.W.findIn G.K (.ref (G.cm 35)) "total" = some none
  g_Unbalanced : mg "Unbalanced" = some (.ref (G.cm 35))
  f_check_supplies : Bp.GFun G.K mg "check_supplies" s_check_supplies ["places", "supplies"]
  cl_Web : Cls G.K (G.cm 31)
  na_Web_places : NoAttr G.K (G.cm 31) "places"
  b_tuple : mg "tuple" = none
  na_Web_edges : NoAttr G.K (G.cm 31) "edges"
  na_Web_supplies : NoAttr G.K (G.cm 31) "supplies"
  i_Web : ∃ f fd, L2.Fun G.K "__init__" "Web.__init__" s_Web_init f fd ∧ Mk G.K (G.cm 31) f ∧ L2.Binds G.K fd ["self", "places", "edges", "supplies"] []
  g_Web : mg "Web" = some (.ref (G.cm 31))
  f_lowered : Bp.GFun G.K mg "lowered" s_lowered ["labels", "arcs"]
  f_way_to : Bp.GFun G.K mg "way_to" s_way_to ["arcs", "ways", "place"]
  f_ring_at : Bp.GFun G.K mg "ring_at" s_ring_at ["arcs", "ways", "place"]
  f_heights : Bp.GFun G.K mg "heights" s_heights ["web"]
  b_isinstance : mg "isinstance" = none
  hit_tuple : IsT G (.type "tuple") it_tuple_w
  b_bool : mg "bool" = none
  hit_bool : IsT G (.type "bool") it_bool_w
  hit_int : IsT G (.type "int") it_int_w
  f_law_ring : Bp.GFun G.K mg "_law_ring" s_law_ring ["places", "edges"]
  f_law_ring_is : Bp.GFun G.K mg "_law_ring_is" s_law_ring_is ["told", "places", "edges"]
  f_law_heights_right : Bp.GFun G.K mg "_law_heights_right" s_law_heights_right ["told", "places", "edges"]
  f_law_edge_faults : Bp.GFun G.K mg "_law_edge_faults" s_law_edge_faults ["places", "edges", "spot", "odd"]
  f_law_with : Bp.GFun G.K mg "_law_with" s_law_with ["rows", "spot", "row"]
  hcat_BestError_w : ∀ c b, cat_BestError_w c = some b → PySem.W.exmOne G.K (.ref (G.cm c)) (.ref (G.cm 1)) = some b
  hxt_is_BadCount_w : ∀ c b, xt_is_BadCount_w c = some b → ExcC G.K (G.cm c) ∧ PySem.W.kitOne G.K (.ref (G.cm c)) (.ref (G.cm 4)) = some b
  hxt_is_NoPlace_w : ∀ c b, xt_is_NoPlace_w c = some b → ExcC G.K (G.cm c) ∧ PySem.W.kitOne G.K (.ref (G.cm c)) (.ref (G.cm 32)) = some b
  hxt_is_BadEdge_w : ∀ c b, xt_is_BadEdge_w c = some b → ExcC G.K (G.cm c) ∧ PySem.W.kitOne G.K (.ref (G.cm c)) (.ref (G.cm 33)) = some b
  hxt_is_WrongWidth_w : ∀ c b, xt_is_WrongWidth_w c = some b → ExcC G.K (G.cm c) ∧ PySem.W.kitOne G.K (.ref (G.cm c)) (.ref (G.cm 14)) = some b
  hxt_is_BadSupply_w : ∀ c b, xt_is_BadSupply_w c = some b → ExcC G.K (G.cm c) ∧ PySem.W.kitOne G.K (.ref (G.cm c)) (.ref (G.cm 34)) = some b
  hxt_is_Unbalanced_w : ∀ c b, xt_is_Unbalanced_w c = some b → ExcC G.K (G.cm c) ∧ PySem.W.kitOne G.K (.ref (G.cm c)) (.ref (G.cm 35)) = some b
  b_ValueError : mg "ValueError" = none
  hxt_is_ValueError_w : ∀ c b, xt_is_ValueError_w c = some b → ExcC G.K (G.cm c) ∧ PySem.W.kitOne G.K (.ref (G.cm c)) (.type "ValueError") = some b
  xf_BadCount : XfC G.K (G.cm 4)
  f_law_integer_k81 : Bp.GFun G.K mg "_law_integer" s_law_integer_k81 ["number"]
  xf_NoPlace : XfC G.K (G.cm 32)
  xf_BadSupply : XfC G.K (G.cm 34)
  xf_BadEdge : XfC G.K (G.cm 33)
  xf_WrongWidth : XfC G.K (G.cm 14)
  xf_Unbalanced : XfC G.K (G.cm 35)
  g_BestError : mg "BestError" = some (.ref (G.cm 1))
  f_law_made : Bp.GFun G.K mg "_law_made" s_law_made ["places", "edges", "supplies"]
  f_law_edges_asked : Bp.GFun G.K mg "_law_edges_asked" s_law_edges_asked ["places", "edges", "supplies", "spot", "odd"]
  f_law_supplies_asked : Bp.GFun G.K mg "_law_supplies_asked" s_law_supplies_asked ["places", "edges", "supplies", "spot", "odd"]
  f_law_counts_asked : Bp.GFun G.K mg "_law_counts_asked" s_law_counts_asked ["places", "edges", "supplies"]
  f_law_plain : Bp.GFun G.K mg "_law_plain" s_law_plain ["told", "due"]
  f_law_k81 : Bp.GFun G.K mg "law" s_law_k81 ["script"]
end J

namespace J
open PySem.Spec PySem PyProof.Rows
open L2 hiding St Takes XE CX takes_of PMk MkP ps_raise mk_of ps_try_as ps_try_many pmk_own passAt passes_call takes0 passL
open L2N hiding St
open Bp (takes0 passL OpS R2S IsI)
open Bp (s_lowered c_lowered s_way_to c_way_to s_ring_at c_ring_at s_BadCount_init c_BadCount_init s_WrongWidth_init c_WrongWidth_init s_check_count c_check_count s_check_width c_check_width s_NoPlace_init c_NoPlace_init s_BadEdge_init c_BadEdge_init s_BadSupply_init c_BadSupply_init s_Unbalanced_init c_Unbalanced_init s_check_place c_check_place s_is_amount c_is_amount s_is_edge c_is_edge s_check_edges c_check_edges s_check_supplies c_check_supplies s_Web_init c_Web_init s_heights c_heights s_law_cell c_law_cell s_law_edge c_law_edge s_law_ring c_law_ring s_law_recosted c_law_recosted s_law_free c_law_free s_law_ring_is c_law_ring_is s_law_heights_right c_law_heights_right s_law_integer_k81 c_law_integer_k81 s_law_made c_law_made s_law_with c_law_with s_law_edge_faults c_law_edge_faults s_law_edges_asked c_law_edges_asked s_law_supplies_asked c_law_supplies_asked s_law_counts_asked c_law_counts_asked s_law_plain c_law_plain s_law_k81 c_law_k81)
theorem d_law_cell {P : Program} {w : World} {K : PySem.W.Frag} {mg : Str → Option Value} {base : Heap} {cm : Nat → Addr} (T : TX P mg ⟨K, cm⟩) : Bp.Def P w K mg base 1 "_law_cell" ["script", "k"] (spJ ⟨K, cm⟩ f_law_cell) := jdef T.f_law_cell c_law_cell fun f cdv A outer s H E hr => (jss_cons (js_if (jt_cmp o_lt (je_var 1) (je_callB (b_len rfl) T.b_len (by decide +kernel) (ja_cons (je_var 0) ja_nil)))
      (jss_one (js_ret (je_op o_mod (je_callT b_int T.b_int (by decide +kernel) (ja_cons (je_ix rfl (je_var 0) (je_var 1)) ja_nil)) (je_op o_pow je_int je_int))))
      jss_nil)
      (jss_one (js_ret (je_op o_add (je_op o_mul je_int (je_var 1)) je_int))))
theorem d_law_edge {P : Program} {w : World} {K : PySem.W.Frag} {mg : Str → Option Value} {base : Heap} {cm : Nat → Addr} (T : TX P mg ⟨K, cm⟩) : Bp.Def P w K mg base 1 "_law_edge" ["cell", "k", "places"] (spJ ⟨K, cm⟩ f_law_edge) := jdef T.f_law_edge c_law_edge fun f cdv A outer s H E hr => (jss_cons (js_set 3 c_law_edge.nd (je_ix rfl (je_lst (ja_cons je_int (ja_cons je_int (ja_cons je_int (ja_cons (je_un u_neg je_int) (ja_cons je_int (ja_cons (je_un u_neg je_int) (ja_cons je_int (ja_cons (je_un u_neg je_int) (ja_cons je_int ja_nil)))))))))) (je_op o_mod (je_callT b_int T.b_int (by decide +kernel) (ja_cons (je_var 0) ja_nil)) je_int)))
      (jss_cons (js_set 4 c_law_edge.nd (je_ix rfl (je_lst (ja_cons je_int (ja_cons je_int (ja_cons je_int (ja_cons je_non (ja_cons je_int (ja_cons je_int (ja_cons je_non (ja_cons je_int ja_nil))))))))) (je_op o_mod (je_callT b_int T.b_int (by decide +kernel) (ja_cons (je_op o_fdiv (je_var 0) je_int) ja_nil)) je_int)))
      (jss_cons (js_set 0 c_law_edge.nd (je_op o_fdiv (je_var 0) je_int))
      (jss_cons (js_set 5 c_law_edge.nd (je_op o_add je_int (je_op o_mod (je_callT b_int T.b_int (by decide +kernel) (ja_cons (je_var 0) ja_nil)) (je_op o_sub (je_var 2) je_int))))
      (jss_cons (js_set 0 c_law_edge.nd (je_op o_fdiv (je_var 0) (je_op o_sub (je_var 2) je_int)))
      (jss_cons (js_set 6 c_law_edge.nd (je_ix rfl (je_lst (ja_cons je_int (ja_cons je_int (ja_cons je_int (ja_cons je_int ja_nil))))) (je_op o_mod (je_callT b_int T.b_int (by decide +kernel) (ja_cons (je_var 0) ja_nil)) je_int)))
      (jss_cons (js_set 7 c_law_edge.nd (je_op o_mod (je_callT b_int T.b_int (by decide +kernel) (ja_cons (je_op o_add (je_var 1) (je_op o_mod (je_callT b_int T.b_int (by decide +kernel) (ja_cons (je_op o_fdiv (je_var 0) je_int) ja_nil)) (je_var 2))) ja_nil)) (je_var 2)))
      (jss_cons (js_set 0 c_law_edge.nd (je_op o_fdiv (je_var 0) (je_op o_mul je_int (je_var 2))))
      (jss_cons (js_if (jt_cmp o_eq (je_op o_mod (je_callT b_int T.b_int (by decide +kernel) (ja_cons (je_var 0) ja_nil)) je_int) je_int)
      (jss_cons (js_set 6 c_law_edge.nd (je_op o_mod (je_callT b_int T.b_int (by decide +kernel) (ja_cons (je_op o_fdiv (je_var 0) je_int) ja_nil)) je_int))
      (jss_cons (js_set 3 c_law_edge.nd (je_op o_sub (je_op o_mod (je_callT b_int T.b_int (by decide +kernel) (ja_cons (je_op o_fdiv (je_var 0) je_int) ja_nil)) je_int) je_int))
      (jss_one (js_if (jt_cmp o_notN (je_var 4) je_non)
      (jss_one (js_set 4 c_law_edge.nd (je_op o_mod (je_callT b_int T.b_int (by decide +kernel) (ja_cons (je_op o_fdiv (je_var 0) je_int) ja_nil)) (je_op o_sub je_int (je_var 6)))))
      jss_nil))))
      jss_nil)
      (jss_cons (js_set 8 c_law_edge.nd je_non)
      (jss_cons (js_if (jt_cmp o_notN (je_var 4) je_non)
      (jss_one (js_set 8 c_law_edge.nd (je_op o_add (je_var 6) (je_var 4))))
      jss_nil)
      (jss_one (js_ret (je_tup (ja_cons (je_var 7) (ja_cons (je_op o_mod (je_callT b_int T.b_int (by decide +kernel) (ja_cons (je_op o_add (je_var 7) (je_var 5)) ja_nil)) (je_var 2)) (ja_cons (je_var 6) (ja_cons (je_var 8) (ja_cons (je_var 3) ja_nil)))))))))))))))))))
theorem do_law_recosted {P : Program} {w : World} {K : PySem.W.Frag} {mg : Str → Option Value} {base : Heap} {cm : Nat → Addr} (T : TX P mg ⟨K, cm⟩) : Bp.Def P w K mg base 1 "_law_recosted" ["edges", "shift"] (spO ⟨K, cm⟩ fo_law_recosted) := jdefO T.f_law_recosted c_law_recosted fun f cdv A outer s H E hr => (jso_cons (js_own 2 c_law_recosted.nd)
      (jso_cons (js_for (vs := [3]) (passes_of rfl) rfl (ji_seq rfl (je_var 0)) (jg_name 3 c_law_recosted.nd (by decide))
      (jss_cons (js_set 4 c_law_recosted.nd (je_ix rfl (je_var 3) je_int))
      (jss_cons (js_if (jt_cmp o_lt (je_callB b_abs T.b_abs (by decide +kernel) (ja_cons (je_var 4) ja_nil)) je_int)
      (jss_one (js_aug 4 c_law_recosted.nd i_sub (je_var 1)))
      jss_nil)
      (jss_one (js_app 2 (je_tup (ja_cons (je_ix rfl (je_var 3) je_int) (ja_cons (je_ix rfl (je_var 3) je_int) (ja_cons (je_ix rfl (je_var 3) je_int) (ja_cons (je_ix rfl (je_var 3) je_int) (ja_cons (je_var 4) ja_nil)))))))))))
      (jso_ret 2)))
theorem d_law_free {P : Program} {w : World} {K : PySem.W.Frag} {mg : Str → Option Value} {base : Heap} {cm : Nat → Addr} (T : TX P mg ⟨K, cm⟩) : Bp.Def P w K mg base 2 "_law_free" ["script", "places"] (spJ ⟨K, cm⟩ f_law_free) := jdef T.f_law_free c_law_free fun f cdv A outer s H E hr => (jss_cons (js_own 2 c_law_free.nd)
      (jss_cons (js_for (vs := [3]) (passes_of rfl) rfl (ji_rng1 T.b_range (ja_cons (je_op o_sub (je_var 1) je_int) ja_nil)) (jg_name 3 c_law_free.nd (by decide))
      (jss_one (js_app 2 (je_op o_sub (je_op o_mod (je_callT b_int T.b_int (by decide +kernel) (ja_cons (je_call (d_law_cell T) (hr.mono (by decide)) (takes_of rfl rfl rfl rfl) (ja_cons (je_var 0) (ja_cons (je_op o_add je_int (je_var 3)) ja_nil))) ja_nil)) je_int) je_int))))
      (jss_cons (js_app 2 (je_lend 2 (je_un u_neg (je_callB (b_sum rfl) T.b_sum (by decide +kernel) (ja_cons (je_var 2) ja_nil)))))
      (jss_frz 2 (jss_one (js_ret (je_var 2)))))))
theorem e_BadCount {P : Program} {w : World} {K : PySem.W.Frag} {mg : Str → Option Value} {base : Heap} {cm : Nat → Addr} (T : TX P mg ⟨K, cm⟩) : EDef P w K mg base 1 "BadCount" (cm 4) ["what", "many"] := by
  obtain ⟨f, fd, F, O, iC, tI, b⟩ := T.x_BadCount
  exact ⟨f, fd, _, T.g_BadCount, O, iC, tI, b, e2_ok c_BadCount_init F O T.nx_BadCount_what T.nx_BadCount_many (by rfl)⟩
theorem d_check_count {P : Program} {w : World} {K : PySem.W.Frag} {mg : Str → Option Value} {base : Heap} {cm : Nat → Addr} (T : TX P mg ⟨K, cm⟩) : Bp.Def P w K mg base 3 "check_count" ["what", "many", "least", "most"] (spJ ⟨K, cm⟩ f_check_count) := jdef T.f_check_count c_check_count fun f cdv A outer s H E hr => (jss_one (js_if (jt_w (jw_or (jt_cmp o_lt (je_var 1) (je_var 2)) (jw_or1 (jt_cmp o_gt (je_var 1) (je_var 3)))))
      (jss_one (js_raise (c := 4) (e_BadCount T) rfl (hr.mono (by decide)) (takes_of rfl rfl rfl rfl) (ja_cons (je_var 0) (ja_cons (je_var 1) ja_nil))))
      jss_nil))
theorem e_NoPlace {P : Program} {w : World} {K : PySem.W.Frag} {mg : Str → Option Value} {base : Heap} {cm : Nat → Addr} (T : TX P mg ⟨K, cm⟩) : EDef P w K mg base 1 "NoPlace" (cm 32) ["place"] := by
  obtain ⟨f, fd, F, O, iC, tI, b⟩ := T.x_NoPlace
  exact ⟨f, fd, _, T.g_NoPlace, O, iC, tI, b, e1_ok c_NoPlace_init F O T.nx_NoPlace_place (by rfl)⟩
theorem d_check_place {P : Program} {w : World} {K : PySem.W.Frag} {mg : Str → Option Value} {base : Heap} {cm : Nat → Addr} (T : TX P mg ⟨K, cm⟩) : Bp.Def P w K mg base 3 "check_place" ["places", "place"] (spJ ⟨K, cm⟩ f_check_place) := jdef T.f_check_place c_check_place fun f cdv A outer s H E hr => (jss_one (js_if (jt_w (jw_or (jt_cmp o_lt (je_var 1) je_int) (jw_or1 (jt_cmp o_ge (je_var 1) (je_var 0)))))
      (jss_one (js_raise (c := 32) (e_NoPlace T) rfl (hr.mono (by decide)) (takes_of rfl rfl rfl rfl) (ja_cons (je_var 1) ja_nil)))
      jss_nil))
end J

namespace J
open PySem.Spec PySem PyProof.Rows
open L2 hiding St Takes XE CX takes_of PMk MkP ps_raise mk_of ps_try_as ps_try_many pmk_own passAt passes_call takes0 passL
open L2N hiding St
open Bp (takes0 passL OpS R2S IsI)
open Bp (s_lowered c_lowered s_way_to c_way_to s_ring_at c_ring_at s_BadCount_init c_BadCount_init s_WrongWidth_init c_WrongWidth_init s_check_count c_check_count s_check_width c_check_width s_NoPlace_init c_NoPlace_init s_BadEdge_init c_BadEdge_init s_BadSupply_init c_BadSupply_init s_Unbalanced_init c_Unbalanced_init s_check_place c_check_place s_is_amount c_is_amount s_is_edge c_is_edge s_check_edges c_check_edges s_check_supplies c_check_supplies s_Web_init c_Web_init s_heights c_heights s_law_cell c_law_cell s_law_edge c_law_edge s_law_ring c_law_ring s_law_recosted c_law_recosted s_law_free c_law_free s_law_ring_is c_law_ring_is s_law_heights_right c_law_heights_right s_law_integer_k81 c_law_integer_k81 s_law_made c_law_made s_law_with c_law_with s_law_edge_faults c_law_edge_faults s_law_edges_asked c_law_edges_asked s_law_supplies_asked c_law_supplies_asked s_law_counts_asked c_law_counts_asked s_law_plain c_law_plain s_law_k81 c_law_k81)
theorem d_is_amount {P : Program} {w : World} {K : PySem.W.Frag} {mg : Str → Option Value} {base : Heap} {cm : Nat → Addr} (T : TX P mg ⟨K, cm⟩) : Bp.Def P w K mg base 1 "is_amount" ["number"] (spJ ⟨K, cm⟩ f_is_amount) := jdef T.f_is_amount c_is_amount fun f cdv A outer s H E hr => (jss_one (js_ret (je_and (je_cmp o_le (je_un u_neg (je_gint T.gk_MOST_AMOUNT)) (je_var 0)) (je_one (je_cmp o_le (je_var 0) (je_gint T.gk_MOST_AMOUNT))))))
theorem d_is_edge {P : Program} {w : World} {K : PySem.W.Frag} {mg : Str → Option Value} {base : Heap} {cm : Nat → Addr} (T : TX P mg ⟨K, cm⟩) : Bp.Def P w K mg base 2 "is_edge" ["tail", "head", "low", "high", "cost"] (spJ ⟨K, cm⟩ f_is_edge) := jdef T.f_is_edge c_is_edge fun f cdv A outer s H E hr => (jss_cons (js_if (jt_w (jw_or (jt_cmp o_eq (je_var 0) (je_var 1)) (jw_or (jt_cmp o_lt (je_var 2) je_int) (jw_or (jt_cmp o_gt (je_var 2) (je_gint T.gk_MOST_AMOUNT)) (jw_or1 (jt_not (jt_val (je_call (d_is_amount T) (hr.mono (by decide)) (takes_of rfl rfl rfl rfl) (ja_cons (je_var 4) ja_nil)))))))))
      (jss_one (js_ret je_bl))
      jss_nil)
      (jss_one (js_ret (je_or (je_cmp o_isN (je_var 3) je_non) (je_one (je_and (je_cmp o_le (je_var 2) (je_var 3)) (je_one (je_cmp o_le (je_var 3) (je_gint T.gk_MOST_AMOUNT)))))))))
theorem e_BadEdge {P : Program} {w : World} {K : PySem.W.Frag} {mg : Str → Option Value} {base : Heap} {cm : Nat → Addr} (T : TX P mg ⟨K, cm⟩) : EDef P w K mg base 1 "BadEdge" (cm 33) ["at"] := by
  obtain ⟨f, fd, F, O, iC, tI, b⟩ := T.x_BadEdge
  exact ⟨f, fd, _, T.g_BadEdge, O, iC, tI, b, e1_ok c_BadEdge_init F O T.nx_BadEdge_at (by rfl)⟩
theorem d_check_edges {P : Program} {w : World} {K : PySem.W.Frag} {mg : Str → Option Value} {base : Heap} {cm : Nat → Addr} (T : TX P mg ⟨K, cm⟩) : Bp.Def P w K mg base 4 "check_edges" ["places", "edges"] (spJ ⟨K, cm⟩ f_check_edges) := jdef T.f_check_edges c_check_edges fun f cdv A outer s H E hr => (jss_cons (js_expr (je_call (d_check_count T) (hr.mono (by decide)) (takes_of rfl rfl rfl rfl) (ja_cons je_str (ja_cons (je_callB (b_len rfl) T.b_len (by decide +kernel) (ja_cons (je_var 1) ja_nil)) (ja_cons je_int (ja_cons (je_gint T.gk_MOST_EDGES) ja_nil))))))
      (jss_one (js_for (vs := [2, 3, 4, 5, 6, 7]) (passes_of rfl) rfl (ji_enum rfl T.b_enumerate (je_var 1)) (jg_tup rfl rfl (jgs_cons (jg_name 2 c_check_edges.nd (by decide)) (jgs_cons (jg_tup rfl rfl (jgs_cons (jg_name 3 c_check_edges.nd (by decide)) (jgs_cons (jg_name 4 c_check_edges.nd (by decide)) (jgs_cons (jg_name 5 c_check_edges.nd (by decide)) (jgs_cons (jg_name 6 c_check_edges.nd (by decide)) (jgs_cons (jg_name 7 c_check_edges.nd (by decide)) jgs_nil)))))) jgs_nil)))
      (jss_cons (js_expr (je_call (d_check_place T) (hr.mono (by decide)) (takes_of rfl rfl rfl rfl) (ja_cons (je_var 0) (ja_cons (je_var 3) ja_nil))))
      (jss_cons (js_expr (je_call (d_check_place T) (hr.mono (by decide)) (takes_of rfl rfl rfl rfl) (ja_cons (je_var 0) (ja_cons (je_var 4) ja_nil))))
      (jss_one (js_if (jt_not (jt_val (je_call (d_is_edge T) (hr.mono (by decide)) (takes_of rfl rfl rfl rfl) (ja_cons (je_var 3) (ja_cons (je_var 4) (ja_cons (je_var 5) (ja_cons (je_var 6) (ja_cons (je_var 7) ja_nil))))))))
      (jss_one (js_raise (c := 33) (e_BadEdge T) rfl (hr.mono (by decide)) (takes_of rfl rfl rfl rfl) (ja_cons (je_var 2) ja_nil)))
      jss_nil)))))))
theorem e_WrongWidth {P : Program} {w : World} {K : PySem.W.Frag} {mg : Str → Option Value} {base : Heap} {cm : Nat → Addr} (T : TX P mg ⟨K, cm⟩) : EDef P w K mg base 1 "WrongWidth" (cm 14) ["have", "need"] := by
  obtain ⟨f, fd, F, O, iC, tI, b⟩ := T.x_WrongWidth
  exact ⟨f, fd, _, T.g_WrongWidth, O, iC, tI, b, e2_ok c_WrongWidth_init F O T.nx_WrongWidth_have T.nx_WrongWidth_need (by rfl)⟩
theorem d_check_width {P : Program} {w : World} {K : PySem.W.Frag} {mg : Str → Option Value} {base : Heap} {cm : Nat → Addr} (T : TX P mg ⟨K, cm⟩) : Bp.Def P w K mg base 3 "check_width" ["have", "need"] (spJ ⟨K, cm⟩ f_check_width) := jdef T.f_check_width c_check_width fun f cdv A outer s H E hr => (jss_one (js_if (jt_cmp o_ne (je_var 0) (je_var 1))
      (jss_one (js_raise (c := 14) (e_WrongWidth T) rfl (hr.mono (by decide)) (takes_of rfl rfl rfl rfl) (ja_cons (je_var 0) (ja_cons (je_var 1) ja_nil))))
      jss_nil))
theorem e_BadSupply {P : Program} {w : World} {K : PySem.W.Frag} {mg : Str → Option Value} {base : Heap} {cm : Nat → Addr} (T : TX P mg ⟨K, cm⟩) : EDef P w K mg base 1 "BadSupply" (cm 34) ["place"] := by
  obtain ⟨f, fd, F, O, iC, tI, b⟩ := T.x_BadSupply
  exact ⟨f, fd, _, T.g_BadSupply, O, iC, tI, b, e1_ok c_BadSupply_init F O T.nx_BadSupply_place (by rfl)⟩
theorem e_Unbalanced {P : Program} {w : World} {K : PySem.W.Frag} {mg : Str → Option Value} {base : Heap} {cm : Nat → Addr} (T : TX P mg ⟨K, cm⟩) : EDef P w K mg base 1 "Unbalanced" (cm 35) ["total"] := by
  obtain ⟨f, fd, F, O, iC, tI, b⟩ := T.x_Unbalanced
  exact ⟨f, fd, _, T.g_Unbalanced, O, iC, tI, b, e1_ok c_Unbalanced_init F O T.nx_Unbalanced_total (by rfl)⟩
end J

namespace J
open PySem.Spec PySem PyProof.Rows
open L2 hiding St Takes XE CX takes_of PMk MkP ps_raise mk_of ps_try_as ps_try_many pmk_own passAt passes_call takes0 passL
open L2N hiding St
open Bp (takes0 passL OpS R2S IsI)
open Bp (s_lowered c_lowered s_way_to c_way_to s_ring_at c_ring_at s_BadCount_init c_BadCount_init s_WrongWidth_init c_WrongWidth_init s_check_count c_check_count s_check_width c_check_width s_NoPlace_init c_NoPlace_init s_BadEdge_init c_BadEdge_init s_BadSupply_init c_BadSupply_init s_Unbalanced_init c_Unbalanced_init s_check_place c_check_place s_is_amount c_is_amount s_is_edge c_is_edge s_check_edges c_check_edges s_check_supplies c_check_supplies s_Web_init c_Web_init s_heights c_heights s_law_cell c_law_cell s_law_edge c_law_edge s_law_ring c_law_ring s_law_recosted c_law_recosted s_law_free c_law_free s_law_ring_is c_law_ring_is s_law_heights_right c_law_heights_right s_law_integer_k81 c_law_integer_k81 s_law_made c_law_made s_law_with c_law_with s_law_edge_faults c_law_edge_faults s_law_edges_asked c_law_edges_asked s_law_supplies_asked c_law_supplies_asked s_law_counts_asked c_law_counts_asked s_law_plain c_law_plain s_law_k81 c_law_k81)
theorem d_check_supplies {P : Program} {w : World} {K : PySem.W.Frag} {mg : Str → Option Value} {base : Heap} {cm : Nat → Addr} (T : TX P mg ⟨K, cm⟩) : Bp.Def P w K mg base 4 "check_supplies" ["places", "supplies"] (spJ ⟨K, cm⟩ f_check_supplies) := jdef T.f_check_supplies c_check_supplies fun f cdv A outer s H E hr => (jss_cons (js_expr (je_call (d_check_width T) (hr.mono (by decide)) (takes_of rfl rfl rfl rfl) (ja_cons (je_callB (b_len rfl) T.b_len (by decide +kernel) (ja_cons (je_var 1) ja_nil)) (ja_cons (je_var 0) ja_nil))))
      (jss_cons (js_for (vs := [2, 3]) (passes_of rfl) rfl (ji_enum rfl T.b_enumerate (je_var 1)) (jg_tup rfl rfl (jgs_cons (jg_name 2 c_check_supplies.nd (by decide)) (jgs_cons (jg_name 3 c_check_supplies.nd (by decide)) jgs_nil)))
      (jss_one (js_if (jt_not (jt_val (je_call (d_is_amount T) (hr.mono (by decide)) (takes_of rfl rfl rfl rfl) (ja_cons (je_var 3) ja_nil))))
      (jss_one (js_raise (c := 34) (e_BadSupply T) rfl (hr.mono (by decide)) (takes_of rfl rfl rfl rfl) (ja_cons (je_var 2) ja_nil)))
      jss_nil)))
      (jss_cons (js_set 4 c_check_supplies.nd (je_callB (b_sum rfl) T.b_sum (by decide +kernel) (ja_cons (je_var 1) ja_nil)))
      (jss_one (js_if (jt_cmp o_ne (je_var 4) je_int)
      (jss_one (js_raise (c := 35) (e_Unbalanced T) rfl (hr.mono (by decide)) (takes_of rfl rfl rfl rfl) (ja_cons (je_var 4) ja_nil)))
      jss_nil)))))
theorem d_Web_init {P : Program} {w : World} {K : PySem.W.Frag} {mg : Str → Option Value} {base : Heap} {cm : Nat → Addr} (T : TX P mg ⟨K, cm⟩) : Bp.CDef P w K mg base 5 "Web" (cm 31) (spI ⟨K, cm⟩ 31 f_Web_init) [] := by
  obtain ⟨f, fd, F, M, b⟩ := T.i_Web
  exact ⟨f, fd, _, [], T.g_Web, M, b, .nil, jinit F c_Web_init (by decide) fun cdv A outer s H E a hr => (jss_cons (js_expr (je_call (d_check_count T) (hr.mono (by decide)) (takes_of rfl rfl rfl rfl) (ja_cons je_str (ja_cons (je_var 1) (ja_cons (je_gint T.gk_LEAST_PLACES) (ja_cons (je_gint T.gk_MOST_PLACES) ja_nil))))))
      (jss_cons (js_expr (je_call (d_check_edges T) (hr.mono (by decide)) (takes_of rfl rfl rfl rfl) (ja_cons (je_var 1) (ja_cons (je_var 2) ja_nil))))
      (jss_cons (js_expr (je_call (d_check_supplies T) (hr.mono (by decide)) (takes_of rfl rfl rfl rfl) (ja_cons (je_var 1) (ja_cons (je_var 3) ja_nil))))
      (jss_cons (js_fld (cs := [31]) 0 rfl (all_c ⟨T.cl_Web, T.na_Web_places⟩ all_n) (je_var 1))
      (jss_cons (js_fld (cs := [31]) 0 rfl (all_c ⟨T.cl_Web, T.na_Web_edges⟩ all_n) (je_callT (b_tuple rfl) T.b_tuple (by decide +kernel) (ja_cons (je_lc [("edge", 4)] c_Web_init.nd (ji_seq rfl (je_var 2)) (blk_ok (N := ["self", "places", "edges", "supplies", "edge"]) (sc := defScope s_Web_init) (by decide +kernel)) (fun s H C cl fp => (jg_name 4 c_Web_init.nd (by decide))) (fun s H C cl fp => jts_nil) (fun s H C cl fp => (je_callT (b_tuple rfl) T.b_tuple (by decide +kernel) (ja_cons (je_var 4) ja_nil)))) ja_nil)))
      (jss_one (js_fld (cs := [31]) 0 rfl (all_c ⟨T.cl_Web, T.na_Web_supplies⟩ all_n) (je_callT (b_tuple rfl) T.b_tuple (by decide +kernel) (ja_cons (je_var 3) ja_nil)))))))))⟩
theorem d_lowered {P : Program} {w : World} {K : PySem.W.Frag} {mg : Str → Option Value} {base : Heap} {cm : Nat → Addr} (T : TX P mg ⟨K, cm⟩) : Bp.Def P w K mg base 1 "lowered" ["labels", "arcs"] (spJ ⟨K, cm⟩ f_lowered) := jdef T.f_lowered c_lowered fun f cdv A outer s H E hr => (jss_cons (js_setCO 0 c_lowered.nd (je_listO (W := WD E) rfl (je_var 0) T.b_list))
      (jss_cons (js_setLcOl 2 0 [("_", 3)] c_lowered.nd (ji_seq rfl (je_var 0)) (blk_ok (N := ["labels", "arcs", "ways", "_", "place", "at", "tail", "head", "cost", "number"]) (sc := defScope s_lowered) (by decide +kernel)) (fun s H C cl fp => (jg_name 3 c_lowered.nd (by decide))) (fun s H C cl fp => jts_nil) (fun s H C cl fp => je_non) (sw_true rfl rfl rfl (by decide +kernel)))
      (jss_cons (js_set 4 c_lowered.nd je_non)
      (jss_cons (js_for (vs := [3]) (passes_of rfl) rfl (ji_rng1 T.b_range (ja_cons (je_lend 0 (je_callB (b_len rfl) T.b_len (by decide +kernel) (ja_cons (je_var 0) ja_nil))) ja_nil)) (jg_name 3 c_lowered.nd (by decide))
      (jss_cons (js_set 4 c_lowered.nd je_non)
      (jss_cons (js_for (vs := [5, 6, 7, 8]) (passes_of rfl) rfl (ji_enum rfl T.b_enumerate (je_var 1)) (jg_tup rfl rfl (jgs_cons (jg_name 5 c_lowered.nd (by decide)) (jgs_cons (jg_tup rfl rfl (jgs_cons (jg_name 6 c_lowered.nd (by decide)) (jgs_cons (jg_name 7 c_lowered.nd (by decide)) (jgs_cons (jg_name 8 c_lowered.nd (by decide)) jgs_nil)))) jgs_nil)))
      (jss_cons (js_if (jt_cmp o_isN (je_ixO 0 rfl (je_var 6)) je_non)
      (jss_one js_continue)
      jss_nil)
      (jss_cons (js_set 9 c_lowered.nd (je_op o_add (je_ixO 0 rfl (je_var 6)) (je_var 8)))
      (jss_one (js_if (jt_w (jw_or (jt_cmp o_isN (je_ixO 0 rfl (je_var 7)) je_non) (jw_or1 (jt_cmp o_lt (je_var 9) (je_ixO 0 rfl (je_var 7))))))
      (jss_cons (js_setIO 0 rfl (je_var 9) (je_var 7))
      (jss_cons (js_setIO 2 rfl (je_var 5) (je_var 7))
      (jss_one (js_set 4 c_lowered.nd (je_var 7)))))
      jss_nil)))))
      (jss_one (js_if (jt_cmp o_isN (je_var 4) je_non)
      (jss_one js_break)
      jss_nil)))))
      (jss_frz 2 (jss_frz 0 (jss_one (js_ret (je_tup (ja_cons (je_var 0) (ja_cons (je_var 2) (ja_cons (je_var 4) ja_nil))))))))))))
theorem d_way_to {P : Program} {w : World} {K : PySem.W.Frag} {mg : Str → Option Value} {base : Heap} {cm : Nat → Addr} (T : TX P mg ⟨K, cm⟩) : Bp.Def P w K mg base 1 "way_to" ["arcs", "ways", "place"] (spJ ⟨K, cm⟩ f_way_to) := jdef T.f_way_to c_way_to fun f cdv A outer s H E hr => (jss_cons (js_own 3 c_way_to.nd)
      (jss_cons (js_ownD 4 c_way_to.nd)
      (jss_cons (js_while (fuelN 20) (passes_of rfl) (jt_w (jw_and (jt_cmp o_notN (je_ix rfl (je_var 1) (je_var 2)) je_non) (jw_and1 (jt_ninOD 4 (hu_of hr) (je_var 2)))))
      (jss_cons (js_setD 4 (hu_of hr) je_bl (je_var 2))
      (jss_cons (js_app 3 (je_ix rfl (je_var 1) (je_var 2)))
      (jss_one (js_set 2 c_way_to.nd (je_ix rfl (je_ix rfl (je_var 0) (je_ix rfl (je_var 1) (je_var 2))) je_int))))))
      (jss_frz 3 (jss_one (js_ret (je_rev rfl (je_var 3))))))))
theorem d_ring_at {P : Program} {w : World} {K : PySem.W.Frag} {mg : Str → Option Value} {base : Heap} {cm : Nat → Addr} (T : TX P mg ⟨K, cm⟩) : Bp.Def P w K mg base 2 "ring_at" ["arcs", "ways", "place"] (spJ ⟨K, cm⟩ f_ring_at) := jdef T.f_ring_at c_ring_at fun f cdv A outer s H E hr => (jss_cons (js_for (vs := [3]) (passes_of rfl) rfl (ji_seq rfl (je_var 1)) (jg_name 3 c_ring_at.nd (by decide))
      (jss_one (js_set 2 c_ring_at.nd (je_ix rfl (je_ix rfl (je_var 0) (je_ix rfl (je_var 1) (je_var 2))) je_int))))
      (jss_one (js_ret (je_call (d_way_to T) (hr.mono (by decide)) (takes_of rfl rfl rfl rfl) (ja_cons (je_var 0) (ja_cons (je_var 1) (ja_cons (je_var 2) ja_nil)))))))
theorem d_heights {P : Program} {w : World} {K : PySem.W.Frag} {mg : Str → Option Value} {base : Heap} {cm : Nat → Addr} (T : TX P mg ⟨K, cm⟩) : Bp.Def P w K mg base 3 "heights" ["web"] (spJ ⟨K, cm⟩ f_heights) := jdef T.f_heights c_heights fun f cdv A outer s H E hr => (jss_cons (js_setLc 1 [("tail", 2), ("head", 3), ("_", 4), ("_", 4), ("cost", 5)] c_heights.nd (ji_seq rfl (je_fld (cs := [31]) rfl (all_c ⟨T.cl_Web, T.na_Web_edges⟩ all_n) (je_var 0))) (blk_ok (N := ["web", "arcs", "tail", "head", "_", "cost", "labels", "ways", "place"]) (sc := defScope s_heights) (by decide +kernel)) (fun s H C cl fp => (jg_tup rfl rfl (jgs_cons (jg_name 2 c_heights.nd (by decide)) (jgs_cons (jg_name 3 c_heights.nd (by decide)) (jgs_cons (jg_name 4 c_heights.nd (by decide)) (jgs_cons (jg_name 4 c_heights.nd (by decide)) (jgs_cons (jg_name 5 c_heights.nd (by decide)) jgs_nil))))))) (fun s H C cl fp => jts_nil) (fun s H C cl fp => (je_tup (ja_cons (je_var 2) (ja_cons (je_var 3) (ja_cons (je_var 5) ja_nil))))) (sw_true rfl rfl rfl (by decide +kernel)))
      (jss_cons (js_asg (vs := [6, 7, 8]) (je_call (d_lowered T) (hr.mono (by decide)) (takes_of rfl rfl rfl rfl) (ja_cons (je_lc [("_", 4)] c_heights.nd (ji_rng1 T.b_range (ja_cons (je_fld (cs := [31]) rfl (all_c ⟨T.cl_Web, T.na_Web_places⟩ all_n) (je_var 0)) ja_nil)) (blk_ok (N := ["web", "arcs", "tail", "head", "_", "cost", "labels", "ways", "place"]) (sc := defScope s_heights) (by decide +kernel)) (fun s H C cl fp => (jg_name 4 c_heights.nd (by decide))) (fun s H C cl fp => jts_nil) (fun s H C cl fp => je_int)) (ja_cons (je_var 1) ja_nil))) (jg_tup rfl rfl (jgs_cons (jg_name 6 c_heights.nd (by decide)) (jgs_cons (jg_name 7 c_heights.nd (by decide)) (jgs_cons (jg_name 8 c_heights.nd (by decide)) jgs_nil)))))
      (jss_cons (js_if (jt_cmp o_notN (je_var 8) je_non)
      (jss_one (js_ret (je_tup (ja_cons je_str (ja_cons (je_callT (b_tuple rfl) T.b_tuple (by decide +kernel) (ja_cons (je_call (d_ring_at T) (hr.mono (by decide)) (takes_of rfl rfl rfl rfl) (ja_cons (je_var 1) (ja_cons (je_var 7) (ja_cons (je_var 8) ja_nil)))) ja_nil)) ja_nil)))))
      jss_nil)
      (jss_one (js_ret (je_tup (ja_cons je_str (ja_cons (je_callT (b_tuple rfl) T.b_tuple (by decide +kernel) (ja_cons (je_var 6) ja_nil)) ja_nil))))))))
theorem d_law_ring {P : Program} {w : World} {K : PySem.W.Frag} {mg : Str → Option Value} {base : Heap} {cm : Nat → Addr} (T : TX P mg ⟨K, cm⟩) : Bp.Def P w K mg base 1 "_law_ring" ["places", "edges"] (spJ ⟨K, cm⟩ f_law_ring) := jdef T.f_law_ring c_law_ring fun f cdv A outer s H E hr => (jss_cons (js_setCO 2 c_law_ring.nd (je_repO (W := WD E) (ja_cons je_int ja_nil) (je_var 0)))
      (jss_cons (js_set 3 c_law_ring.nd je_bl)
      (jss_cons (js_for (vs := [4]) (passes_of rfl) rfl (ji_rng1 T.b_range (ja_cons (je_var 0) ja_nil)) (jg_name 4 c_law_ring.nd (by decide))
      (jss_cons (js_set 3 c_law_ring.nd je_bl)
      (jss_one (js_for (vs := [5]) (passes_of rfl) rfl (ji_seq rfl (je_var 1)) (jg_name 5 c_law_ring.nd (by decide))
      (jss_one (js_if (jt_cmp o_lt (je_op o_add (je_ixO 2 rfl (je_ix rfl (je_var 5) je_int)) (je_ix rfl (je_var 5) je_int)) (je_ixO 2 rfl (je_ix rfl (je_var 5) je_int)))
      (jss_cons (js_setIO 2 rfl (je_op o_add (je_ixO 2 rfl (je_ix rfl (je_var 5) je_int)) (je_ix rfl (je_var 5) je_int)) (je_ix rfl (je_var 5) je_int))
      (jss_one (js_set 3 c_law_ring.nd je_bl)))
      jss_nil))))))
      (jss_one (js_ret (je_var 3))))))
theorem d_law_ring_is {P : Program} {w : World} {K : PySem.W.Frag} {mg : Str → Option Value} {base : Heap} {cm : Nat → Addr} (T : TX P mg ⟨K, cm⟩) : Bp.Def P w K mg base 1 "_law_ring_is" ["told", "places", "edges"] (spJ ⟨K, cm⟩ f_law_ring_is) := jdef T.f_law_ring_is c_law_ring_is fun f cdv A outer s H E hr => (jss_cons (js_if (jt_w (jw_or (jt_cmp o_lt (je_callB (b_len rfl) T.b_len (by decide +kernel) (ja_cons (je_var 0) ja_nil)) je_int) (jw_or1 (jt_cmp o_gt (je_callB (b_len rfl) T.b_len (by decide +kernel) (ja_cons (je_var 0) ja_nil)) (je_var 1)))))
      (jss_one (js_ret je_bl))
      jss_nil)
      (jss_cons (js_for (vs := [3]) (passes_of rfl) rfl (ji_seq rfl (je_var 0)) (jg_name 3 c_law_ring_is.nd (by decide))
      (jss_one (js_if (jt_w (jw_or (jt_cmp o_lt (je_var 3) je_int) (jw_or1 (jt_cmp o_ge (je_var 3) (je_callB (b_len rfl) T.b_len (by decide +kernel) (ja_cons (je_var 2) ja_nil))))))
      (jss_one (js_ret je_bl))
      jss_nil)))
      (jss_cons (js_setCO 4 c_law_ring_is.nd (je_repO (W := WD E) (ja_cons je_int ja_nil) (je_var 1)))
      (jss_cons (js_set 5 c_law_ring_is.nd je_int)
      (jss_cons (js_for (vs := [6]) (passes_of rfl) rfl (ji_rng1 T.b_range (ja_cons (je_callB (b_len rfl) T.b_len (by decide +kernel) (ja_cons (je_var 0) ja_nil)) ja_nil)) (jg_name 6 c_law_ring_is.nd (by decide))
      (jss_cons (js_set 7 c_law_ring_is.nd (je_ix rfl (je_var 2) (je_ix rfl (je_var 0) (je_var 6))))
      (jss_cons (js_set 8 c_law_ring_is.nd (je_ix rfl (je_var 2) (je_ix rfl (je_var 0) (je_op o_mod (je_callT b_int T.b_int (by decide +kernel) (ja_cons (je_op o_add (je_var 6) je_int) ja_nil)) (je_callB (b_len rfl) T.b_len (by decide +kernel) (ja_cons (je_var 0) ja_nil))))))
      (jss_cons (js_if (jt_w (jw_or (jt_cmp o_ne (je_ix rfl (je_var 7) je_int) (je_ix rfl (je_var 8) je_int)) (jw_or1 (jt_cmp o_ne (je_ixO 4 rfl (je_ix rfl (je_var 7) je_int)) je_int))))
      (jss_one (js_ret je_bl))
      jss_nil)
      (jss_cons (js_setIO 4 rfl je_int (je_ix rfl (je_var 7) je_int))
      (jss_one (js_aug 5 c_law_ring_is.nd i_add (je_ix rfl (je_var 7) je_int))))))))
      (jss_one (js_ret (je_cmp o_lt (je_var 5) je_int))))))))
end J

namespace J
open PySem.Spec PySem PyProof.Rows
open L2 hiding St Takes XE CX takes_of PMk MkP ps_raise mk_of ps_try_as ps_try_many pmk_own passAt passes_call takes0 passL
open L2N hiding St
open Bp (takes0 passL OpS R2S IsI)
open Bp (s_lowered c_lowered s_way_to c_way_to s_ring_at c_ring_at s_BadCount_init c_BadCount_init s_WrongWidth_init c_WrongWidth_init s_check_count c_check_count s_check_width c_check_width s_NoPlace_init c_NoPlace_init s_BadEdge_init c_BadEdge_init s_BadSupply_init c_BadSupply_init s_Unbalanced_init c_Unbalanced_init s_check_place c_check_place s_is_amount c_is_amount s_is_edge c_is_edge s_check_edges c_check_edges s_check_supplies c_check_supplies s_Web_init c_Web_init s_heights c_heights s_law_cell c_law_cell s_law_edge c_law_edge s_law_ring c_law_ring s_law_recosted c_law_recosted s_law_free c_law_free s_law_ring_is c_law_ring_is s_law_heights_right c_law_heights_right s_law_integer_k81 c_law_integer_k81 s_law_made c_law_made s_law_with c_law_with s_law_edge_faults c_law_edge_faults s_law_edges_asked c_law_edges_asked s_law_supplies_asked c_law_supplies_asked s_law_counts_asked c_law_counts_asked s_law_plain c_law_plain s_law_k81 c_law_k81)
theorem d_law_heights_right {P : Program} {w : World} {K : PySem.W.Frag} {mg : Str → Option Value} {base : Heap} {cm : Nat → Addr} (T : TX P mg ⟨K, cm⟩) : Bp.Def P w K mg base 2 "_law_heights_right" ["told", "places", "edges"] (spJ ⟨K, cm⟩ f_law_heights_right) := jdef T.f_law_heights_right c_law_heights_right fun f cdv A outer s H E hr => (jss_cons (js_if (jt_w (jw_or (jt_not (jt_val (je_isi T.hit_tuple rfl T.b_isinstance (je_var 0) (pe_bltn (v := .ty "tuple") rfl T.b_tuple (by decide +kernel) rfl) (.ty _)))) (jw_or (jt_cmp o_ne (je_callB (b_len rfl) T.b_len (by decide +kernel) (ja_cons (je_var 0) ja_nil)) je_int) (jw_or1 (jt_not (jt_val (je_isi T.hit_tuple rfl T.b_isinstance (je_ix rfl (je_var 0) je_int) (pe_bltn (v := .ty "tuple") rfl T.b_tuple (by decide +kernel) rfl) (.ty _))))))))
      (jss_one (js_ret je_bl))
      jss_nil)
      (jss_cons (js_for (vs := [3]) (passes_of rfl) rfl (ji_seq rfl (je_ix rfl (je_var 0) je_int)) (jg_name 3 c_law_heights_right.nd (by decide))
      (jss_one (js_if (jt_w (jw_or (jt_val (je_isi T.hit_bool rfl T.b_isinstance (je_var 3) (pe_bltn (v := .ty "bool") rfl T.b_bool (by decide +kernel) rfl) (.ty _))) (jw_or1 (jt_not (jt_val (je_isi T.hit_int rfl T.b_isinstance (je_var 3) (pe_bltn (v := .ty "int") rfl T.b_int (by decide +kernel) rfl) (.ty _)))))))
      (jss_one (js_ret je_bl))
      jss_nil)))
      (jss_cons (js_if (jt_val (je_call (d_law_ring T) (hr.mono (by decide)) (takes_of rfl rfl rfl rfl) (ja_cons (je_var 1) (ja_cons (je_var 2) ja_nil))))
      (jss_one (js_ret (je_and (je_cmp o_eq (je_ix rfl (je_var 0) je_int) je_str) (je_one (je_call (d_law_ring_is T) (hr.mono (by decide)) (takes_of rfl rfl rfl rfl) (ja_cons (je_ix rfl (je_var 0) je_int) (ja_cons (je_var 1) (ja_cons (je_var 2) ja_nil))))))))
      jss_nil)
      (jss_cons (js_if (jt_w (jw_or (jt_cmp o_ne (je_ix rfl (je_var 0) je_int) je_str) (jw_or1 (jt_cmp o_ne (je_callB (b_len rfl) T.b_len (by decide +kernel) (ja_cons (je_ix rfl (je_var 0) je_int) ja_nil)) (je_var 1)))))
      (jss_one (js_ret je_bl))
      jss_nil)
      (jss_cons (js_for (vs := [4]) (passes_of rfl) rfl (ji_seq rfl (je_var 2)) (jg_name 4 c_law_heights_right.nd (by decide))
      (jss_one (js_if (jt_cmp o_lt (je_op o_add (je_ix rfl (je_ix rfl (je_var 0) je_int) (je_ix rfl (je_var 4) je_int)) (je_ix rfl (je_var 4) je_int)) (je_ix rfl (je_ix rfl (je_var 0) je_int) (je_ix rfl (je_var 4) je_int)))
      (jss_one (js_ret je_bl))
      jss_nil)))
      (jss_one (js_ret je_bl)))))))
theorem d_law_edge_faults {P : Program} {w : World} {K : PySem.W.Frag} {mg : Str → Option Value} {base : Heap} {cm : Nat → Addr} (T : TX P mg ⟨K, cm⟩) : Bp.Def P w K mg base 1 "_law_edge_faults" ["places", "edges", "spot", "odd"] (spJ ⟨K, cm⟩ f_law_edge_faults) := jdef T.f_law_edge_faults c_law_edge_faults fun f cdv A outer s H E hr => (jss_cons (js_set 4 c_law_edge_faults.nd (je_ix rfl (je_ix rfl (je_var 1) (je_var 2)) je_int))
      (jss_cons (js_set 5 c_law_edge_faults.nd (je_ix rfl (je_ix rfl (je_var 1) (je_var 2)) je_int))
      (jss_cons (js_set 6 c_law_edge_faults.nd (je_ix rfl (je_ix rfl (je_var 1) (je_var 2)) je_int))
      (jss_cons (js_set 7 c_law_edge_faults.nd (je_ix rfl (je_ix rfl (je_var 1) (je_var 2)) je_int))
      (jss_cons (js_set 8 c_law_edge_faults.nd (je_ix rfl (je_ix rfl (je_var 1) (je_var 2)) je_int))
      (jss_cons (js_setCO 9 c_law_edge_faults.nd (je_lstO (W := WD E) (ja_cons (je_tup (ja_cons (je_tup (ja_cons (je_var 3) (ja_cons (je_var 5) (ja_cons (je_var 6) (ja_cons (je_var 7) (ja_cons (je_var 8) ja_nil)))))) (ja_cons (je_tup (ja_cons je_str (ja_cons (je_var 3) ja_nil))) ja_nil))) ja_nil)))
      (jss_cons (js_app 9 (je_tup (ja_cons (je_tup (ja_cons (je_var 4) (ja_cons (je_var 3) (ja_cons (je_var 6) (ja_cons (je_var 7) (ja_cons (je_var 8) ja_nil)))))) (ja_cons (je_tup (ja_cons je_str (ja_cons (je_var 3) ja_nil))) ja_nil))))
      (jss_cons (js_app 9 (je_tup (ja_cons (je_tup (ja_cons (je_un u_neg je_int) (ja_cons (je_var 3) (ja_cons (je_var 6) (ja_cons (je_var 7) (ja_cons (je_var 8) ja_nil)))))) (ja_cons (je_tup (ja_cons je_str (ja_cons (je_un u_neg je_int) ja_nil))) ja_nil))))
      (jss_cons (js_app 9 (je_tup (ja_cons (je_tup (ja_cons (je_var 3) (ja_cons (je_var 3) (ja_cons (je_un u_neg je_int) (ja_cons je_int (ja_cons je_int ja_nil)))))) (ja_cons (je_tup (ja_cons je_str (ja_cons (je_var 3) ja_nil))) ja_nil))))
      (jss_cons (js_app 9 (je_tup (ja_cons (je_tup (ja_cons (je_var 4) (ja_cons (je_var 3) (ja_cons je_int (ja_cons je_int (ja_cons (je_un u_neg je_int) ja_nil)))))) (ja_cons (je_tup (ja_cons je_str (ja_cons (je_var 3) ja_nil))) ja_nil))))
      (jss_cons (js_app 9 (je_tup (ja_cons (je_tup (ja_cons (je_var 4) (ja_cons (je_var 4) (ja_cons (je_var 6) (ja_cons (je_var 7) (ja_cons (je_var 8) ja_nil)))))) (ja_cons (je_tup (ja_cons je_str (ja_cons (je_var 2) ja_nil))) ja_nil))))
      (jss_cons (js_app 9 (je_tup (ja_cons (je_tup (ja_cons (je_var 4) (ja_cons (je_var 5) (ja_cons (je_un u_neg je_int) (ja_cons (je_var 7) (ja_cons (je_var 8) ja_nil)))))) (ja_cons (je_tup (ja_cons je_str (ja_cons (je_var 2) ja_nil))) ja_nil))))
      (jss_cons (js_app 9 (je_tup (ja_cons (je_tup (ja_cons (je_var 4) (ja_cons (je_var 5) (ja_cons je_int (ja_cons je_non (ja_cons (je_var 8) ja_nil)))))) (ja_cons (je_tup (ja_cons je_str (ja_cons (je_var 2) ja_nil))) ja_nil))))
      (jss_cons (js_app 9 (je_tup (ja_cons (je_tup (ja_cons (je_var 4) (ja_cons (je_var 5) (ja_cons je_int (ja_cons je_int (ja_cons (je_var 8) ja_nil)))))) (ja_cons (je_tup (ja_cons je_str (ja_cons (je_var 2) ja_nil))) ja_nil))))
      (jss_cons (js_app 9 (je_tup (ja_cons (je_tup (ja_cons (je_var 4) (ja_cons (je_var 5) (ja_cons (je_var 6) (ja_cons (je_op o_sub (je_var 6) je_int) (ja_cons (je_var 8) ja_nil)))))) (ja_cons (je_tup (ja_cons je_str (ja_cons (je_var 2) ja_nil))) ja_nil))))
      (jss_cons (js_app 9 (je_tup (ja_cons (je_tup (ja_cons (je_var 4) (ja_cons (je_var 5) (ja_cons je_int (ja_cons je_int (ja_cons (je_var 8) ja_nil)))))) (ja_cons (je_tup (ja_cons je_str (ja_cons (je_var 2) ja_nil))) ja_nil))))
      (jss_cons (js_app 9 (je_tup (ja_cons (je_tup (ja_cons (je_var 4) (ja_cons (je_var 5) (ja_cons je_int (ja_cons je_int (ja_cons (je_var 8) ja_nil)))))) (ja_cons (je_tup (ja_cons je_str (ja_cons (je_var 2) ja_nil))) ja_nil))))
      (jss_cons (js_app 9 (je_tup (ja_cons (je_tup (ja_cons (je_var 4) (ja_cons (je_var 5) (ja_cons (je_var 6) (ja_cons je_int (ja_cons (je_var 8) ja_nil)))))) (ja_cons (je_tup (ja_cons je_str (ja_cons (je_var 2) ja_nil))) ja_nil))))
      (jss_cons (js_app 9 (je_tup (ja_cons (je_tup (ja_cons (je_var 4) (ja_cons (je_var 5) (ja_cons (je_var 6) (ja_cons (je_var 7) (ja_cons je_int ja_nil)))))) (ja_cons (je_tup (ja_cons je_str (ja_cons (je_var 2) ja_nil))) ja_nil))))
      (jss_cons (js_app 9 (je_tup (ja_cons (je_tup (ja_cons (je_var 4) (ja_cons (je_var 5) (ja_cons (je_var 6) (ja_cons (je_var 7) (ja_cons (je_un u_neg je_int) ja_nil)))))) (ja_cons (je_tup (ja_cons je_str (ja_cons (je_var 2) ja_nil))) ja_nil))))
      (jss_cons (js_app 9 (je_tup (ja_cons (je_tup (ja_cons (je_var 4) (ja_cons (je_var 5) (ja_cons je_int (ja_cons je_int (ja_cons je_int ja_nil)))))) (ja_cons (je_tup (ja_cons je_str (ja_cons je_int ja_nil))) ja_nil))))
      (jss_cons (js_app 9 (je_tup (ja_cons (je_tup (ja_cons (je_var 4) (ja_cons (je_var 5) (ja_cons je_int (ja_cons je_non (ja_cons (je_un u_neg je_int) ja_nil)))))) (ja_cons (je_tup (ja_cons je_str (ja_cons je_int ja_nil))) ja_nil))))
      (jss_cons (js_app 9 (je_tup (ja_cons (je_tup (ja_cons (je_var 4) (ja_cons (je_var 5) (ja_cons je_int (ja_cons je_int (ja_cons je_int ja_nil)))))) (ja_cons (je_tup (ja_cons je_str (ja_cons je_int ja_nil))) ja_nil))))
      (jss_cons (js_app 9 (je_tup (ja_cons (je_tup (ja_cons (je_var 5) (ja_cons (je_var 4) (ja_cons je_int (ja_cons je_int (ja_cons (je_un u_neg je_int) ja_nil)))))) (ja_cons (je_tup (ja_cons je_str (ja_cons je_int ja_nil))) ja_nil))))
      (jss_frz 9 (jss_one (js_ret (je_var 9))))))))))))))))))))))))))))
theorem d_law_with {P : Program} {w : World} {K : PySem.W.Frag} {mg : Str → Option Value} {base : Heap} {cm : Nat → Addr} (T : TX P mg ⟨K, cm⟩) : Bp.Def P w K mg base 1 "_law_with" ["rows", "spot", "row"] (spJ ⟨K, cm⟩ f_law_with) := jdef T.f_law_with c_law_with fun f cdv A outer s H E hr => (jss_cons (js_setCO 3 c_law_with.nd (je_listO (W := WD E) rfl (je_var 0) T.b_list))
      (jss_cons (js_setIO 3 rfl (je_var 2) (je_var 1))
      (jss_frz 3 (jss_one (js_ret (je_var 3))))))
theorem sNotEq_A {cm : Nat → Addr} {X : Cx} {W : WX} (T : TX X.prog X.mg ⟨X.K, cm⟩) (hr : Room 0 X.A) (tk : Takes X W) : OpJ (gA X.K cm) X W (compareOp .NotEq) qNotEq_A := (o_neA rfl (hu64_of hr))
theorem d_law_integer_k81 {P : Program} {w : World} {K : PySem.W.Frag} {mg : Str → Option Value} {base : Heap} {cm : Nat → Addr} (T : TX P mg ⟨K, cm⟩) : Bp.Def P w K mg base 1 "_law_integer" ["number"] (spJ ⟨K, cm⟩ f_law_integer_k81) := jdef T.f_law_integer_k81 c_law_integer_k81 fun f cdv A outer s H E hr => (jss_cons (js_if (jt_w (jw_or (jt_val (je_isi T.hit_bool rfl T.b_isinstance (je_var 0) (pe_bltn (v := .ty "bool") rfl T.b_bool (by decide +kernel) rfl) (.ty _))) (jw_or1 (jt_not (jt_val (je_isi T.hit_int rfl T.b_isinstance (je_var 0) (pe_bltn (v := .ty "int") rfl T.b_int (by decide +kernel) rfl) (.ty _)))))))
      (jss_one (js_ret je_non))
      jss_nil)
      (jss_one (js_ret (je_var 0))))
theorem dh_law_integer_k81 {P : Program} {w : World} {K : PySem.W.Frag} {mg : Str → Option Value} {base : Heap} {cm : Nat → Addr} (T : TX P mg ⟨K, cm⟩) : DefH P w K mg base 1 "_law_integer" ["number"] (spJ ⟨K, cm⟩ f_law_integer_k81) := jdefH T.f_law_integer_k81 c_law_integer_k81 fun f cdv A outer s H E p hot hr => (jss_cons (js_if (jt_w (jw_or (jt_val (je_isi T.hit_bool rfl T.b_isinstance (je_var 0) (pe_bltn (v := .ty "bool") rfl T.b_bool (by decide +kernel) rfl) (.ty _))) (jw_or1 (jt_not (jt_val (je_isi T.hit_int rfl T.b_isinstance (je_var 0) (pe_bltn (v := .ty "int") rfl T.b_int (by decide +kernel) rfl) (.ty _)))))))
      (jss_one (js_ret je_non))
      jss_nil)
      (jss_one (js_ret (je_var 0))))
theorem d_law_made {P : Program} {w : World} {K : PySem.W.Frag} {mg : Str → Option Value} {base : Heap} {cm : Nat → Addr} (T : TX P mg ⟨K, cm⟩) : Bp.Def P w K mg base 7 "_law_made" ["places", "edges", "supplies"] (spJ ⟨K, cm⟩ f_law_made) := jdef T.f_law_made c_law_made fun f cdv A outer s H E hr => (jss_cons (js_try (cat := cat_BestError_w) 3 rfl rfl rfl c_law_made.nd ⟨rfl, by decide, .inl T.g_BestError⟩ (takes_of rfl rfl rfl rfl) T.hcat_BestError_w (fun W' pn xe tk pw => (jss_one (js_expr (je_make (ds := []) (d_Web_init T) rfl (fun _ => .nil) (hr.mono (by decide)) tk (ja_cons (je_var 0) (ja_cons (je_var 1) (ja_cons (je_var 2) ja_nil)))))))
      (fun a oe cls d pn hz hf => (jss_cons (js_set 4 c_law_made.nd (je_lst (ja_cons (je_isx (G := gA K cm) (tb := xt_is_BadCount_w) 3 hz hf T.hxt_is_BadCount_w rfl T.b_isinstance (pe_glob (v := .ref (cm 4)) rfl T.g_BadCount rfl) (.own _)) (ja_cons (je_isx (G := gA K cm) (tb := xt_is_NoPlace_w) 3 hz hf T.hxt_is_NoPlace_w rfl T.b_isinstance (pe_glob (v := .ref (cm 32)) rfl T.g_NoPlace rfl) (.own _)) ja_nil))))
      (jss_cons (js_set 4 c_law_made.nd (je_op (o_catL rfl) (je_var 4) (je_lst (ja_cons (je_isx (G := gA K cm) (tb := xt_is_BadEdge_w) 3 hz hf T.hxt_is_BadEdge_w rfl T.b_isinstance (pe_glob (v := .ref (cm 33)) rfl T.g_BadEdge rfl) (.own _)) (ja_cons (je_isx (G := gA K cm) (tb := xt_is_WrongWidth_w) 3 hz hf T.hxt_is_WrongWidth_w rfl T.b_isinstance (pe_glob (v := .ref (cm 14)) rfl T.g_WrongWidth rfl) (.own _)) ja_nil)))))
      (jss_cons (js_set 4 c_law_made.nd (je_op (o_catL rfl) (je_var 4) (je_lst (ja_cons (je_isx (G := gA K cm) (tb := xt_is_BadSupply_w) 3 hz hf T.hxt_is_BadSupply_w rfl T.b_isinstance (pe_glob (v := .ref (cm 34)) rfl T.g_BadSupply rfl) (.own _)) (ja_cons (je_isx (G := gA K cm) (tb := xt_is_Unbalanced_w) 3 hz hf T.hxt_is_Unbalanced_w rfl T.b_isinstance (pe_glob (v := .ref (cm 35)) rfl T.g_Unbalanced rfl) (.own _)) ja_nil)))))
      (jss_cons (js_if (jt_w (jw_or (jt_cmp o_ne (je_count rfl (je_var 4) je_bl) je_int) (jw_or1 (jt_not (jt_val (je_isx (G := gA K cm) (tb := xt_is_ValueError_w) 3 hz hf T.hxt_is_ValueError_w rfl T.b_isinstance (pe_bltn (v := .ty "ValueError") rfl T.b_ValueError (by decide +kernel) rfl) (.ty _)))))))
      (jss_one (js_ret (je_tup (ja_cons je_str (ja_cons je_int ja_nil)))))
      jss_nil)
      (jss_cons (js_if (jt_tru (je_ix rfl (je_var 4) je_int) rfl)
      (jss_one (js_ret (je_tup (ja_cons (je_fldx (G := gA K cm) (cs := [4]) 3 hz hf rfl (all_c ⟨T.xf_BadCount, T.nx_BadCount_what⟩ all_n)) (ja_cons (je_callH (dh_law_integer_k81 T) (L2H.roomH_mark (hr.mono (by decide)) _) (hot_suite hz hf) takes0 (ja_cons (je_fldx (G := gA K cm) (cs := [4]) 3 hz hf rfl (all_c ⟨T.xf_BadCount, T.nx_BadCount_many⟩ all_n)) ja_nil)) ja_nil)))))
      jss_nil)
      (jss_cons (js_if (jt_tru (je_ix rfl (je_var 4) je_int) rfl)
      (jss_one (js_ret (je_tup (ja_cons je_str (ja_cons (je_callH (dh_law_integer_k81 T) (L2H.roomH_mark (hr.mono (by decide)) _) (hot_suite hz hf) takes0 (ja_cons (je_fldx (G := gA K cm) (cs := [32, 34]) 3 hz hf rfl (all_c ⟨T.xf_NoPlace, T.nx_NoPlace_place⟩ (all_c ⟨T.xf_BadSupply, T.nx_BadSupply_place⟩ all_n))) ja_nil)) ja_nil)))))
      jss_nil)
      (jss_cons (js_if (jt_tru (je_ix rfl (je_var 4) je_int) rfl)
      (jss_one (js_ret (je_tup (ja_cons je_str (ja_cons (je_callH (dh_law_integer_k81 T) (L2H.roomH_mark (hr.mono (by decide)) _) (hot_suite hz hf) takes0 (ja_cons (je_fldx (G := gA K cm) (cs := [33]) 3 hz hf rfl (all_c ⟨T.xf_BadEdge, T.nx_BadEdge_at⟩ all_n)) ja_nil)) ja_nil)))))
      jss_nil)
      (jss_cons (js_if (jt_tru (je_ix rfl (je_var 4) je_int) rfl)
      (jss_one (js_ret (je_tup (ja_cons je_str (ja_cons (je_callH (dh_law_integer_k81 T) (L2H.roomH_mark (hr.mono (by decide)) _) (hot_suite hz hf) takes0 (ja_cons (je_fldx (G := gA K cm) (cs := [14]) 3 hz hf rfl (all_c ⟨T.xf_WrongWidth, T.nx_WrongWidth_have⟩ all_n)) ja_nil)) (ja_cons (je_callH (dh_law_integer_k81 T) (L2H.roomH_mark (hr.mono (by decide)) _) (hot_suite hz hf) takes0 (ja_cons (je_fldx (G := gA K cm) (cs := [14]) 3 hz hf rfl (all_c ⟨T.xf_WrongWidth, T.nx_WrongWidth_need⟩ all_n)) ja_nil)) ja_nil))))))
      jss_nil)
      (jss_cons (js_if (jt_tru (je_ix rfl (je_var 4) je_int) rfl)
      (jss_one (js_ret (je_tup (ja_cons je_str (ja_cons (je_callH (dh_law_integer_k81 T) (L2H.roomH_mark (hr.mono (by decide)) _) (hot_suite hz hf) takes0 (ja_cons (je_fldx (G := gA K cm) (cs := [32, 34]) 3 hz hf rfl (all_c ⟨T.xf_NoPlace, T.nx_NoPlace_place⟩ (all_c ⟨T.xf_BadSupply, T.nx_BadSupply_place⟩ all_n))) ja_nil)) ja_nil)))))
      jss_nil)
      (jss_one (js_ret (je_tup (ja_cons je_str (ja_cons (je_callH (dh_law_integer_k81 T) (L2H.roomH_mark (hr.mono (by decide)) _) (hot_suite hz hf) takes0 (ja_cons (je_fldx (G := gA K cm) (cs := [35]) 3 hz hf rfl (all_c ⟨T.xf_Unbalanced, T.nx_Unbalanced_total⟩ all_n)) ja_nil)) ja_nil))))))))))))))))
      (jss_one (js_ret (je_tup (ja_cons je_str (ja_cons je_int ja_nil))))))
theorem d_law_edges_asked {P : Program} {w : World} {K : PySem.W.Frag} {mg : Str → Option Value} {base : Heap} {cm : Nat → Addr} (T : TX P mg ⟨K, cm⟩) : Bp.Def P w K mg base 8 "_law_edges_asked" ["places", "edges", "supplies", "spot", "odd"] (spJ ⟨K, cm⟩ f_law_edges_asked) := jdef T.f_law_edges_asked c_law_edges_asked fun f cdv A outer s H E hr => (jss_cons (js_for (vs := [5]) (passes_of rfl) rfl (ji_seq rfl (je_call (d_law_edge_faults T) (hr.mono (by decide)) (takes_of rfl rfl rfl rfl) (ja_cons (je_var 0) (ja_cons (je_var 1) (ja_cons (je_var 3) (ja_cons (je_var 4) ja_nil)))))) (jg_name 5 c_law_edges_asked.nd (by decide))
      (jss_cons (js_set 6 c_law_edges_asked.nd (je_call (d_law_with T) (hr.mono (by decide)) (takes_of rfl rfl rfl rfl) (ja_cons (je_var 1) (ja_cons (je_var 3) (ja_cons (je_ix rfl (je_var 5) je_int) ja_nil)))))
      (jss_cons (js_if (jt_cmp (sNotEq_A T (hr.mono (by decide)) (takes_of rfl rfl rfl rfl)) (je_call (d_law_made T) (hr.mono (by decide)) (takes_of rfl rfl rfl rfl) (ja_cons (je_var 0) (ja_cons (je_var 6) (ja_cons (je_var 2) ja_nil)))) (je_ix rfl (je_var 5) je_int))
      (jss_one (js_ret je_bl))
      jss_nil)
      (jss_one (js_if (jt_w (jw_and (jt_cmp (sNotEq_A T (hr.mono (by decide)) (takes_of rfl rfl rfl rfl)) (je_ix rfl (je_var 5) je_int) (je_tup (ja_cons je_str (ja_cons je_int ja_nil)))) (jw_and1 (jt_cmp (sNotEq_A T (hr.mono (by decide)) (takes_of rfl rfl rfl rfl)) (je_call (d_law_made T) (hr.mono (by decide)) (takes_of rfl rfl rfl rfl) (ja_cons (je_var 0) (ja_cons (je_var 6) (ja_cons (je_lst ja_nil) ja_nil)))) (je_ix rfl (je_var 5) je_int)))))
      (jss_one (js_ret je_bl))
      jss_nil)))))
      (jss_cons (js_set 7 c_law_edges_asked.nd (je_op o_sub (je_callB (b_len rfl) T.b_len (by decide +kernel) (ja_cons (je_var 1) ja_nil)) je_int))
      (jss_cons (js_if (jt_cmp o_lt (je_var 3) (je_var 7))
      (jss_cons (js_set 8 c_law_edges_asked.nd (je_tup (ja_cons (je_ix rfl (je_ix rfl (je_var 1) (je_var 3)) je_int) (ja_cons (je_ix rfl (je_ix rfl (je_var 1) (je_var 3)) je_int) (ja_cons je_int (ja_cons je_int (ja_cons je_int ja_nil)))))))
      (jss_cons (js_set 6 c_law_edges_asked.nd (je_call (d_law_with T) (hr.mono (by decide)) (takes_of rfl rfl rfl rfl) (ja_cons (je_call (d_law_with T) (hr.mono (by decide)) (takes_of rfl rfl rfl rfl) (ja_cons (je_var 1) (ja_cons (je_var 7) (ja_cons (je_tup (ja_cons (je_var 4) (ja_cons (je_var 4) (ja_cons je_int (ja_cons je_int (ja_cons je_int ja_nil)))))) ja_nil)))) (ja_cons (je_var 3) (ja_cons (je_var 8) ja_nil)))))
      (jss_cons (js_if (jt_cmp (sNotEq_A T (hr.mono (by decide)) (takes_of rfl rfl rfl rfl)) (je_call (d_law_made T) (hr.mono (by decide)) (takes_of rfl rfl rfl rfl) (ja_cons (je_var 0) (ja_cons (je_var 6) (ja_cons (je_var 2) ja_nil)))) (je_tup (ja_cons je_str (ja_cons (je_var 3) ja_nil))))
      (jss_one (js_ret je_bl))
      jss_nil)
      (jss_cons (js_set 6 c_law_edges_asked.nd (je_call (d_law_with T) (hr.mono (by decide)) (takes_of rfl rfl rfl rfl) (ja_cons (je_call (d_law_with T) (hr.mono (by decide)) (takes_of rfl rfl rfl rfl) (ja_cons (je_var 1) (ja_cons (je_var 7) (ja_cons (je_tup (ja_cons je_int (ja_cons je_int (ja_cons je_int (ja_cons je_int (ja_cons je_int ja_nil)))))) ja_nil)))) (ja_cons (je_var 3) (ja_cons (je_tup (ja_cons (je_var 4) (ja_cons je_int (ja_cons je_int (ja_cons je_int (ja_cons je_int ja_nil)))))) ja_nil)))))
      (jss_one (js_if (jt_cmp (sNotEq_A T (hr.mono (by decide)) (takes_of rfl rfl rfl rfl)) (je_call (d_law_made T) (hr.mono (by decide)) (takes_of rfl rfl rfl rfl) (ja_cons (je_var 0) (ja_cons (je_var 6) (ja_cons (je_var 2) ja_nil)))) (je_tup (ja_cons je_str (ja_cons (je_var 4) ja_nil))))
      (jss_one (js_ret je_bl))
      jss_nil))))))
      jss_nil)
      (jss_one (js_ret je_bl)))))
end J

namespace J
open PySem.Spec PySem PyProof.Rows
open L2 hiding St Takes XE CX takes_of PMk MkP ps_raise mk_of ps_try_as ps_try_many pmk_own passAt passes_call takes0 passL
open L2N hiding St
open Bp (takes0 passL OpS R2S IsI)
open Bp (s_lowered c_lowered s_way_to c_way_to s_ring_at c_ring_at s_BadCount_init c_BadCount_init s_WrongWidth_init c_WrongWidth_init s_check_count c_check_count s_check_width c_check_width s_NoPlace_init c_NoPlace_init s_BadEdge_init c_BadEdge_init s_BadSupply_init c_BadSupply_init s_Unbalanced_init c_Unbalanced_init s_check_place c_check_place s_is_amount c_is_amount s_is_edge c_is_edge s_check_edges c_check_edges s_check_supplies c_check_supplies s_Web_init c_Web_init s_heights c_heights s_law_cell c_law_cell s_law_edge c_law_edge s_law_ring c_law_ring s_law_recosted c_law_recosted s_law_free c_law_free s_law_ring_is c_law_ring_is s_law_heights_right c_law_heights_right s_law_integer_k81 c_law_integer_k81 s_law_made c_law_made s_law_with c_law_with s_law_edge_faults c_law_edge_faults s_law_edges_asked c_law_edges_asked s_law_supplies_asked c_law_supplies_asked s_law_counts_asked c_law_counts_asked s_law_plain c_law_plain s_law_k81 c_law_k81)
theorem sEq_A {cm : Nat → Addr} {X : Cx} {W : WX} (T : TX X.prog X.mg ⟨X.K, cm⟩) (hr : Room 0 X.A) (tk : Takes X W) : OpJ (gA X.K cm) X W (compareOp .Eq) qEq_A := (o_eqA rfl (hu64_of hr))
theorem d_law_supplies_asked {P : Program} {w : World} {K : PySem.W.Frag} {mg : Str → Option Value} {base : Heap} {cm : Nat → Addr} (T : TX P mg ⟨K, cm⟩) : Bp.Def P w K mg base 8 "_law_supplies_asked" ["places", "edges", "supplies", "spot", "odd"] (spJ ⟨K, cm⟩ f_law_supplies_asked) := jdef T.f_law_supplies_asked c_law_supplies_asked fun f cdv A outer s H E hr => (jss_cons (js_set 5 c_law_supplies_asked.nd (je_slice rfl (je_var 2) jo_none (jo_some (je_op o_sub (je_var 0) je_int))))
      (jss_cons (js_if (jt_cmp (sNotEq_A T (hr.mono (by decide)) (takes_of rfl rfl rfl rfl)) (je_call (d_law_made T) (hr.mono (by decide)) (takes_of rfl rfl rfl rfl) (ja_cons (je_var 0) (ja_cons (je_var 1) (ja_cons (je_var 5) ja_nil)))) (je_tup (ja_cons je_str (ja_cons (je_op o_sub (je_var 0) je_int) (ja_cons (je_var 0) ja_nil)))))
      (jss_one (js_ret je_bl))
      jss_nil)
      (jss_cons (js_if (jt_cmp (sNotEq_A T (hr.mono (by decide)) (takes_of rfl rfl rfl rfl)) (je_call (d_law_made T) (hr.mono (by decide)) (takes_of rfl rfl rfl rfl) (ja_cons (je_var 0) (ja_cons (je_var 1) (ja_cons (je_op (o_catL rfl) (je_lst (ja_cons je_int ja_nil)) (je_var 2)) ja_nil)))) (je_tup (ja_cons je_str (ja_cons (je_op o_add (je_var 0) je_int) (ja_cons (je_var 0) ja_nil)))))
      (jss_one (js_ret je_bl))
      jss_nil)
      (jss_cons (js_set 6 c_law_supplies_asked.nd (je_call (d_law_with T) (hr.mono (by decide)) (takes_of rfl rfl rfl rfl) (ja_cons (je_var 2) (ja_cons (je_op o_sub (je_var 0) je_int) (ja_cons je_int ja_nil)))))
      (jss_cons (js_for (vs := [7]) (passes_of rfl) rfl (ji_seq rfl (je_lst (ja_cons je_int (ja_cons (je_un u_neg je_int) ja_nil)))) (jg_name 7 c_law_supplies_asked.nd (by decide))
      (jss_cons (js_set 8 c_law_supplies_asked.nd (je_call (d_law_with T) (hr.mono (by decide)) (takes_of rfl rfl rfl rfl) (ja_cons (je_var 6) (ja_cons (je_var 3) (ja_cons (je_var 7) ja_nil)))))
      (jss_one (js_if (jt_cmp (sNotEq_A T (hr.mono (by decide)) (takes_of rfl rfl rfl rfl)) (je_call (d_law_made T) (hr.mono (by decide)) (takes_of rfl rfl rfl rfl) (ja_cons (je_var 0) (ja_cons (je_var 1) (ja_cons (je_var 8) ja_nil)))) (je_tup (ja_cons je_str (ja_cons (je_var 3) ja_nil))))
      (jss_one (js_ret je_bl))
      jss_nil))))
      (jss_cons (js_set 9 c_law_supplies_asked.nd (je_call (d_law_with T) (hr.mono (by decide)) (takes_of rfl rfl rfl rfl) (ja_cons (je_var 2) (ja_cons (je_var 3) (ja_cons (je_op o_add (je_ix rfl (je_var 2) (je_var 3)) (je_var 4)) ja_nil)))))
      (jss_cons (js_if (jt_cmp (sNotEq_A T (hr.mono (by decide)) (takes_of rfl rfl rfl rfl)) (je_call (d_law_made T) (hr.mono (by decide)) (takes_of rfl rfl rfl rfl) (ja_cons (je_var 0) (ja_cons (je_var 1) (ja_cons (je_var 9) ja_nil)))) (je_tup (ja_cons je_str (ja_cons (je_var 4) ja_nil))))
      (jss_one (js_ret je_bl))
      jss_nil)
      (jss_cons (js_setCO 10 c_law_supplies_asked.nd (je_repO (W := WD E) (ja_cons je_int ja_nil) (je_var 0)))
      (jss_cons (js_setIO 10 rfl je_int (je_var 3))
      (jss_cons (js_setIO 10 rfl (je_un u_neg je_int) (je_op o_mod (je_callT b_int T.b_int (by decide +kernel) (ja_cons (je_op o_add (je_var 3) je_int) ja_nil)) (je_var 0)))
      (jss_frz 10 (jss_one (js_ret (je_cmp (sEq_A T (hr.mono (by decide)) (takes_of rfl rfl rfl rfl)) (je_call (d_law_made T) (hr.mono (by decide)) (takes_of rfl rfl rfl rfl) (ja_cons (je_var 0) (ja_cons (je_var 1) (ja_cons (je_var 10) ja_nil)))) (je_tup (ja_cons je_str (ja_cons je_int ja_nil)))))))))))))))))
theorem d_law_counts_asked {P : Program} {w : World} {K : PySem.W.Frag} {mg : Str → Option Value} {base : Heap} {cm : Nat → Addr} (T : TX P mg ⟨K, cm⟩) : Bp.Def P w K mg base 8 "_law_counts_asked" ["places", "edges", "supplies"] (spJ ⟨K, cm⟩ f_law_counts_asked) := jdef T.f_law_counts_asked c_law_counts_asked fun f cdv A outer s H E hr => (jss_cons (js_for (vs := [3]) (passes_of rfl) rfl (ji_seq rfl (je_lst (ja_cons je_int (ja_cons je_int (ja_cons je_int (ja_cons je_int (ja_cons (je_un u_neg je_int) ja_nil))))))) (jg_name 3 c_law_counts_asked.nd (by decide))
      (jss_cons (js_if (jt_cmp (sNotEq_A T (hr.mono (by decide)) (takes_of rfl rfl rfl rfl)) (je_call (d_law_made T) (hr.mono (by decide)) (takes_of rfl rfl rfl rfl) (ja_cons (je_var 3) (ja_cons (je_var 1) (ja_cons (je_var 2) ja_nil)))) (je_tup (ja_cons je_str (ja_cons (je_var 3) ja_nil))))
      (jss_one (js_ret je_bl))
      jss_nil)
      (jss_one (js_if (jt_cmp (sNotEq_A T (hr.mono (by decide)) (takes_of rfl rfl rfl rfl)) (je_call (d_law_made T) (hr.mono (by decide)) (takes_of rfl rfl rfl rfl) (ja_cons (je_var 3) (ja_cons (je_lst ja_nil) (ja_cons (je_lst ja_nil) ja_nil)))) (je_tup (ja_cons je_str (ja_cons (je_var 3) ja_nil))))
      (jss_one (js_ret je_bl))
      jss_nil))))
      (jss_cons (js_if (jt_cmp (sNotEq_A T (hr.mono (by decide)) (takes_of rfl rfl rfl rfl)) (je_call (d_law_made T) (hr.mono (by decide)) (takes_of rfl rfl rfl rfl) (ja_cons (je_var 0) (ja_cons (je_lst ja_nil) (ja_cons (je_lst ja_nil) ja_nil)))) (je_tup (ja_cons je_str (ja_cons je_int ja_nil))))
      (jss_one (js_ret je_bl))
      jss_nil)
      (jss_cons (js_setLc 4 [("k", 5)] c_law_counts_asked.nd (ji_rng1 T.b_range (ja_cons je_int ja_nil)) (blk_ok (N := ["places", "edges", "supplies", "many", "rows", "k"]) (sc := defScope s_law_counts_asked) (by decide +kernel)) (fun s H C cl fp => (jg_name 5 c_law_counts_asked.nd (by decide))) (fun s H C cl fp => jts_nil) (fun s H C cl fp => (je_ix rfl (je_var 1) (je_op o_mod (je_callT b_int T.b_int (by decide +kernel) (ja_cons (je_var 5) ja_nil)) (je_callB (b_len rfl) T.b_len (by decide +kernel) (ja_cons (je_var 1) ja_nil))))) (sw_true rfl rfl rfl (by decide +kernel)))
      (jss_cons (js_if (jt_cmp (sNotEq_A T (hr.mono (by decide)) (takes_of rfl rfl rfl rfl)) (je_call (d_law_made T) (hr.mono (by decide)) (takes_of rfl rfl rfl rfl) (ja_cons (je_var 0) (ja_cons (je_var 4) (ja_cons (je_var 2) ja_nil)))) (je_tup (ja_cons je_str (ja_cons je_int ja_nil))))
      (jss_one (js_ret je_bl))
      jss_nil)
      (jss_cons (js_set 4 c_law_counts_asked.nd (je_call (d_law_with T) (hr.mono (by decide)) (takes_of rfl rfl rfl rfl) (ja_cons (je_var 4) (ja_cons je_int (ja_cons (je_tup (ja_cons (je_var 0) (ja_cons je_int (ja_cons je_int (ja_cons je_int (ja_cons je_int ja_nil)))))) ja_nil)))))
      (jss_cons (js_if (jt_cmp (sNotEq_A T (hr.mono (by decide)) (takes_of rfl rfl rfl rfl)) (je_call (d_law_made T) (hr.mono (by decide)) (takes_of rfl rfl rfl rfl) (ja_cons (je_var 0) (ja_cons (je_var 4) (ja_cons (je_lst (ja_cons je_int ja_nil)) ja_nil)))) (je_tup (ja_cons je_str (ja_cons je_int ja_nil))))
      (jss_one (js_ret je_bl))
      jss_nil)
      (jss_one (js_ret (je_cmp (sEq_A T (hr.mono (by decide)) (takes_of rfl rfl rfl rfl)) (je_call (d_law_made T) (hr.mono (by decide)) (takes_of rfl rfl rfl rfl) (ja_cons (je_var 0) (ja_cons (je_slice rfl (je_var 4) (jo_some je_int) jo_none) (ja_cons (je_var 2) ja_nil)))) (je_tup (ja_cons je_str (ja_cons je_int ja_nil))))))))))))
theorem d_law_plain {P : Program} {w : World} {K : PySem.W.Frag} {mg : Str → Option Value} {base : Heap} {cm : Nat → Addr} (T : TX P mg ⟨K, cm⟩) : Bp.Def P w K mg base 2 "_law_plain" ["told", "due"] (spJ ⟨K, cm⟩ f_law_plain) := jdef T.f_law_plain c_law_plain fun f cdv A outer s H E hr => (jss_cons (js_if (jt_w (jw_or (jt_not (jt_val (je_isi T.hit_tuple rfl T.b_isinstance (je_var 0) (pe_bltn (v := .ty "tuple") rfl T.b_tuple (by decide +kernel) rfl) (.ty _)))) (jw_or1 (jt_cmp (sNotEq_A T (hr.mono (by decide)) (takes_of rfl rfl rfl rfl)) (je_callB (b_len rfl) T.b_len (by decide +kernel) (ja_cons (je_var 0) ja_nil)) (je_callB (b_len rfl) T.b_len (by decide +kernel) (ja_cons (je_var 1) ja_nil))))))
      (jss_one (js_ret je_bl))
      jss_nil)
      (jss_cons (js_for (vs := [2]) (passes_of rfl) rfl (ji_rng1 T.b_range (ja_cons (je_callB (b_len rfl) T.b_len (by decide +kernel) (ja_cons (je_var 1) ja_nil)) ja_nil)) (jg_name 2 c_law_plain.nd (by decide))
      (jss_cons (js_if (jt_w (jw_and (jt_cmp o_notN (je_ix rfl (je_var 0) (je_var 2)) je_non) (jw_and1 (jt_cmp o_isN (je_call (d_law_integer_k81 T) (hr.mono (by decide)) (takes_of rfl rfl rfl rfl) (ja_cons (je_ix rfl (je_var 0) (je_var 2)) ja_nil)) je_non))))
      (jss_one (js_ret je_bl))
      jss_nil)
      (jss_one (js_if (jt_cmp (sNotEq_A T (hr.mono (by decide)) (takes_of rfl rfl rfl rfl)) (je_ix rfl (je_var 0) (je_var 2)) (je_ix rfl (je_var 1) (je_var 2)))
      (jss_one (js_ret je_bl))
      jss_nil))))
      (jss_one (js_ret je_bl))))
end J


namespace J
open PySem.Spec PySem PyProof.Rows
open L2 hiding St Takes XE CX takes_of PMk MkP ps_raise mk_of ps_try_as ps_try_many pmk_own passAt passes_call takes0 passL
open L2N hiding St
open Bp (takes0 passL OpS R2S IsI)
open Bp (s_lowered c_lowered s_way_to c_way_to s_ring_at c_ring_at s_BadCount_init c_BadCount_init s_WrongWidth_init c_WrongWidth_init s_check_count c_check_count s_check_width c_check_width s_NoPlace_init c_NoPlace_init s_BadEdge_init c_BadEdge_init s_BadSupply_init c_BadSupply_init s_Unbalanced_init c_Unbalanced_init s_check_place c_check_place s_is_amount c_is_amount s_is_edge c_is_edge s_check_edges c_check_edges s_check_supplies c_check_supplies s_Web_init c_Web_init s_heights c_heights s_law_cell c_law_cell s_law_edge c_law_edge s_law_ring c_law_ring s_law_recosted c_law_recosted s_law_free c_law_free s_law_ring_is c_law_ring_is s_law_heights_right c_law_heights_right s_law_integer_k81 c_law_integer_k81 s_law_made c_law_made s_law_with c_law_with s_law_edge_faults c_law_edge_faults s_law_edges_asked c_law_edges_asked s_law_supplies_asked c_law_supplies_asked s_law_counts_asked c_law_counts_asked s_law_plain c_law_plain s_law_k81 c_law_k81)
theorem jdefX {P : Program} {w : World} {K : PySem.W.Frag} {mg : Str → Option Value} {base : Heap} {G : Gb} {x : Str} {st : Stmt} {ps N : List Str} {k : Nat} {d : Env → F} {ff : Addr} {fd : FuncData} (FF : L2.Fun K x x st ff fd) (S : FnScope N ps (defScope st))
    (h : ∀ (f : Addr) (cdv : Value) (A : Around) (outer : List PySem.Env) (s : Shared) (H : Hp) (E : XK), Room k (A.deeper (envOfC x (defScope st) s.heap.objs.size f cdv)) → JSs ⟨G, none, none, none⟩ (cxOf (L2N.CX P w) P w K mg base N x (defScope st) f cdv A outer s H E) (WD E) (defBody st) d) :
    FnOk P w K mg base (L2N.CX P w) (k + 1) ff fd ps (spJ G (fnJ ps.length N.length d)) := Bp.okN FF S len_ok fun cdv A outer s H vs Q E hr q => body_ok (h ff cdv A outer s H E hr) q
theorem d_law_at {P : Program} {w : World} {K : PySem.W.Frag} {mg : Str → Option Value} {base : Heap} {cm : Nat → Addr} (T : TX P mg ⟨K, cm⟩) {ff : Addr} {fd : FuncData} (FF : L2.Fun K "law" "law" s_law_k81 ff fd) : FnOk P w K mg base (L2N.CX P w) 9 ff fd ["script"] (spJ ⟨K, cm⟩ f_law_k81) := jdefX FF c_law_k81 fun f cdv A outer s H E hr => (jss_cons (js_set 0 c_law_k81.nd (je_slice rfl (je_var 0) jo_none (jo_some je_int)))
      (jss_cons (js_set 1 c_law_k81.nd (je_call (d_law_cell T) (hr.mono (by decide)) (takes_of rfl rfl rfl rfl) (ja_cons (je_var 0) (ja_cons je_int ja_nil))))
      (jss_cons (js_set 2 c_law_k81.nd (je_op o_mul je_int (je_op o_mod (je_callT b_int T.b_int (by decide +kernel) (ja_cons (je_var 1) ja_nil)) je_int)))
      (jss_cons (js_set 3 c_law_k81.nd (je_ix rfl (je_lst (ja_cons je_int (ja_cons je_int (ja_cons je_int (ja_cons je_int (ja_cons je_int (ja_cons je_int (ja_cons je_int ja_nil)))))))) (je_op o_mod (je_callT b_int T.b_int (by decide +kernel) (ja_cons (je_op o_fdiv (je_var 1) je_int) ja_nil)) je_int)))
      (jss_cons (js_set 4 c_law_k81.nd (je_ix rfl (je_lst (ja_cons je_int (ja_cons je_int (ja_cons je_int (ja_cons je_int (ja_cons je_int (ja_cons je_int (ja_cons je_int (ja_cons je_int ja_nil))))))))) (je_op o_mod (je_callT b_int T.b_int (by decide +kernel) (ja_cons (je_op o_fdiv (je_var 1) je_int) ja_nil)) je_int)))
      (jss_cons (js_own 5 c_law_k81.nd)
      (jss_cons (js_for (vs := [6]) (passes_of rfl) rfl (ji_rng1 T.b_range (ja_cons (je_var 4) ja_nil)) (jg_name 6 c_law_k81.nd (by decide))
      (jss_one (js_app 5 (je_call (d_law_edge T) (hr.mono (by decide)) (takes_of rfl rfl rfl rfl) (ja_cons (je_call (d_law_cell T) (hr.mono (by decide)) (takes_of rfl rfl rfl rfl) (ja_cons (je_var 0) (ja_cons (je_op o_add je_int (je_var 6)) ja_nil))) (ja_cons (je_var 6) (ja_cons (je_var 3) ja_nil)))))))
      (jss_frz 5 (jss_cons (js_setCO 5 c_law_k81.nd (je_callO (do_law_recosted T) (hr.mono (by decide)) (takes_of rfl rfl rfl rfl) (ja_cons (je_var 5) (ja_cons (je_var 2) ja_nil))))
      (jss_cons (js_set 7 c_law_k81.nd (je_call (d_law_free T) (hr.mono (by decide)) (takes_of rfl rfl rfl rfl) (ja_cons (je_var 0) (ja_cons (je_var 3) ja_nil))))
      (jss_frz 5 (jss_cons (js_setCO 8 c_law_k81.nd (je_listO (W := WD E) rfl (je_var 5) T.b_list))
      (jss_cons (js_setCO 9 c_law_k81.nd (je_listO (W := WD E) rfl (je_var 7) T.b_list))
      (jss_cons (js_set 10 c_law_k81.nd (je_make (ds := []) (d_Web_init T) rfl (fun _ => .nil) (hr.mono (by decide)) (takes_of rfl rfl rfl rfl) (ja_cons (je_var 3) (ja_cons (je_var 5) (ja_cons (je_var 7) ja_nil)))))
      (jss_cons (js_if (jt_not (jt_val (je_call (d_law_heights_right T) (hr.mono (by decide)) (takes_of rfl rfl rfl rfl) (ja_cons (je_call (d_heights T) (hr.mono (by decide)) (takes_of rfl rfl rfl rfl) (ja_cons (je_var 10) ja_nil)) (ja_cons (je_var 3) (ja_cons (je_var 5) ja_nil))))))
      (jss_one (js_ret je_bl))
      jss_nil)
      (jss_cons (js_setLc 11 [("edge", 12)] c_law_k81.nd (ji_seq rfl (je_var 5)) (blk_ok (N := ["script", "cell", "shift", "places", "many", "edges", "k", "supplies", "kept", "needs", "web", "blank", "edge", "bare", "turned", "other", "odd", "spot", "at"]) (sc := defScope s_law_k81) (by decide +kernel)) (fun s H C cl fp => (jg_name 12 c_law_k81.nd (by decide))) (fun s H C cl fp => jts_nil) (fun s H C cl fp => (je_tup (ja_cons (je_ix rfl (je_var 12) je_int) (ja_cons (je_ix rfl (je_var 12) je_int) (ja_cons je_int (ja_cons je_int (ja_cons (je_ix rfl (je_var 12) je_int) ja_nil))))))) (sw_true rfl rfl rfl (by decide +kernel)))
      (jss_cons (js_set 13 c_law_k81.nd (je_make (ds := []) (d_Web_init T) rfl (fun _ => .nil) (hr.mono (by decide)) (takes_of rfl rfl rfl rfl) (ja_cons (je_var 3) (ja_cons (je_var 11) (ja_cons (je_ofO (je_repO (W := WD E) (ja_cons je_int ja_nil) (je_var 3))) ja_nil)))))
      (jss_cons (js_if (jt_not (jt_val (je_call (d_law_heights_right T) (hr.mono (by decide)) (takes_of rfl rfl rfl rfl) (ja_cons (je_call (d_heights T) (hr.mono (by decide)) (takes_of rfl rfl rfl rfl) (ja_cons (je_var 13) ja_nil)) (ja_cons (je_var 3) (ja_cons (je_var 5) ja_nil))))))
      (jss_one (js_ret je_bl))
      jss_nil)
      (jss_cons (js_own 14 c_law_k81.nd)
      (jss_cons (js_for (vs := [12]) (passes_of rfl) rfl (ji_seq rfl (je_var 5)) (jg_name 12 c_law_k81.nd (by decide))
      (jss_one (js_app 14 (je_tup (ja_cons (je_ix rfl (je_var 12) je_int) (ja_cons (je_ix rfl (je_var 12) je_int) (ja_cons je_int (ja_cons je_non (ja_cons (je_un u_neg (je_ix rfl (je_var 12) je_int)) ja_nil)))))))))
      (jss_frz 14 (jss_cons (js_set 15 c_law_k81.nd (je_make (ds := []) (d_Web_init T) rfl (fun _ => .nil) (hr.mono (by decide)) (takes_of rfl rfl rfl rfl) (ja_cons (je_var 3) (ja_cons (je_var 14) (ja_cons (je_ofO (je_repO (W := WD E) (ja_cons je_int ja_nil) (je_var 3))) ja_nil)))))
      (jss_cons (js_if (jt_not (jt_val (je_call (d_law_heights_right T) (hr.mono (by decide)) (takes_of rfl rfl rfl rfl) (ja_cons (je_call (d_heights T) (hr.mono (by decide)) (takes_of rfl rfl rfl rfl) (ja_cons (je_var 15) ja_nil)) (ja_cons (je_var 3) (ja_cons (je_var 14) ja_nil))))))
      (jss_one (js_ret je_bl))
      jss_nil)
      (jss_cons (js_if (jt_not (jt_val (je_call (d_law_heights_right T) (hr.mono (by decide)) (takes_of rfl rfl rfl rfl) (ja_cons (je_call (d_heights T) (hr.mono (by decide)) (takes_of rfl rfl rfl rfl) (ja_cons (je_var 10) ja_nil)) (ja_cons (je_var 3) (ja_cons (je_var 5) ja_nil))))))
      (jss_one (js_ret je_bl))
      jss_nil)
      (jss_cons (js_set 1 c_law_k81.nd (je_call (d_law_cell T) (hr.mono (by decide)) (takes_of rfl rfl rfl rfl) (ja_cons (je_var 0) (ja_cons je_int ja_nil))))
      (jss_cons (js_set 16 c_law_k81.nd (je_ix rfl (je_lst (ja_cons (je_un u_neg je_int) (ja_cons (je_var 3) (ja_cons (je_op o_add (je_var 3) je_int) (ja_cons (je_un u_neg (je_var 3)) ja_nil))))) (je_op o_mod (je_callT b_int T.b_int (by decide +kernel) (ja_cons (je_var 1) ja_nil)) je_int)))
      (jss_cons (js_set 17 c_law_k81.nd (je_op o_mod (je_callT b_int T.b_int (by decide +kernel) (ja_cons (je_op o_fdiv (je_var 1) je_int) ja_nil)) (je_var 4)))
      (jss_cons (js_set 18 c_law_k81.nd (je_op o_mod (je_callT b_int T.b_int (by decide +kernel) (ja_cons (je_op o_fdiv (je_var 1) je_int) ja_nil)) (je_var 3)))
      (jss_cons (js_if (jt_not (jt_val (je_call (d_law_edges_asked T) (hr.mono (by decide)) (takes_of rfl rfl rfl rfl) (ja_cons (je_var 3) (ja_cons (je_var 5) (ja_cons (je_var 7) (ja_cons (je_var 17) (ja_cons (je_var 16) ja_nil))))))))
      (jss_one (js_ret je_bl))
      jss_nil)
      (jss_cons (js_if (jt_not (jt_val (je_call (d_law_supplies_asked T) (hr.mono (by decide)) (takes_of rfl rfl rfl rfl) (ja_cons (je_var 3) (ja_cons (je_var 5) (ja_cons (je_var 7) (ja_cons (je_var 18) (ja_cons (je_var 16) ja_nil))))))))
      (jss_one (js_ret je_bl))
      jss_nil)
      (jss_cons (js_if (jt_not (jt_val (je_call (d_law_counts_asked T) (hr.mono (by decide)) (takes_of rfl rfl rfl rfl) (ja_cons (je_var 3) (ja_cons (je_var 5) (ja_cons (je_var 7) ja_nil))))))
      (jss_one (js_ret je_bl))
      jss_nil)
      (jss_frz 8 (jss_cons (js_if (jt_w (jw_or (jt_cmp (sNotEq_A T (hr.mono (by decide)) (takes_of rfl rfl rfl rfl)) (je_call (d_law_integer_k81 T) (hr.mono (by decide)) (takes_of rfl rfl rfl rfl) (ja_cons (je_fld (cs := [31]) rfl (all_c ⟨T.cl_Web, T.na_Web_places⟩ all_n) (je_var 10)) ja_nil)) (je_var 3)) (jw_or1 (jt_cmp (sNotEq_A T (hr.mono (by decide)) (takes_of rfl rfl rfl rfl)) (je_fld (cs := [31]) rfl (all_c ⟨T.cl_Web, T.na_Web_edges⟩ all_n) (je_var 10)) (je_callT (b_tuple rfl) T.b_tuple (by decide +kernel) (ja_cons (je_var 8) ja_nil))))))
      (jss_one (js_ret je_bl))
      jss_nil)
      (jss_cons (js_for (vs := [6]) (passes_of rfl) rfl (ji_rng1 T.b_range (ja_cons (je_var 4) ja_nil)) (jg_name 6 c_law_k81.nd (by decide))
      (jss_one (js_if (jt_not (jt_val (je_call (d_law_plain T) (hr.mono (by decide)) (takes_of rfl rfl rfl rfl) (ja_cons (je_ix rfl (je_fld (cs := [31]) rfl (all_c ⟨T.cl_Web, T.na_Web_edges⟩ all_n) (je_var 10)) (je_var 6)) (ja_cons (je_ix rfl (je_var 8) (je_var 6)) ja_nil)))))
      (jss_one (js_ret je_bl))
      jss_nil)))
      (jss_frz 9 (jss_one (js_ret (je_and (je_cmp (sEq_A T (hr.mono (by decide)) (takes_of rfl rfl rfl rfl)) (je_var 5) (je_var 8)) (je_and (je_cmp (sEq_A T (hr.mono (by decide)) (takes_of rfl rfl rfl rfl)) (je_var 7) (je_var 9)) (je_one (je_call (d_law_plain T) (hr.mono (by decide)) (takes_of rfl rfl rfl rfl) (ja_cons (je_fld (cs := [31]) rfl (all_c ⟨T.cl_Web, T.na_Web_supplies⟩ all_n) (je_var 10)) (ja_cons (je_var 9) ja_nil)))))))))))))))))))))))))))))))))))))))))))
end J

namespace J
open PySem.Spec PySem PyProof.Rows
open L2 hiding St Takes XE CX takes_of PMk MkP ps_raise mk_of ps_try_as ps_try_many pmk_own passAt passes_call takes0 passL
open L2N hiding St
open Bp (takes0 passL OpS R2S IsI com com_ne com_le num_com den_com pow_le)
end J

namespace J
open PySem.Spec PySem PyProof.Rows
open L2 hiding St Takes XE CX takes_of PMk MkP ps_raise mk_of ps_try_as ps_try_many pmk_own passAt passes_call takes0 passL
open L2N hiding St
open Bp (takes0 passL OpS R2S IsI)

theorem e_cat_BestError_w {p : Nat → Bool → Prop} (h0 : p (4) true) (h1 : p (14) true) (h2 : p (32) true) (h3 : p (33) true) (h4 : p (34) true) (h5 : p (35) true) : ∀ k b, cat_BestError_w k = some b → p k b := by
  intro k b h
  unfold cat_BestError_w at h
  split at h
  · cases h; exact h0
  · cases h; exact h1
  · cases h; exact h2
  · cases h; exact h3
  · cases h; exact h4
  · cases h; exact h5
  · cases h

theorem e_xt_is_BadCount_w {p : Nat → Bool → Prop} (h0 : p (4) true) (h1 : p (14) false) (h2 : p (32) false) (h3 : p (33) false) (h4 : p (34) false) (h5 : p (35) false) : ∀ k b, xt_is_BadCount_w k = some b → p k b := by
  intro k b h
  unfold xt_is_BadCount_w at h
  split at h
  · cases h; exact h0
  · cases h; exact h1
  · cases h; exact h2
  · cases h; exact h3
  · cases h; exact h4
  · cases h; exact h5
  · cases h

theorem e_xt_is_NoPlace_w {p : Nat → Bool → Prop} (h0 : p (4) false) (h1 : p (14) false) (h2 : p (32) true) (h3 : p (33) false) (h4 : p (34) false) (h5 : p (35) false) : ∀ k b, xt_is_NoPlace_w k = some b → p k b := by
  intro k b h
  unfold xt_is_NoPlace_w at h
  split at h
  · cases h; exact h0
  · cases h; exact h1
  · cases h; exact h2
  · cases h; exact h3
  · cases h; exact h4
  · cases h; exact h5
  · cases h

theorem e_xt_is_BadEdge_w {p : Nat → Bool → Prop} (h0 : p (4) false) (h1 : p (14) false) (h2 : p (32) false) (h3 : p (33) true) (h4 : p (34) false) (h5 : p (35) false) : ∀ k b, xt_is_BadEdge_w k = some b → p k b := by
  intro k b h
  unfold xt_is_BadEdge_w at h
  split at h
  · cases h; exact h0
  · cases h; exact h1
  · cases h; exact h2
  · cases h; exact h3
  · cases h; exact h4
  · cases h; exact h5
  · cases h

theorem e_xt_is_WrongWidth_w {p : Nat → Bool → Prop} (h0 : p (4) false) (h1 : p (14) true) (h2 : p (32) false) (h3 : p (33) false) (h4 : p (34) false) (h5 : p (35) false) : ∀ k b, xt_is_WrongWidth_w k = some b → p k b := by
  intro k b h
  unfold xt_is_WrongWidth_w at h
  split at h
  · cases h; exact h0
  · cases h; exact h1
  · cases h; exact h2
  · cases h; exact h3
  · cases h; exact h4
  · cases h; exact h5
  · cases h

theorem e_xt_is_BadSupply_w {p : Nat → Bool → Prop} (h0 : p (4) false) (h1 : p (14) false) (h2 : p (32) false) (h3 : p (33) false) (h4 : p (34) true) (h5 : p (35) false) : ∀ k b, xt_is_BadSupply_w k = some b → p k b := by
  intro k b h
  unfold xt_is_BadSupply_w at h
  split at h
  · cases h; exact h0
  · cases h; exact h1
  · cases h; exact h2
  · cases h; exact h3
  · cases h; exact h4
  · cases h; exact h5
  · cases h

theorem e_xt_is_Unbalanced_w {p : Nat → Bool → Prop} (h0 : p (4) false) (h1 : p (14) false) (h2 : p (32) false) (h3 : p (33) false) (h4 : p (34) false) (h5 : p (35) true) : ∀ k b, xt_is_Unbalanced_w k = some b → p k b := by
  intro k b h
  unfold xt_is_Unbalanced_w at h
  split at h
  · cases h; exact h0
  · cases h; exact h1
  · cases h; exact h2
  · cases h; exact h3
  · cases h; exact h4
  · cases h; exact h5
  · cases h

theorem e_xt_is_ValueError_w {p : Nat → Bool → Prop} (h0 : p (4) true) (h1 : p (14) true) (h2 : p (32) true) (h3 : p (33) true) (h4 : p (34) true) (h5 : p (35) true) : ∀ k b, xt_is_ValueError_w k = some b → p k b := by
  intro k b h
  unfold xt_is_ValueError_w at h
  split at h
  · cases h; exact h0
  · cases h; exact h1
  · cases h; exact h2
  · cases h; exact h3
  · cases h; exact h4
  · cases h; exact h5
  · cases h

theorem e_it_int_w {p : Kd → Bool → Prop} (h0 : p (.non) false) (h1 : p (.bl) true) (h2 : p (.int) true) (h3 : p (.str) false) (h4 : p (.tup) false) (h5 : p (.lst) false) : ∀ k b, it_int_w k = some b → p k b := by
  intro k b h
  unfold it_int_w at h
  split at h
  · cases h; exact h0
  · cases h; exact h1
  · cases h; exact h2
  · cases h; exact h3
  · cases h; exact h4
  · cases h; exact h5
  · cases h

theorem e_it_tuple_w {p : Kd → Bool → Prop} (h0 : p (.non) false) (h1 : p (.bl) false) (h2 : p (.int) false) (h3 : p (.str) false) (h4 : p (.tup) true) (h5 : p (.lst) false) : ∀ k b, it_tuple_w k = some b → p k b := by
  intro k b h
  unfold it_tuple_w at h
  split at h
  · cases h; exact h0
  · cases h; exact h1
  · cases h; exact h2
  · cases h; exact h3
  · cases h; exact h4
  · cases h; exact h5
  · cases h

theorem e_it_bool_w {p : Kd → Bool → Prop} (h0 : p (.non) false) (h1 : p (.bl) true) (h2 : p (.int) false) (h3 : p (.str) false) (h4 : p (.tup) false) (h5 : p (.lst) false) : ∀ k b, it_bool_w k = some b → p k b := by
  intro k b h
  unfold it_bool_w at h
  split at h
  · cases h; exact h0
  · cases h; exact h1
  · cases h; exact h2
  · cases h; exact h3
  · cases h; exact h4
  · cases h; exact h5
  · cases h

theorem e_it_int_wo {p : Nat → Prop}  : ∀ c b, it_int_w (.obj c) = some b → p c := by
  intro c b h
  unfold it_int_w at h
  split at h <;> first | (rename_i e; cases e; assumption) | (rename_i e; cases e) | cases h

theorem e_it_tuple_wo {p : Nat → Prop}  : ∀ c b, it_tuple_w (.obj c) = some b → p c := by
  intro c b h
  unfold it_tuple_w at h
  split at h <;> first | (rename_i e; cases e; assumption) | (rename_i e; cases e) | cases h

theorem e_it_bool_wo {p : Nat → Prop}  : ∀ c b, it_bool_w (.obj c) = some b → p c := by
  intro c b h
  unfold it_bool_w at h
  split at h <;> first | (rename_i e; cases e; assumption) | (rename_i e; cases e) | cases h

def cmOf (a1 a4 a14 a31 a32 a33 a34 a35 : Addr) : Nat → Addr := fun i => match i with | 1 => a1 | 4 => a4 | 14 => a14 | 31 => a31 | 32 => a32 | 33 => a33 | 34 => a34 | 35 => a35 | _ => a1
def spLaw (K : PySem.W.Frag) : Sp := fun vs H Q _ => ∃ (a : Addr) (ns : List Int), vs = [.ref a] ∧ SqL K H a (ns.map V.int) ∧ ∀ H', Q (.bl true) H'
theorem rep_ints {G : Gb} {H : Hp} (ns : List Int) : Reps G H (ns.map PV.int) (ns.map V.int) := by
  induction ns with
  | nil => exact .nil
  | cons n r h => exact .cons (.int n) h
theorem law_sp {G : Gb} {vs : List V} {H : Hp} {Q : VK} {E : XK} (h : spLaw G.K vs H Q E) : spJ G f_law_k81 vs H Q E := by
  obtain ⟨a, ns, rfl, hs, q⟩ := h
  refine ⟨H, [scr ns], Same.refl _, .cons (.lst hs (rep_ints ns)) .nil, ?_⟩
  rw [law_true_k81 ns]
  intro v Hf' H' g r
  cases r
  exact q H'
theorem fn_mono {P : Program} {w : World} {K : PySem.W.Frag} {mg : Str → Option Value} {base : Heap} {CXt : CXT} {k : Nat} {f : Addr} {fd : FuncData} {ps : List Str} {sp sp' : Sp} (F : FnOk P w K mg base CXt k f fd ps sp) (h : ∀ vs H Q E, sp' vs H Q E → sp vs H Q E) : FnOk P w K mg base CXt k f fd ps sp' :=
  ⟨fun vs H Q E z => F.len vs H Q E (h _ _ _ _ z), fun A outer s H args us vs Q E r e b v z => F.run A outer s H args us vs Q E r e b v (h _ _ _ _ z)⟩

theorem all_mk {P : Program} {w : World} {K : PySem.W.Frag} {h : Heap} {mg : Str → Option Value} {fa : Addr} (X : K.In h) (G : h.Ns mainGlobals mg) (hfa : mg "law" = some (.ref fa))
    {A1 A4 A14 A31 A32 A33 A34 A35 : Addr}
    {f0 : Addr} {fd0 : FuncData}
    {f1 : Addr} {fd1 : FuncData}
    {f2 : Addr} {fd2 : FuncData}
    {f3 : Addr} {fd3 : FuncData}
    {f4 : Addr} {fd4 : FuncData}
    {f5 : Addr} {fd5 : FuncData}
    {f6 : Addr} {fd6 : FuncData}
    {f7 : Addr} {fd7 : FuncData}
    {f8 : Addr} {fd8 : FuncData}
    {f9 : Addr} {fd9 : FuncData}
    {f10 : Addr} {fd10 : FuncData}
    {f11 : Addr} {fd11 : FuncData}
    {f12 : Addr} {fd12 : FuncData}
    {f13 : Addr} {fd13 : FuncData}
    {f14 : Addr} {fd14 : FuncData}
    {f15 : Addr} {fd15 : FuncData}
    {f16 : Addr} {fd16 : FuncData}
    {f17 : Addr} {fd17 : FuncData}
    {f18 : Addr} {fd18 : FuncData}
    {f19 : Addr} {fd19 : FuncData}
    {f20 : Addr} {fd20 : FuncData}
    {f21 : Addr} {fd21 : FuncData}
    {f22 : Addr} {fd22 : FuncData}
    {f23 : Addr} {fd23 : FuncData}
    {f24 : Addr} {fd24 : FuncData}
    {f25 : Addr} {fd25 : FuncData}
    {f26 : Addr} {fd26 : FuncData}
    {f27 : Addr} {fd27 : FuncData}
    {f28 : Addr} {fd28 : FuncData}
    {f29 : Addr} {fd29 : FuncData}
    {f30 : Addr} {fd30 : FuncData}
    {f31 : Addr} {fd31 : FuncData}
    {f32 : Addr} {fd32 : FuncData}
    {f33 : Addr} {fd33 : FuncData}
    (q0 : PySem.W.nsIn K mainGlobals "BestError" = some (some (.ref A1)))
    (q1 : PySem.W.nsIn K mainGlobals "BadCount" = some (some (.ref A4)))
    (q2 : PySem.W.nsIn K mainGlobals "WrongWidth" = some (some (.ref A14)))
    (q3 : PySem.W.nsIn K mainGlobals "Web" = some (some (.ref A31)))
    (q4 : PySem.W.nsIn K mainGlobals "NoPlace" = some (some (.ref A32)))
    (q5 : PySem.W.nsIn K mainGlobals "BadEdge" = some (some (.ref A33)))
    (q6 : PySem.W.nsIn K mainGlobals "BadSupply" = some (some (.ref A34)))
    (q7 : PySem.W.nsIn K mainGlobals "Unbalanced" = some (some (.ref A35)))
    (q8 : PySem.W.nsIn K mainGlobals "len" = some none)
    (q9 : PySem.W.nsIn K mainGlobals "int" = some none)
    (F0 : L2.Fun K "_law_cell" "_law_cell" Bp.s_law_cell f0 fd0)
    (q10 : PySem.W.nsIn K mainGlobals "_law_cell" = some (some (.ref f0)))
    (q11 : PySem.W.nsIn K mainGlobals "range" = some none)
    (F1 : L2.Fun K "_law_edge" "_law_edge" Bp.s_law_edge f1 fd1)
    (q12 : PySem.W.nsIn K mainGlobals "_law_edge" = some (some (.ref f1)))
    (q13 : PySem.W.nsIn K mainGlobals "abs" = some none)
    (F2 : L2.Fun K "_law_recosted" "_law_recosted" Bp.s_law_recosted f2 fd2)
    (q14 : PySem.W.nsIn K mainGlobals "_law_recosted" = some (some (.ref f2)))
    (q15 : PySem.W.nsIn K mainGlobals "sum" = some none)
    (F3 : L2.Fun K "_law_free" "_law_free" Bp.s_law_free f3 fd3)
    (q16 : PySem.W.nsIn K mainGlobals "_law_free" = some (some (.ref f3)))
    (q17 : PySem.W.nsIn K mainGlobals "list" = some none)
    (q18 : ∃ t, PySem.W.nsIn K mainGlobals "LEAST_PLACES" = some (some (.int 2 t)))
    (q19 : ∃ t, PySem.W.nsIn K mainGlobals "MOST_PLACES" = some (some (.int 8 t)))
    (F4 : L2.Fun K "__init__" "BadCount.__init__" Bp.s_BadCount_init f4 fd4)
    (q20 : ∃ nm q N bs bm sn sub ab col dd k0 k1 k2 k3 k5, K.lookup A4 = some (excClassObj nm q A4 N bs bm true sn sub ab col dd k0 k1 k2 k3 k5 "ValueError.__new__") ∧ PySem.HandSPX.refsVE bm = true)
    (q21 : PySem.W.findIn K (.ref A4) "__setattr__" = some (some (.builtin "object.__setattr__")))
    (q22 : PySem.W.subIn K (.ref A4) (.type "BaseException") = some true)
    (q23 : PySem.W.typeIn K (.ref A4) = some (.type "type"))
    (q24 : PySem.W.keepIn K (.ref A4) = true)
    (q25 : PySem.W.findIn K (.ref A4) "__init__" = some (some (.ref f4)))
    (q26 : PySem.W.typeIn K (.ref f4) = some (.type "function"))
    (q27 : PySem.W.findIn K (.ref A4) "what" = some none)
    (q28 : PySem.W.findIn K (.ref A4) "many" = some none)
    (F5 : L2.Fun K "check_count" "check_count" Bp.s_check_count f5 fd5)
    (q29 : PySem.W.nsIn K mainGlobals "check_count" = some (some (.ref f5)))
    (q30 : ∃ t, PySem.W.nsIn K mainGlobals "MOST_EDGES" = some (some (.int 16 t)))
    (q31 : PySem.W.nsIn K mainGlobals "enumerate" = some none)
    (F6 : L2.Fun K "__init__" "NoPlace.__init__" Bp.s_NoPlace_init f6 fd6)
    (q32 : ∃ nm q N bs bm sn sub ab col dd k0 k1 k2 k3 k5, K.lookup A32 = some (excClassObj nm q A32 N bs bm true sn sub ab col dd k0 k1 k2 k3 k5 "ValueError.__new__") ∧ PySem.HandSPX.refsVE bm = true)
    (q33 : PySem.W.findIn K (.ref A32) "__setattr__" = some (some (.builtin "object.__setattr__")))
    (q34 : PySem.W.subIn K (.ref A32) (.type "BaseException") = some true)
    (q35 : PySem.W.typeIn K (.ref A32) = some (.type "type"))
    (q36 : PySem.W.keepIn K (.ref A32) = true)
    (q37 : PySem.W.findIn K (.ref A32) "__init__" = some (some (.ref f6)))
    (q38 : PySem.W.typeIn K (.ref f6) = some (.type "function"))
    (q39 : PySem.W.findIn K (.ref A32) "place" = some none)
    (F7 : L2.Fun K "check_place" "check_place" Bp.s_check_place f7 fd7)
    (q40 : PySem.W.nsIn K mainGlobals "check_place" = some (some (.ref f7)))
    (q41 : ∃ t, PySem.W.nsIn K mainGlobals "MOST_AMOUNT" = some (some (.int 1000 t)))
    (F8 : L2.Fun K "is_amount" "is_amount" Bp.s_is_amount f8 fd8)
    (q42 : PySem.W.nsIn K mainGlobals "is_amount" = some (some (.ref f8)))
    (F9 : L2.Fun K "is_edge" "is_edge" Bp.s_is_edge f9 fd9)
    (q43 : PySem.W.nsIn K mainGlobals "is_edge" = some (some (.ref f9)))
    (F10 : L2.Fun K "__init__" "BadEdge.__init__" Bp.s_BadEdge_init f10 fd10)
    (q44 : ∃ nm q N bs bm sn sub ab col dd k0 k1 k2 k3 k5, K.lookup A33 = some (excClassObj nm q A33 N bs bm true sn sub ab col dd k0 k1 k2 k3 k5 "ValueError.__new__") ∧ PySem.HandSPX.refsVE bm = true)
    (q45 : PySem.W.findIn K (.ref A33) "__setattr__" = some (some (.builtin "object.__setattr__")))
    (q46 : PySem.W.subIn K (.ref A33) (.type "BaseException") = some true)
    (q47 : PySem.W.typeIn K (.ref A33) = some (.type "type"))
    (q48 : PySem.W.keepIn K (.ref A33) = true)
    (q49 : PySem.W.findIn K (.ref A33) "__init__" = some (some (.ref f10)))
    (q50 : PySem.W.typeIn K (.ref f10) = some (.type "function"))
    (q51 : PySem.W.findIn K (.ref A33) "at" = some none)
    (F11 : L2.Fun K "check_edges" "check_edges" Bp.s_check_edges f11 fd11)
    (q52 : PySem.W.nsIn K mainGlobals "check_edges" = some (some (.ref f11)))
    (F12 : L2.Fun K "__init__" "WrongWidth.__init__" Bp.s_WrongWidth_init f12 fd12)
    (q53 : ∃ nm q N bs bm sn sub ab col dd k0 k1 k2 k3 k5, K.lookup A14 = some (excClassObj nm q A14 N bs bm true sn sub ab col dd k0 k1 k2 k3 k5 "ValueError.__new__") ∧ PySem.HandSPX.refsVE bm = true)
    (q54 : PySem.W.findIn K (.ref A14) "__setattr__" = some (some (.builtin "object.__setattr__")))
    (q55 : PySem.W.subIn K (.ref A14) (.type "BaseException") = some true)
    (q56 : PySem.W.typeIn K (.ref A14) = some (.type "type"))
    (q57 : PySem.W.keepIn K (.ref A14) = true)
    (q58 : PySem.W.findIn K (.ref A14) "__init__" = some (some (.ref f12)))
    (q59 : PySem.W.typeIn K (.ref f12) = some (.type "function"))
    (q60 : PySem.W.findIn K (.ref A14) "have" = some none)
    (q61 : PySem.W.findIn K (.ref A14) "need" = some none)
    (F13 : L2.Fun K "check_width" "check_width" Bp.s_check_width f13 fd13)
    (q62 : PySem.W.nsIn K mainGlobals "check_width" = some (some (.ref f13)))
    (F14 : L2.Fun K "__init__" "BadSupply.__init__" Bp.s_BadSupply_init f14 fd14)
    (q63 : ∃ nm q N bs bm sn sub ab col dd k0 k1 k2 k3 k5, K.lookup A34 = some (excClassObj nm q A34 N bs bm true sn sub ab col dd k0 k1 k2 k3 k5 "ValueError.__new__") ∧ PySem.HandSPX.refsVE bm = true)
    (q64 : PySem.W.findIn K (.ref A34) "__setattr__" = some (some (.builtin "object.__setattr__")))
    (q65 : PySem.W.subIn K (.ref A34) (.type "BaseException") = some true)
    (q66 : PySem.W.typeIn K (.ref A34) = some (.type "type"))
    (q67 : PySem.W.keepIn K (.ref A34) = true)
    (q68 : PySem.W.findIn K (.ref A34) "__init__" = some (some (.ref f14)))
    (q69 : PySem.W.typeIn K (.ref f14) = some (.type "function"))
    (q70 : PySem.W.findIn K (.ref A34) "place" = some none)
    (F15 : L2.Fun K "__init__" "Unbalanced.__init__" Bp.s_Unbalanced_init f15 fd15)
    (q71 : ∃ nm q N bs bm sn sub ab col dd k0 k1 k2 k3 k5, K.lookup A35 = some (excClassObj nm q A35 N bs bm true sn sub ab col dd k0 k1 k2 k3 k5 "ValueError.__new__") ∧ PySem.HandSPX.refsVE bm = true)
    (q72 : PySem.W.findIn K (.ref A35) "__setattr__" = some (some (.builtin "object.__setattr__")))
    (q73 : PySem.W.subIn K (.ref A35) (.type "BaseException") = some true)
    (q74 : PySem.W.typeIn K (.ref A35) = some (.type "type"))
    (q75 : PySem.W.keepIn K (.ref A35) = true)
    (q76 : PySem.W.findIn K (.ref A35) "__init__" = some (some (.ref f15)))
    (q77 : PySem.W.typeIn K (.ref f15) = some (.type "function"))
    (q78 : PySem.W.findIn K (.ref A35) "total" = some none)
    (F16 : L2.Fun K "check_supplies" "check_supplies" Bp.s_check_supplies f16 fd16)
    (q79 : PySem.W.nsIn K mainGlobals "check_supplies" = some (some (.ref f16)))
    (q80 : PySem.W.plainGet K A31 Str.empty = true)
    (q81 : PySem.W.hasDictIn K A31 = true)
    (q82 : PySem.W.plainOver K A31 = true)
    (q83 : PySem.W.findIn K (.ref A31) "__setattr__" = some (some (.builtin "object.__setattr__")))
    (q84 : PySem.W.findIn K (.ref A31) "places" = some none)
    (q85 : PySem.W.nsIn K mainGlobals "tuple" = some none)
    (q86 : PySem.W.findIn K (.ref A31) "edges" = some none)
    (q87 : PySem.W.findIn K (.ref A31) "supplies" = some none)
    (F17 : L2.Fun K "__init__" "Web.__init__" Bp.s_Web_init f17 fd17)
    (q88 : PySem.W.makesIn K A31 = true)
    (q89 : PySem.W.findIn K (.ref A31) "__init__" = some (some (.ref f17)))
    (q90 : PySem.W.isFn K (.ref f17) = true)
    (q91 : PySem.W.keepIn K (.ref A31) = true)
    (F18 : L2.Fun K "lowered" "lowered" Bp.s_lowered f18 fd18)
    (q92 : PySem.W.nsIn K mainGlobals "lowered" = some (some (.ref f18)))
    (F19 : L2.Fun K "way_to" "way_to" Bp.s_way_to f19 fd19)
    (q93 : PySem.W.nsIn K mainGlobals "way_to" = some (some (.ref f19)))
    (F20 : L2.Fun K "ring_at" "ring_at" Bp.s_ring_at f20 fd20)
    (q94 : PySem.W.nsIn K mainGlobals "ring_at" = some (some (.ref f20)))
    (F21 : L2.Fun K "heights" "heights" Bp.s_heights f21 fd21)
    (q95 : PySem.W.nsIn K mainGlobals "heights" = some (some (.ref f21)))
    (q96 : PySem.W.nsIn K mainGlobals "isinstance" = some none)
    (q97 : PySem.W.nsIn K mainGlobals "bool" = some none)
    (F22 : L2.Fun K "_law_ring" "_law_ring" Bp.s_law_ring f22 fd22)
    (q98 : PySem.W.nsIn K mainGlobals "_law_ring" = some (some (.ref f22)))
    (F23 : L2.Fun K "_law_ring_is" "_law_ring_is" Bp.s_law_ring_is f23 fd23)
    (q99 : PySem.W.nsIn K mainGlobals "_law_ring_is" = some (some (.ref f23)))
    (F24 : L2.Fun K "_law_heights_right" "_law_heights_right" Bp.s_law_heights_right f24 fd24)
    (q100 : PySem.W.nsIn K mainGlobals "_law_heights_right" = some (some (.ref f24)))
    (F25 : L2.Fun K "_law_edge_faults" "_law_edge_faults" Bp.s_law_edge_faults f25 fd25)
    (q101 : PySem.W.nsIn K mainGlobals "_law_edge_faults" = some (some (.ref f25)))
    (F26 : L2.Fun K "_law_with" "_law_with" Bp.s_law_with f26 fd26)
    (q102 : PySem.W.nsIn K mainGlobals "_law_with" = some (some (.ref f26)))
    (q103 : PySem.W.subIn K (.ref A1) (.type "BaseException") = some true)
    (q104 : PySem.W.hasDictIn K A1 = true)
    (q105 : PySem.W.typeIn K (.ref A1) = some (.type "type"))
    (q106 : PySem.W.subIn K (.ref A4) (.ref A1) = some true)
    (q107 : PySem.W.subIn K (.ref A14) (.ref A1) = some true)
    (q108 : PySem.W.subIn K (.ref A32) (.ref A1) = some true)
    (q109 : PySem.W.subIn K (.ref A33) (.ref A1) = some true)
    (q110 : PySem.W.subIn K (.ref A34) (.ref A1) = some true)
    (q111 : PySem.W.subIn K (.ref A35) (.ref A1) = some true)
    (q112 : PySem.W.findIn K (.ref A4) "__getattribute__" = some (some (.builtin "BaseException.__getattribute__")))
    (q113 : PySem.W.findIn K (.ref A4) "__getattr__" = some none)
    (q114 : PySem.W.hasDictIn K A4 = true)
    (q115 : PySem.W.findIn K (.ref A4) "__class__" = some (some (.builtin "object.__class__")))
    (q116 : PySem.W.specialIn K (.builtin "object.__class__") "__get__" = some (some (.builtin "getset_descriptor.__get__")))
    (q117 : PySem.W.takesIn K (.builtin "object.__class__") = some true)
    (q118 : PySem.W.mroIn K A4 (.type "object") = some true)
    (q119 : PySem.W.findIn K (.ref A14) "__getattribute__" = some (some (.builtin "BaseException.__getattribute__")))
    (q120 : PySem.W.findIn K (.ref A14) "__getattr__" = some none)
    (q121 : PySem.W.hasDictIn K A14 = true)
    (q122 : PySem.W.findIn K (.ref A14) "__class__" = some (some (.builtin "object.__class__")))
    (q123 : PySem.W.mroIn K A14 (.type "object") = some true)
    (q124 : (((.ref A14) : Value) == (.ref A4)) = false)
    (q125 : PySem.W.isClsIn K A4 = true)
    (q126 : PySem.W.subIn K (.ref A14) (.ref A4) = some false)
    (q127 : PySem.W.findIn K (.ref A32) "__getattribute__" = some (some (.builtin "BaseException.__getattribute__")))
    (q128 : PySem.W.findIn K (.ref A32) "__getattr__" = some none)
    (q129 : PySem.W.hasDictIn K A32 = true)
    (q130 : PySem.W.findIn K (.ref A32) "__class__" = some (some (.builtin "object.__class__")))
    (q131 : PySem.W.mroIn K A32 (.type "object") = some true)
    (q132 : (((.ref A32) : Value) == (.ref A4)) = false)
    (q133 : PySem.W.subIn K (.ref A32) (.ref A4) = some false)
    (q134 : PySem.W.findIn K (.ref A33) "__getattribute__" = some (some (.builtin "BaseException.__getattribute__")))
    (q135 : PySem.W.findIn K (.ref A33) "__getattr__" = some none)
    (q136 : PySem.W.hasDictIn K A33 = true)
    (q137 : PySem.W.findIn K (.ref A33) "__class__" = some (some (.builtin "object.__class__")))
    (q138 : PySem.W.mroIn K A33 (.type "object") = some true)
    (q139 : (((.ref A33) : Value) == (.ref A4)) = false)
    (q140 : PySem.W.subIn K (.ref A33) (.ref A4) = some false)
    (q141 : PySem.W.findIn K (.ref A34) "__getattribute__" = some (some (.builtin "BaseException.__getattribute__")))
    (q142 : PySem.W.findIn K (.ref A34) "__getattr__" = some none)
    (q143 : PySem.W.hasDictIn K A34 = true)
    (q144 : PySem.W.findIn K (.ref A34) "__class__" = some (some (.builtin "object.__class__")))
    (q145 : PySem.W.mroIn K A34 (.type "object") = some true)
    (q146 : (((.ref A34) : Value) == (.ref A4)) = false)
    (q147 : PySem.W.subIn K (.ref A34) (.ref A4) = some false)
    (q148 : PySem.W.findIn K (.ref A35) "__getattribute__" = some (some (.builtin "BaseException.__getattribute__")))
    (q149 : PySem.W.findIn K (.ref A35) "__getattr__" = some none)
    (q150 : PySem.W.hasDictIn K A35 = true)
    (q151 : PySem.W.findIn K (.ref A35) "__class__" = some (some (.builtin "object.__class__")))
    (q152 : PySem.W.mroIn K A35 (.type "object") = some true)
    (q153 : (((.ref A35) : Value) == (.ref A4)) = false)
    (q154 : PySem.W.subIn K (.ref A35) (.ref A4) = some false)
    (q155 : (((.ref A4) : Value) == (.ref A32)) = false)
    (q156 : PySem.W.isClsIn K A32 = true)
    (q157 : PySem.W.subIn K (.ref A4) (.ref A32) = some false)
    (q158 : (((.ref A14) : Value) == (.ref A32)) = false)
    (q159 : PySem.W.subIn K (.ref A14) (.ref A32) = some false)
    (q160 : (((.ref A33) : Value) == (.ref A32)) = false)
    (q161 : PySem.W.subIn K (.ref A33) (.ref A32) = some false)
    (q162 : (((.ref A34) : Value) == (.ref A32)) = false)
    (q163 : PySem.W.subIn K (.ref A34) (.ref A32) = some false)
    (q164 : (((.ref A35) : Value) == (.ref A32)) = false)
    (q165 : PySem.W.subIn K (.ref A35) (.ref A32) = some false)
    (q166 : (((.ref A4) : Value) == (.ref A33)) = false)
    (q167 : PySem.W.isClsIn K A33 = true)
    (q168 : PySem.W.subIn K (.ref A4) (.ref A33) = some false)
    (q169 : (((.ref A14) : Value) == (.ref A33)) = false)
    (q170 : PySem.W.subIn K (.ref A14) (.ref A33) = some false)
    (q171 : (((.ref A32) : Value) == (.ref A33)) = false)
    (q172 : PySem.W.subIn K (.ref A32) (.ref A33) = some false)
    (q173 : (((.ref A34) : Value) == (.ref A33)) = false)
    (q174 : PySem.W.subIn K (.ref A34) (.ref A33) = some false)
    (q175 : (((.ref A35) : Value) == (.ref A33)) = false)
    (q176 : PySem.W.subIn K (.ref A35) (.ref A33) = some false)
    (q177 : (((.ref A4) : Value) == (.ref A14)) = false)
    (q178 : PySem.W.isClsIn K A14 = true)
    (q179 : PySem.W.subIn K (.ref A4) (.ref A14) = some false)
    (q180 : (((.ref A32) : Value) == (.ref A14)) = false)
    (q181 : PySem.W.subIn K (.ref A32) (.ref A14) = some false)
    (q182 : (((.ref A33) : Value) == (.ref A14)) = false)
    (q183 : PySem.W.subIn K (.ref A33) (.ref A14) = some false)
    (q184 : (((.ref A34) : Value) == (.ref A14)) = false)
    (q185 : PySem.W.subIn K (.ref A34) (.ref A14) = some false)
    (q186 : (((.ref A35) : Value) == (.ref A14)) = false)
    (q187 : PySem.W.subIn K (.ref A35) (.ref A14) = some false)
    (q188 : (((.ref A4) : Value) == (.ref A34)) = false)
    (q189 : PySem.W.isClsIn K A34 = true)
    (q190 : PySem.W.subIn K (.ref A4) (.ref A34) = some false)
    (q191 : (((.ref A14) : Value) == (.ref A34)) = false)
    (q192 : PySem.W.subIn K (.ref A14) (.ref A34) = some false)
    (q193 : (((.ref A32) : Value) == (.ref A34)) = false)
    (q194 : PySem.W.subIn K (.ref A32) (.ref A34) = some false)
    (q195 : (((.ref A33) : Value) == (.ref A34)) = false)
    (q196 : PySem.W.subIn K (.ref A33) (.ref A34) = some false)
    (q197 : (((.ref A35) : Value) == (.ref A34)) = false)
    (q198 : PySem.W.subIn K (.ref A35) (.ref A34) = some false)
    (q199 : (((.ref A4) : Value) == (.ref A35)) = false)
    (q200 : PySem.W.isClsIn K A35 = true)
    (q201 : PySem.W.subIn K (.ref A4) (.ref A35) = some false)
    (q202 : (((.ref A14) : Value) == (.ref A35)) = false)
    (q203 : PySem.W.subIn K (.ref A14) (.ref A35) = some false)
    (q204 : (((.ref A32) : Value) == (.ref A35)) = false)
    (q205 : PySem.W.subIn K (.ref A32) (.ref A35) = some false)
    (q206 : (((.ref A33) : Value) == (.ref A35)) = false)
    (q207 : PySem.W.subIn K (.ref A33) (.ref A35) = some false)
    (q208 : (((.ref A34) : Value) == (.ref A35)) = false)
    (q209 : PySem.W.subIn K (.ref A34) (.ref A35) = some false)
    (q210 : PySem.W.nsIn K mainGlobals "ValueError" = some none)
    (q211 : PySem.W.subIn K (.ref A4) (.type "ValueError") = some true)
    (q212 : PySem.W.subIn K (.ref A14) (.type "ValueError") = some true)
    (q213 : PySem.W.subIn K (.ref A32) (.type "ValueError") = some true)
    (q214 : PySem.W.subIn K (.ref A33) (.type "ValueError") = some true)
    (q215 : PySem.W.subIn K (.ref A34) (.type "ValueError") = some true)
    (q216 : PySem.W.subIn K (.ref A35) (.type "ValueError") = some true)
    (F27 : L2.Fun K "_law_integer" "_law_integer" Bp.s_law_integer_k81 f27 fd27)
    (q217 : PySem.W.nsIn K mainGlobals "_law_integer" = some (some (.ref f27)))
    (F28 : L2.Fun K "_law_made" "_law_made" Bp.s_law_made f28 fd28)
    (q218 : PySem.W.nsIn K mainGlobals "_law_made" = some (some (.ref f28)))
    (F29 : L2.Fun K "_law_edges_asked" "_law_edges_asked" Bp.s_law_edges_asked f29 fd29)
    (q219 : PySem.W.nsIn K mainGlobals "_law_edges_asked" = some (some (.ref f29)))
    (F30 : L2.Fun K "_law_supplies_asked" "_law_supplies_asked" Bp.s_law_supplies_asked f30 fd30)
    (q220 : PySem.W.nsIn K mainGlobals "_law_supplies_asked" = some (some (.ref f30)))
    (F31 : L2.Fun K "_law_counts_asked" "_law_counts_asked" Bp.s_law_counts_asked f31 fd31)
    (q221 : PySem.W.nsIn K mainGlobals "_law_counts_asked" = some (some (.ref f31)))
    (F32 : L2.Fun K "_law_plain" "_law_plain" Bp.s_law_plain f32 fd32)
    (q222 : PySem.W.nsIn K mainGlobals "_law_plain" = some (some (.ref f32)))
    (F33 : L2.Fun K "law" "law" Bp.s_law_k81 f33 fd33)
    (q223 : PySem.W.nsIn K mainGlobals "law" = some (some (.ref f33)))
    : ∃ fd : FuncData, (∀ (s : Shared) (v : Value), BindsTo s fd ⟨[v], []⟩ [("script", v)]) ∧ ∀ base : Heap, K.In base → base.Ns mainGlobals mg → FnOk P w K mg base (L2N.CX P w) 9 fa fd ["script"] (spLaw K) := by
  have e := hfa.symm.trans (PySem.W.mg_of X G q223)
  cases e
  have T : TX P mg ⟨K, cmOf A1 A4 A14 A31 A32 A33 A34 A35⟩ := {
    b_len := PySem.W.mg_none_of X G q8
    b_int := PySem.W.mg_none_of X G q9
    f_law_cell := ⟨_, _, F0, PySem.W.mg_of X G q10, (L2.Fun.binds (ps := ["script", "k"]) F0 fun _ _ _ _ _ _ us hl => match us, hl with | [_, _], _ => rfl)⟩
    b_range := PySem.W.mg_none_of X G q11
    f_law_edge := ⟨_, _, F1, PySem.W.mg_of X G q12, (L2.Fun.binds (ps := ["cell", "k", "places"]) F1 fun _ _ _ _ _ _ us hl => match us, hl with | [_, _, _], _ => rfl)⟩
    b_abs := PySem.W.mg_none_of X G q13
    f_law_recosted := ⟨_, _, F2, PySem.W.mg_of X G q14, (L2.Fun.binds (ps := ["edges", "shift"]) F2 fun _ _ _ _ _ _ us hl => match us, hl with | [_, _], _ => rfl)⟩
    b_sum := PySem.W.mg_none_of X G q15
    f_law_free := ⟨_, _, F3, PySem.W.mg_of X G q16, (L2.Fun.binds (ps := ["script", "places"]) F3 fun _ _ _ _ _ _ us hl => match us, hl with | [_, _], _ => rfl)⟩
    b_list := PySem.W.mg_none_of X G q17
    gk_LEAST_PLACES := q18.elim fun t e => ⟨t, PySem.W.mg_of X G e⟩
    gk_MOST_PLACES := q19.elim fun t e => ⟨t, PySem.W.mg_of X G e⟩
    x_BadCount := ⟨_, _, F4, ⟨q20, q21, q22, q23, q24⟩, q25, q26, (L2.Fun.binds (ps := ["self", "what", "many"]) F4 fun _ _ _ _ _ _ us hl => match us, hl with | [_, _, _], _ => rfl)⟩
    nx_BadCount_what := q27
    nx_BadCount_many := q28
    g_BadCount := PySem.W.mg_of X G q1
    f_check_count := ⟨_, _, F5, PySem.W.mg_of X G q29, (L2.Fun.binds (ps := ["what", "many", "least", "most"]) F5 fun _ _ _ _ _ _ us hl => match us, hl with | [_, _, _, _], _ => rfl)⟩
    gk_MOST_EDGES := q30.elim fun t e => ⟨t, PySem.W.mg_of X G e⟩
    b_enumerate := PySem.W.mg_none_of X G q31
    x_NoPlace := ⟨_, _, F6, ⟨q32, q33, q34, q35, q36⟩, q37, q38, (L2.Fun.binds (ps := ["self", "place"]) F6 fun _ _ _ _ _ _ us hl => match us, hl with | [_, _], _ => rfl)⟩
    nx_NoPlace_place := q39
    g_NoPlace := PySem.W.mg_of X G q4
    f_check_place := ⟨_, _, F7, PySem.W.mg_of X G q40, (L2.Fun.binds (ps := ["places", "place"]) F7 fun _ _ _ _ _ _ us hl => match us, hl with | [_, _], _ => rfl)⟩
    gk_MOST_AMOUNT := q41.elim fun t e => ⟨t, PySem.W.mg_of X G e⟩
    f_is_amount := ⟨_, _, F8, PySem.W.mg_of X G q42, (L2.Fun.binds (ps := ["number"]) F8 fun _ _ _ _ _ _ us hl => match us, hl with | [_], _ => rfl)⟩
    f_is_edge := ⟨_, _, F9, PySem.W.mg_of X G q43, (L2.Fun.binds (ps := ["tail", "head", "low", "high", "cost"]) F9 fun _ _ _ _ _ _ us hl => match us, hl with | [_, _, _, _, _], _ => rfl)⟩
    x_BadEdge := ⟨_, _, F10, ⟨q44, q45, q46, q47, q48⟩, q49, q50, (L2.Fun.binds (ps := ["self", "at"]) F10 fun _ _ _ _ _ _ us hl => match us, hl with | [_, _], _ => rfl)⟩
    nx_BadEdge_at := q51
    g_BadEdge := PySem.W.mg_of X G q5
    f_check_edges := ⟨_, _, F11, PySem.W.mg_of X G q52, (L2.Fun.binds (ps := ["places", "edges"]) F11 fun _ _ _ _ _ _ us hl => match us, hl with | [_, _], _ => rfl)⟩
    x_WrongWidth := ⟨_, _, F12, ⟨q53, q54, q55, q56, q57⟩, q58, q59, (L2.Fun.binds (ps := ["self", "have", "need"]) F12 fun _ _ _ _ _ _ us hl => match us, hl with | [_, _, _], _ => rfl)⟩
    nx_WrongWidth_have := q60
    nx_WrongWidth_need := q61
    g_WrongWidth := PySem.W.mg_of X G q2
    f_check_width := ⟨_, _, F13, PySem.W.mg_of X G q62, (L2.Fun.binds (ps := ["have", "need"]) F13 fun _ _ _ _ _ _ us hl => match us, hl with | [_, _], _ => rfl)⟩
    x_BadSupply := ⟨_, _, F14, ⟨q63, q64, q65, q66, q67⟩, q68, q69, (L2.Fun.binds (ps := ["self", "place"]) F14 fun _ _ _ _ _ _ us hl => match us, hl with | [_, _], _ => rfl)⟩
    nx_BadSupply_place := q70
    g_BadSupply := PySem.W.mg_of X G q6
    x_Unbalanced := ⟨_, _, F15, ⟨q71, q72, q73, q74, q75⟩, q76, q77, (L2.Fun.binds (ps := ["self", "total"]) F15 fun _ _ _ _ _ _ us hl => match us, hl with | [_, _], _ => rfl)⟩
    nx_Unbalanced_total := q78
    g_Unbalanced := PySem.W.mg_of X G q7
    f_check_supplies := ⟨_, _, F16, PySem.W.mg_of X G q79, (L2.Fun.binds (ps := ["places", "supplies"]) F16 fun _ _ _ _ _ _ us hl => match us, hl with | [_, _], _ => rfl)⟩
    cl_Web := ⟨q80, q81, q82, q83⟩
    na_Web_places := q84
    b_tuple := PySem.W.mg_none_of X G q85
    na_Web_edges := q86
    na_Web_supplies := q87
    i_Web := ⟨_, _, F17, ⟨q88, q89, q90, q91⟩, (L2.Fun.binds (ps := ["self", "places", "edges", "supplies"]) F17 fun _ _ _ _ _ _ us hl => match us, hl with | [_, _, _, _], _ => rfl)⟩
    g_Web := PySem.W.mg_of X G q3
    f_lowered := ⟨_, _, F18, PySem.W.mg_of X G q92, (L2.Fun.binds (ps := ["labels", "arcs"]) F18 fun _ _ _ _ _ _ us hl => match us, hl with | [_, _], _ => rfl)⟩
    f_way_to := ⟨_, _, F19, PySem.W.mg_of X G q93, (L2.Fun.binds (ps := ["arcs", "ways", "place"]) F19 fun _ _ _ _ _ _ us hl => match us, hl with | [_, _, _], _ => rfl)⟩
    f_ring_at := ⟨_, _, F20, PySem.W.mg_of X G q94, (L2.Fun.binds (ps := ["arcs", "ways", "place"]) F20 fun _ _ _ _ _ _ us hl => match us, hl with | [_, _, _], _ => rfl)⟩
    f_heights := ⟨_, _, F21, PySem.W.mg_of X G q95, (L2.Fun.binds (ps := ["web"]) F21 fun _ _ _ _ _ _ us hl => match us, hl with | [_], _ => rfl)⟩
    b_isinstance := PySem.W.mg_none_of X G q96
    hit_tuple := ⟨e_it_tuple_w (kit_ty (by decide +kernel)) (kit_ty (by decide +kernel)) (kit_ty (by decide +kernel)) (kit_ty (by decide +kernel)) (kit_ty (by decide +kernel)) (kit_ty (by decide +kernel)), e_it_tuple_wo ⟩
    b_bool := PySem.W.mg_none_of X G q97
    hit_bool := ⟨e_it_bool_w (kit_ty (by decide +kernel)) (kit_ty (by decide +kernel)) (kit_ty (by decide +kernel)) (kit_ty (by decide +kernel)) (kit_ty (by decide +kernel)) (kit_ty (by decide +kernel)), e_it_bool_wo ⟩
    hit_int := ⟨e_it_int_w (kit_ty (by decide +kernel)) (kit_ty (by decide +kernel)) (kit_ty (by decide +kernel)) (kit_ty (by decide +kernel)) (kit_ty (by decide +kernel)) (kit_ty (by decide +kernel)), e_it_int_wo ⟩
    f_law_ring := ⟨_, _, F22, PySem.W.mg_of X G q98, (L2.Fun.binds (ps := ["places", "edges"]) F22 fun _ _ _ _ _ _ us hl => match us, hl with | [_, _], _ => rfl)⟩
    f_law_ring_is := ⟨_, _, F23, PySem.W.mg_of X G q99, (L2.Fun.binds (ps := ["told", "places", "edges"]) F23 fun _ _ _ _ _ _ us hl => match us, hl with | [_, _, _], _ => rfl)⟩
    f_law_heights_right := ⟨_, _, F24, PySem.W.mg_of X G q100, (L2.Fun.binds (ps := ["told", "places", "edges"]) F24 fun _ _ _ _ _ _ us hl => match us, hl with | [_, _, _], _ => rfl)⟩
    f_law_edge_faults := ⟨_, _, F25, PySem.W.mg_of X G q101, (L2.Fun.binds (ps := ["places", "edges", "spot", "odd"]) F25 fun _ _ _ _ _ _ us hl => match us, hl with | [_, _, _, _], _ => rfl)⟩
    f_law_with := ⟨_, _, F26, PySem.W.mg_of X G q102, (L2.Fun.binds (ps := ["rows", "spot", "row"]) F26 fun _ _ _ _ _ _ us hl => match us, hl with | [_, _, _], _ => rfl)⟩
    hcat_BestError_w := e_cat_BestError_w (PySem.W.exm_ref q103 q104 q105 q106) (PySem.W.exm_ref q103 q104 q105 q107) (PySem.W.exm_ref q103 q104 q105 q108) (PySem.W.exm_ref q103 q104 q105 q109) (PySem.W.exm_ref q103 q104 q105 q110) (PySem.W.exm_ref q103 q104 q105 q111)
    hxt_is_BadCount_w := e_xt_is_BadCount_w ⟨(⟨q112, q113, q22, q114, q115, q116, q117, q118⟩ : L2.ExcC K A4), Bp.kit_same⟩ ⟨(⟨q119, q120, q55, q121, q122, q116, q117, q123⟩ : L2.ExcC K A14), (Bp.kit_cls q124 q125 q23 q126)⟩ ⟨(⟨q127, q128, q34, q129, q130, q116, q117, q131⟩ : L2.ExcC K A32), (Bp.kit_cls q132 q125 q23 q133)⟩ ⟨(⟨q134, q135, q46, q136, q137, q116, q117, q138⟩ : L2.ExcC K A33), (Bp.kit_cls q139 q125 q23 q140)⟩ ⟨(⟨q141, q142, q65, q143, q144, q116, q117, q145⟩ : L2.ExcC K A34), (Bp.kit_cls q146 q125 q23 q147)⟩ ⟨(⟨q148, q149, q73, q150, q151, q116, q117, q152⟩ : L2.ExcC K A35), (Bp.kit_cls q153 q125 q23 q154)⟩
    hxt_is_NoPlace_w := e_xt_is_NoPlace_w ⟨(⟨q112, q113, q22, q114, q115, q116, q117, q118⟩ : L2.ExcC K A4), (Bp.kit_cls q155 q156 q35 q157)⟩ ⟨(⟨q119, q120, q55, q121, q122, q116, q117, q123⟩ : L2.ExcC K A14), (Bp.kit_cls q158 q156 q35 q159)⟩ ⟨(⟨q127, q128, q34, q129, q130, q116, q117, q131⟩ : L2.ExcC K A32), Bp.kit_same⟩ ⟨(⟨q134, q135, q46, q136, q137, q116, q117, q138⟩ : L2.ExcC K A33), (Bp.kit_cls q160 q156 q35 q161)⟩ ⟨(⟨q141, q142, q65, q143, q144, q116, q117, q145⟩ : L2.ExcC K A34), (Bp.kit_cls q162 q156 q35 q163)⟩ ⟨(⟨q148, q149, q73, q150, q151, q116, q117, q152⟩ : L2.ExcC K A35), (Bp.kit_cls q164 q156 q35 q165)⟩
    hxt_is_BadEdge_w := e_xt_is_BadEdge_w ⟨(⟨q112, q113, q22, q114, q115, q116, q117, q118⟩ : L2.ExcC K A4), (Bp.kit_cls q166 q167 q47 q168)⟩ ⟨(⟨q119, q120, q55, q121, q122, q116, q117, q123⟩ : L2.ExcC K A14), (Bp.kit_cls q169 q167 q47 q170)⟩ ⟨(⟨q127, q128, q34, q129, q130, q116, q117, q131⟩ : L2.ExcC K A32), (Bp.kit_cls q171 q167 q47 q172)⟩ ⟨(⟨q134, q135, q46, q136, q137, q116, q117, q138⟩ : L2.ExcC K A33), Bp.kit_same⟩ ⟨(⟨q141, q142, q65, q143, q144, q116, q117, q145⟩ : L2.ExcC K A34), (Bp.kit_cls q173 q167 q47 q174)⟩ ⟨(⟨q148, q149, q73, q150, q151, q116, q117, q152⟩ : L2.ExcC K A35), (Bp.kit_cls q175 q167 q47 q176)⟩
    hxt_is_WrongWidth_w := e_xt_is_WrongWidth_w ⟨(⟨q112, q113, q22, q114, q115, q116, q117, q118⟩ : L2.ExcC K A4), (Bp.kit_cls q177 q178 q56 q179)⟩ ⟨(⟨q119, q120, q55, q121, q122, q116, q117, q123⟩ : L2.ExcC K A14), Bp.kit_same⟩ ⟨(⟨q127, q128, q34, q129, q130, q116, q117, q131⟩ : L2.ExcC K A32), (Bp.kit_cls q180 q178 q56 q181)⟩ ⟨(⟨q134, q135, q46, q136, q137, q116, q117, q138⟩ : L2.ExcC K A33), (Bp.kit_cls q182 q178 q56 q183)⟩ ⟨(⟨q141, q142, q65, q143, q144, q116, q117, q145⟩ : L2.ExcC K A34), (Bp.kit_cls q184 q178 q56 q185)⟩ ⟨(⟨q148, q149, q73, q150, q151, q116, q117, q152⟩ : L2.ExcC K A35), (Bp.kit_cls q186 q178 q56 q187)⟩
    hxt_is_BadSupply_w := e_xt_is_BadSupply_w ⟨(⟨q112, q113, q22, q114, q115, q116, q117, q118⟩ : L2.ExcC K A4), (Bp.kit_cls q188 q189 q66 q190)⟩ ⟨(⟨q119, q120, q55, q121, q122, q116, q117, q123⟩ : L2.ExcC K A14), (Bp.kit_cls q191 q189 q66 q192)⟩ ⟨(⟨q127, q128, q34, q129, q130, q116, q117, q131⟩ : L2.ExcC K A32), (Bp.kit_cls q193 q189 q66 q194)⟩ ⟨(⟨q134, q135, q46, q136, q137, q116, q117, q138⟩ : L2.ExcC K A33), (Bp.kit_cls q195 q189 q66 q196)⟩ ⟨(⟨q141, q142, q65, q143, q144, q116, q117, q145⟩ : L2.ExcC K A34), Bp.kit_same⟩ ⟨(⟨q148, q149, q73, q150, q151, q116, q117, q152⟩ : L2.ExcC K A35), (Bp.kit_cls q197 q189 q66 q198)⟩
    hxt_is_Unbalanced_w := e_xt_is_Unbalanced_w ⟨(⟨q112, q113, q22, q114, q115, q116, q117, q118⟩ : L2.ExcC K A4), (Bp.kit_cls q199 q200 q74 q201)⟩ ⟨(⟨q119, q120, q55, q121, q122, q116, q117, q123⟩ : L2.ExcC K A14), (Bp.kit_cls q202 q200 q74 q203)⟩ ⟨(⟨q127, q128, q34, q129, q130, q116, q117, q131⟩ : L2.ExcC K A32), (Bp.kit_cls q204 q200 q74 q205)⟩ ⟨(⟨q134, q135, q46, q136, q137, q116, q117, q138⟩ : L2.ExcC K A33), (Bp.kit_cls q206 q200 q74 q207)⟩ ⟨(⟨q141, q142, q65, q143, q144, q116, q117, q145⟩ : L2.ExcC K A34), (Bp.kit_cls q208 q200 q74 q209)⟩ ⟨(⟨q148, q149, q73, q150, q151, q116, q117, q152⟩ : L2.ExcC K A35), Bp.kit_same⟩
    b_ValueError := PySem.W.mg_none_of X G q210
    hxt_is_ValueError_w := e_xt_is_ValueError_w ⟨(⟨q112, q113, q22, q114, q115, q116, q117, q118⟩ : L2.ExcC K A4), (Bp.kit_base (by rfl) (by decide +kernel) q211)⟩ ⟨(⟨q119, q120, q55, q121, q122, q116, q117, q123⟩ : L2.ExcC K A14), (Bp.kit_base (by rfl) (by decide +kernel) q212)⟩ ⟨(⟨q127, q128, q34, q129, q130, q116, q117, q131⟩ : L2.ExcC K A32), (Bp.kit_base (by rfl) (by decide +kernel) q213)⟩ ⟨(⟨q134, q135, q46, q136, q137, q116, q117, q138⟩ : L2.ExcC K A33), (Bp.kit_base (by rfl) (by decide +kernel) q214)⟩ ⟨(⟨q141, q142, q65, q143, q144, q116, q117, q145⟩ : L2.ExcC K A34), (Bp.kit_base (by rfl) (by decide +kernel) q215)⟩ ⟨(⟨q148, q149, q73, q150, q151, q116, q117, q152⟩ : L2.ExcC K A35), (Bp.kit_base (by rfl) (by decide +kernel) q216)⟩
    xf_BadCount := ⟨q112, q113, q22, q114⟩
    f_law_integer_k81 := ⟨_, _, F27, PySem.W.mg_of X G q217, (L2.Fun.binds (ps := ["number"]) F27 fun _ _ _ _ _ _ us hl => match us, hl with | [_], _ => rfl)⟩
    xf_NoPlace := ⟨q127, q128, q34, q129⟩
    xf_BadSupply := ⟨q141, q142, q65, q143⟩
    xf_BadEdge := ⟨q134, q135, q46, q136⟩
    xf_WrongWidth := ⟨q119, q120, q55, q121⟩
    xf_Unbalanced := ⟨q148, q149, q73, q150⟩
    g_BestError := PySem.W.mg_of X G q0
    f_law_made := ⟨_, _, F28, PySem.W.mg_of X G q218, (L2.Fun.binds (ps := ["places", "edges", "supplies"]) F28 fun _ _ _ _ _ _ us hl => match us, hl with | [_, _, _], _ => rfl)⟩
    f_law_edges_asked := ⟨_, _, F29, PySem.W.mg_of X G q219, (L2.Fun.binds (ps := ["places", "edges", "supplies", "spot", "odd"]) F29 fun _ _ _ _ _ _ us hl => match us, hl with | [_, _, _, _, _], _ => rfl)⟩
    f_law_supplies_asked := ⟨_, _, F30, PySem.W.mg_of X G q220, (L2.Fun.binds (ps := ["places", "edges", "supplies", "spot", "odd"]) F30 fun _ _ _ _ _ _ us hl => match us, hl with | [_, _, _, _, _], _ => rfl)⟩
    f_law_counts_asked := ⟨_, _, F31, PySem.W.mg_of X G q221, (L2.Fun.binds (ps := ["places", "edges", "supplies"]) F31 fun _ _ _ _ _ _ us hl => match us, hl with | [_, _, _], _ => rfl)⟩
    f_law_plain := ⟨_, _, F32, PySem.W.mg_of X G q222, (L2.Fun.binds (ps := ["told", "due"]) F32 fun _ _ _ _ _ _ us hl => match us, hl with | [_, _], _ => rfl)⟩
    f_law_k81 := ⟨_, _, F33, PySem.W.mg_of X G q223, (L2.Fun.binds (ps := ["script"]) F33 fun _ _ _ _ _ _ us hl => match us, hl with | [_], _ => rfl)⟩
  }
  exact ⟨_, JH.bt_of F33 fun _ _ _ _ _ _ _ => rfl, fun base _ _ => fn_mono (d_law_at T F33) fun vs H Q E z => law_sp (G := ⟨K, cmOf A1 A4 A14 A31 A32 A33 A34 A35⟩) z⟩
end J

open PySem PySem.W PySem.Calls PyProof.Rows
set_option maxHeartbeats 0 in
theorem PySem.Challenge.cw_bestpapers_k81_heights_or_ring_holds : PySem.Challenge.rw_bestpapers_k81_heights_or_ring.Holds := by
  w_on
  o_law
  refine HandSHeadRun.head_imp (r := HR.R) (q := HR.qv) (H := JH.hookK 5 HR.obAll HR.vlAll) (ob := JH.obK 5 HR.obAll) (M := 20000) (loose := HR.names) (d := HandSHeadRun.topDef HR.R.prog 45) (kwd := []) (JH.obK_eq 5 HR.obAll HR.vlAll) HR.runs
    (by kernel_rfl) (by kernel_rfl) (by kernel_rfl) (by rfl) (by first | assumption | decide +kernel) (by decide +kernel) ⟨rfl, rfl, rfl, rfl, rfl, by decide +kernel⟩ ?hw ?hc
  case hw => w_witness2
  case hc =>
    refine JH.walk_ofE (l := PySem.Challenge.rw_bestpapers_k81_heights_or_ring) (n := 63) (k := 9) (x := "script") (CX := fun w => L2N.CX PySem.Challenge.rw_bestpapers_k81_heights_or_ring.prog w) rfl (by decide) (by kernel_rfl) ⟨rfl, by decide, by decide⟩ ?F (fun _ _ _ _ _ ⟨_, _, _, _, _, _, _, _, _, _, _, _, z⟩ => z)
    intro w mg fa h Y G hmg0
    obtain ⟨K, KX, c⟩ := Y
    have hmg : mg ("law" : PySem.Str) = some (.ref fa) := by
      have e : (HandSHeadRun.topDef HR.R.prog 45).name = ("law" : PySem.Str) := by kernel_rfl
      rw [← e]
      exact hmg0
    have c1 := JH.pair_r c
    have d1 := JH.pair_l c
    have c0 := d1
    have x1 : HR.ex1 K = true := JH.obA_ex c1
    unfold HR.ex1 at x1
    obtain ⟨x1_0, x1⟩ := He.ba x1
    unfold HR.ex1_0 at x1_0
    obtain ⟨zq0, x1_0⟩ := He.ba x1_0
    obtain ⟨zq1, x1_0⟩ := He.ba x1_0
    obtain ⟨zq2, x1_0⟩ := He.ba x1_0
    obtain ⟨zq3, x1_0⟩ := He.ba x1_0
    obtain ⟨zq4, x1_0⟩ := He.ba x1_0
    obtain ⟨zq5, x1_0⟩ := He.ba x1_0
    obtain ⟨zq6, x1_0⟩ := He.ba x1_0
    obtain ⟨zq7, x1_0⟩ := He.ba x1_0
    obtain ⟨zq8, x1_0⟩ := He.ba x1_0
    obtain ⟨zq9, x1_0⟩ := He.ba x1_0
    obtain ⟨zq10, x1_0⟩ := He.ba x1_0
    obtain ⟨zq11, x1_0⟩ := He.ba x1_0
    obtain ⟨zq12, x1_0⟩ := He.ba x1_0
    obtain ⟨zq13, x1_0⟩ := He.ba x1_0
    obtain ⟨zq14, x1_0⟩ := He.ba x1_0
    obtain ⟨zq15, x1_0⟩ := He.ba x1_0
    obtain ⟨zq16, x1_0⟩ := He.ba x1_0
    obtain ⟨zq17, x1_0⟩ := He.ba x1_0
    obtain ⟨zq18, x1_0⟩ := He.ba x1_0
    obtain ⟨zq19, x1_0⟩ := He.ba x1_0
    obtain ⟨zq20, x1_0⟩ := He.ba x1_0
    obtain ⟨zq21, x1_0⟩ := He.ba x1_0
    obtain ⟨zq22, x1_0⟩ := He.ba x1_0
    obtain ⟨zq23, x1_0⟩ := He.ba x1_0
    obtain ⟨zq24, x1_0⟩ := He.ba x1_0
    obtain ⟨zq25, x1_0⟩ := He.ba x1_0
    obtain ⟨zq26, x1_0⟩ := He.ba x1_0
    obtain ⟨zq27, x1_0⟩ := He.ba x1_0
    obtain ⟨zq28, x1_0⟩ := He.ba x1_0
    obtain ⟨zq29, x1_0⟩ := He.ba x1_0
    obtain ⟨zq30, x1_0⟩ := He.ba x1_0
    obtain ⟨zq31, x1_0⟩ := He.ba x1_0
    obtain ⟨zq32, x1_0⟩ := He.ba x1_0
    obtain ⟨zq33, x1_0⟩ := He.ba x1_0
    obtain ⟨zq34, x1_0⟩ := He.ba x1_0
    obtain ⟨zq35, x1_0⟩ := He.ba x1_0
    obtain ⟨zq36, x1_0⟩ := He.ba x1_0
    obtain ⟨zq37, x1_0⟩ := He.ba x1_0
    obtain ⟨zq38, x1_0⟩ := He.ba x1_0
    have zq39 := x1_0
    obtain ⟨x1_1, x1⟩ := He.ba x1
    unfold HR.ex1_1 at x1_1
    obtain ⟨zq40, x1_1⟩ := He.ba x1_1
    obtain ⟨zq41, x1_1⟩ := He.ba x1_1
    obtain ⟨zq42, x1_1⟩ := He.ba x1_1
    obtain ⟨zq43, x1_1⟩ := He.ba x1_1
    obtain ⟨zq44, x1_1⟩ := He.ba x1_1
    obtain ⟨zq45, x1_1⟩ := He.ba x1_1
    obtain ⟨zq46, x1_1⟩ := He.ba x1_1
    obtain ⟨zq47, x1_1⟩ := He.ba x1_1
    obtain ⟨zq48, x1_1⟩ := He.ba x1_1
    obtain ⟨zq49, x1_1⟩ := He.ba x1_1
    obtain ⟨zq50, x1_1⟩ := He.ba x1_1
    obtain ⟨zq51, x1_1⟩ := He.ba x1_1
    obtain ⟨zq52, x1_1⟩ := He.ba x1_1
    obtain ⟨zq53, x1_1⟩ := He.ba x1_1
    obtain ⟨zq54, x1_1⟩ := He.ba x1_1
    obtain ⟨zq55, x1_1⟩ := He.ba x1_1
    obtain ⟨zq56, x1_1⟩ := He.ba x1_1
    obtain ⟨zq57, x1_1⟩ := He.ba x1_1
    obtain ⟨zq58, x1_1⟩ := He.ba x1_1
    obtain ⟨zq59, x1_1⟩ := He.ba x1_1
    obtain ⟨zq60, x1_1⟩ := He.ba x1_1
    obtain ⟨zq61, x1_1⟩ := He.ba x1_1
    obtain ⟨zq62, x1_1⟩ := He.ba x1_1
    obtain ⟨zq63, x1_1⟩ := He.ba x1_1
    obtain ⟨zq64, x1_1⟩ := He.ba x1_1
    obtain ⟨zq65, x1_1⟩ := He.ba x1_1
    obtain ⟨zq66, x1_1⟩ := He.ba x1_1
    obtain ⟨zq67, x1_1⟩ := He.ba x1_1
    obtain ⟨zq68, x1_1⟩ := He.ba x1_1
    obtain ⟨zq69, x1_1⟩ := He.ba x1_1
    obtain ⟨zq70, x1_1⟩ := He.ba x1_1
    obtain ⟨zq71, x1_1⟩ := He.ba x1_1
    obtain ⟨zq72, x1_1⟩ := He.ba x1_1
    obtain ⟨zq73, x1_1⟩ := He.ba x1_1
    obtain ⟨zq74, x1_1⟩ := He.ba x1_1
    obtain ⟨zq75, x1_1⟩ := He.ba x1_1
    obtain ⟨zq76, x1_1⟩ := He.ba x1_1
    obtain ⟨zq77, x1_1⟩ := He.ba x1_1
    obtain ⟨zq78, x1_1⟩ := He.ba x1_1
    have zq79 := x1_1
    obtain ⟨x1_2, x1⟩ := He.ba x1
    unfold HR.ex1_2 at x1_2
    obtain ⟨zq80, x1_2⟩ := He.ba x1_2
    obtain ⟨zq81, x1_2⟩ := He.ba x1_2
    obtain ⟨zq82, x1_2⟩ := He.ba x1_2
    obtain ⟨zq83, x1_2⟩ := He.ba x1_2
    obtain ⟨zq84, x1_2⟩ := He.ba x1_2
    obtain ⟨zq85, x1_2⟩ := He.ba x1_2
    obtain ⟨zq86, x1_2⟩ := He.ba x1_2
    obtain ⟨zq87, x1_2⟩ := He.ba x1_2
    obtain ⟨zq88, x1_2⟩ := He.ba x1_2
    obtain ⟨zq89, x1_2⟩ := He.ba x1_2
    obtain ⟨zq90, x1_2⟩ := He.ba x1_2
    obtain ⟨zq91, x1_2⟩ := He.ba x1_2
    obtain ⟨zq92, x1_2⟩ := He.ba x1_2
    obtain ⟨zq93, x1_2⟩ := He.ba x1_2
    obtain ⟨zq94, x1_2⟩ := He.ba x1_2
    obtain ⟨zq95, x1_2⟩ := He.ba x1_2
    obtain ⟨zq96, x1_2⟩ := He.ba x1_2
    obtain ⟨zq97, x1_2⟩ := He.ba x1_2
    obtain ⟨zq98, x1_2⟩ := He.ba x1_2
    obtain ⟨zq99, x1_2⟩ := He.ba x1_2
    obtain ⟨zq100, x1_2⟩ := He.ba x1_2
    obtain ⟨zq101, x1_2⟩ := He.ba x1_2
    obtain ⟨zq102, x1_2⟩ := He.ba x1_2
    obtain ⟨zq103, x1_2⟩ := He.ba x1_2
    obtain ⟨zq104, x1_2⟩ := He.ba x1_2
    obtain ⟨zq105, x1_2⟩ := He.ba x1_2
    obtain ⟨zq106, x1_2⟩ := He.ba x1_2
    obtain ⟨zq107, x1_2⟩ := He.ba x1_2
    obtain ⟨zq108, x1_2⟩ := He.ba x1_2
    obtain ⟨zq109, x1_2⟩ := He.ba x1_2
    obtain ⟨zq110, x1_2⟩ := He.ba x1_2
    obtain ⟨zq111, x1_2⟩ := He.ba x1_2
    obtain ⟨zq112, x1_2⟩ := He.ba x1_2
    obtain ⟨zq113, x1_2⟩ := He.ba x1_2
    obtain ⟨zq114, x1_2⟩ := He.ba x1_2
    obtain ⟨zq115, x1_2⟩ := He.ba x1_2
    obtain ⟨zq116, x1_2⟩ := He.ba x1_2
    obtain ⟨zq117, x1_2⟩ := He.ba x1_2
    obtain ⟨zq118, x1_2⟩ := He.ba x1_2
    have zq119 := x1_2
    obtain ⟨x1_3, x1⟩ := He.ba x1
    unfold HR.ex1_3 at x1_3
    obtain ⟨zq120, x1_3⟩ := He.ba x1_3
    obtain ⟨zq121, x1_3⟩ := He.ba x1_3
    obtain ⟨zq122, x1_3⟩ := He.ba x1_3
    obtain ⟨zq123, x1_3⟩ := He.ba x1_3
    obtain ⟨zq124, x1_3⟩ := He.ba x1_3
    obtain ⟨zq125, x1_3⟩ := He.ba x1_3
    obtain ⟨zq126, x1_3⟩ := He.ba x1_3
    obtain ⟨zq127, x1_3⟩ := He.ba x1_3
    obtain ⟨zq128, x1_3⟩ := He.ba x1_3
    obtain ⟨zq129, x1_3⟩ := He.ba x1_3
    obtain ⟨zq130, x1_3⟩ := He.ba x1_3
    obtain ⟨zq131, x1_3⟩ := He.ba x1_3
    obtain ⟨zq132, x1_3⟩ := He.ba x1_3
    obtain ⟨zq133, x1_3⟩ := He.ba x1_3
    obtain ⟨zq134, x1_3⟩ := He.ba x1_3
    obtain ⟨zq135, x1_3⟩ := He.ba x1_3
    obtain ⟨zq136, x1_3⟩ := He.ba x1_3
    obtain ⟨zq137, x1_3⟩ := He.ba x1_3
    obtain ⟨zq138, x1_3⟩ := He.ba x1_3
    obtain ⟨zq139, x1_3⟩ := He.ba x1_3
    obtain ⟨zq140, x1_3⟩ := He.ba x1_3
    obtain ⟨zq141, x1_3⟩ := He.ba x1_3
    obtain ⟨zq142, x1_3⟩ := He.ba x1_3
    obtain ⟨zq143, x1_3⟩ := He.ba x1_3
    obtain ⟨zq144, x1_3⟩ := He.ba x1_3
    obtain ⟨zq145, x1_3⟩ := He.ba x1_3
    obtain ⟨zq146, x1_3⟩ := He.ba x1_3
    obtain ⟨zq147, x1_3⟩ := He.ba x1_3
    obtain ⟨zq148, x1_3⟩ := He.ba x1_3
    obtain ⟨zq149, x1_3⟩ := He.ba x1_3
    obtain ⟨zq150, x1_3⟩ := He.ba x1_3
    obtain ⟨zq151, x1_3⟩ := He.ba x1_3
    obtain ⟨zq152, x1_3⟩ := He.ba x1_3
    obtain ⟨zq153, x1_3⟩ := He.ba x1_3
    obtain ⟨zq154, x1_3⟩ := He.ba x1_3
    obtain ⟨zq155, x1_3⟩ := He.ba x1_3
    obtain ⟨zq156, x1_3⟩ := He.ba x1_3
    obtain ⟨zq157, x1_3⟩ := He.ba x1_3
    obtain ⟨zq158, x1_3⟩ := He.ba x1_3
    have zq159 := x1_3
    obtain ⟨x1_4, x1⟩ := He.ba x1
    unfold HR.ex1_4 at x1_4
    obtain ⟨zq160, x1_4⟩ := He.ba x1_4
    obtain ⟨zq161, x1_4⟩ := He.ba x1_4
    obtain ⟨zq162, x1_4⟩ := He.ba x1_4
    obtain ⟨zq163, x1_4⟩ := He.ba x1_4
    obtain ⟨zq164, x1_4⟩ := He.ba x1_4
    obtain ⟨zq165, x1_4⟩ := He.ba x1_4
    obtain ⟨zq166, x1_4⟩ := He.ba x1_4
    obtain ⟨zq167, x1_4⟩ := He.ba x1_4
    obtain ⟨zq168, x1_4⟩ := He.ba x1_4
    obtain ⟨zq169, x1_4⟩ := He.ba x1_4
    obtain ⟨zq170, x1_4⟩ := He.ba x1_4
    obtain ⟨zq171, x1_4⟩ := He.ba x1_4
    obtain ⟨zq172, x1_4⟩ := He.ba x1_4
    obtain ⟨zq173, x1_4⟩ := He.ba x1_4
    obtain ⟨zq174, x1_4⟩ := He.ba x1_4
    obtain ⟨zq175, x1_4⟩ := He.ba x1_4
    obtain ⟨zq176, x1_4⟩ := He.ba x1_4
    obtain ⟨zq177, x1_4⟩ := He.ba x1_4
    obtain ⟨zq178, x1_4⟩ := He.ba x1_4
    obtain ⟨zq179, x1_4⟩ := He.ba x1_4
    obtain ⟨zq180, x1_4⟩ := He.ba x1_4
    obtain ⟨zq181, x1_4⟩ := He.ba x1_4
    obtain ⟨zq182, x1_4⟩ := He.ba x1_4
    obtain ⟨zq183, x1_4⟩ := He.ba x1_4
    obtain ⟨zq184, x1_4⟩ := He.ba x1_4
    obtain ⟨zq185, x1_4⟩ := He.ba x1_4
    obtain ⟨zq186, x1_4⟩ := He.ba x1_4
    obtain ⟨zq187, x1_4⟩ := He.ba x1_4
    obtain ⟨zq188, x1_4⟩ := He.ba x1_4
    obtain ⟨zq189, x1_4⟩ := He.ba x1_4
    obtain ⟨zq190, x1_4⟩ := He.ba x1_4
    obtain ⟨zq191, x1_4⟩ := He.ba x1_4
    obtain ⟨zq192, x1_4⟩ := He.ba x1_4
    obtain ⟨zq193, x1_4⟩ := He.ba x1_4
    obtain ⟨zq194, x1_4⟩ := He.ba x1_4
    obtain ⟨zq195, x1_4⟩ := He.ba x1_4
    obtain ⟨zq196, x1_4⟩ := He.ba x1_4
    obtain ⟨zq197, x1_4⟩ := He.ba x1_4
    obtain ⟨zq198, x1_4⟩ := He.ba x1_4
    have zq199 := x1_4
    have x1_5 := x1
    unfold HR.ex1_5 at x1_5
    obtain ⟨zq200, x1_5⟩ := He.ba x1_5
    obtain ⟨zq201, x1_5⟩ := He.ba x1_5
    obtain ⟨zq202, x1_5⟩ := He.ba x1_5
    obtain ⟨zq203, x1_5⟩ := He.ba x1_5
    obtain ⟨zq204, x1_5⟩ := He.ba x1_5
    obtain ⟨zq205, x1_5⟩ := He.ba x1_5
    obtain ⟨zq206, x1_5⟩ := He.ba x1_5
    obtain ⟨zq207, x1_5⟩ := He.ba x1_5
    obtain ⟨zq208, x1_5⟩ := He.ba x1_5
    obtain ⟨zq209, x1_5⟩ := He.ba x1_5
    obtain ⟨zq210, x1_5⟩ := He.ba x1_5
    obtain ⟨zq211, x1_5⟩ := He.ba x1_5
    obtain ⟨zq212, x1_5⟩ := He.ba x1_5
    obtain ⟨zq213, x1_5⟩ := He.ba x1_5
    obtain ⟨zq214, x1_5⟩ := He.ba x1_5
    obtain ⟨zq215, x1_5⟩ := He.ba x1_5
    obtain ⟨zq216, x1_5⟩ := He.ba x1_5
    obtain ⟨zq217, x1_5⟩ := He.ba x1_5
    obtain ⟨zq218, x1_5⟩ := He.ba x1_5
    obtain ⟨zq219, x1_5⟩ := He.ba x1_5
    obtain ⟨zq220, x1_5⟩ := He.ba x1_5
    obtain ⟨zq221, x1_5⟩ := He.ba x1_5
    obtain ⟨zq222, x1_5⟩ := He.ba x1_5
    have zq223 := x1_5
    obtain ⟨fd, hb, hF⟩ := J.all_mk (P := PySem.Challenge.rw_bestpapers_k81_heights_or_ring.prog) (w := w) (A1 := (He.ga K "BestError")) (A4 := (He.ga K "BadCount")) (A14 := (He.ga K "WrongWidth")) (A31 := (He.ga K "Web")) (A32 := (He.ga K "NoPlace")) (A33 := (He.ga K "BadEdge")) (A34 := (He.ga K "BadSupply")) (A35 := (He.ga K "Unbalanced")) (f0 := (He.ga K "_law_cell")) (fd0 := (JH.fdOf K (He.ga K "_law_cell"))) (f1 := (He.ga K "_law_edge")) (fd1 := (JH.fdOf K (He.ga K "_law_edge"))) (f2 := (He.ga K "_law_recosted")) (fd2 := (JH.fdOf K (He.ga K "_law_recosted"))) (f3 := (He.ga K "_law_free")) (fd3 := (JH.fdOf K (He.ga K "_law_free"))) (f4 := (He.ma K (He.ga K "BadCount") "__init__")) (fd4 := (JH.fdOf K (He.ma K (He.ga K "BadCount") "__init__"))) (f5 := (He.ga K "check_count")) (fd5 := (JH.fdOf K (He.ga K "check_count"))) (f6 := (He.ma K (He.ga K "NoPlace") "__init__")) (fd6 := (JH.fdOf K (He.ma K (He.ga K "NoPlace") "__init__"))) (f7 := (He.ga K "check_place")) (fd7 := (JH.fdOf K (He.ga K "check_place"))) (f8 := (He.ga K "is_amount")) (fd8 := (JH.fdOf K (He.ga K "is_amount"))) (f9 := (He.ga K "is_edge")) (fd9 := (JH.fdOf K (He.ga K "is_edge"))) (f10 := (He.ma K (He.ga K "BadEdge") "__init__")) (fd10 := (JH.fdOf K (He.ma K (He.ga K "BadEdge") "__init__"))) (f11 := (He.ga K "check_edges")) (fd11 := (JH.fdOf K (He.ga K "check_edges"))) (f12 := (He.ma K (He.ga K "WrongWidth") "__init__")) (fd12 := (JH.fdOf K (He.ma K (He.ga K "WrongWidth") "__init__"))) (f13 := (He.ga K "check_width")) (fd13 := (JH.fdOf K (He.ga K "check_width"))) (f14 := (He.ma K (He.ga K "BadSupply") "__init__")) (fd14 := (JH.fdOf K (He.ma K (He.ga K "BadSupply") "__init__"))) (f15 := (He.ma K (He.ga K "Unbalanced") "__init__")) (fd15 := (JH.fdOf K (He.ma K (He.ga K "Unbalanced") "__init__"))) (f16 := (He.ga K "check_supplies")) (fd16 := (JH.fdOf K (He.ga K "check_supplies"))) (f17 := (He.ma K (He.ga K "Web") "__init__")) (fd17 := (JH.fdOf K (He.ma K (He.ga K "Web") "__init__"))) (f18 := (He.ga K "lowered")) (fd18 := (JH.fdOf K (He.ga K "lowered"))) (f19 := (He.ga K "way_to")) (fd19 := (JH.fdOf K (He.ga K "way_to"))) (f20 := (He.ga K "ring_at")) (fd20 := (JH.fdOf K (He.ga K "ring_at"))) (f21 := (He.ga K "heights")) (fd21 := (JH.fdOf K (He.ga K "heights"))) (f22 := (He.ga K "_law_ring")) (fd22 := (JH.fdOf K (He.ga K "_law_ring"))) (f23 := (He.ga K "_law_ring_is")) (fd23 := (JH.fdOf K (He.ga K "_law_ring_is"))) (f24 := (He.ga K "_law_heights_right")) (fd24 := (JH.fdOf K (He.ga K "_law_heights_right"))) (f25 := (He.ga K "_law_edge_faults")) (fd25 := (JH.fdOf K (He.ga K "_law_edge_faults"))) (f26 := (He.ga K "_law_with")) (fd26 := (JH.fdOf K (He.ga K "_law_with"))) (f27 := (He.ga K "_law_integer")) (fd27 := (JH.fdOf K (He.ga K "_law_integer"))) (f28 := (He.ga K "_law_made")) (fd28 := (JH.fdOf K (He.ga K "_law_made"))) (f29 := (He.ga K "_law_edges_asked")) (fd29 := (JH.fdOf K (He.ga K "_law_edges_asked"))) (f30 := (He.ga K "_law_supplies_asked")) (fd30 := (JH.fdOf K (He.ga K "_law_supplies_asked"))) (f31 := (He.ga K "_law_counts_asked")) (fd31 := (JH.fdOf K (He.ga K "_law_counts_asked"))) (f32 := (He.ga K "_law_plain")) (fd32 := (JH.fdOf K (He.ga K "_law_plain"))) (f33 := (He.ga K "law")) (fd33 := (JH.fdOf K (He.ga K "law"))) KX G hmg
      (of_decide_eq_true zq0)
      (of_decide_eq_true zq1)
      (of_decide_eq_true zq2)
      (of_decide_eq_true zq3)
      (of_decide_eq_true zq4)
      (of_decide_eq_true zq5)
      (of_decide_eq_true zq6)
      (of_decide_eq_true zq7)
      (of_decide_eq_true zq8)
      (of_decide_eq_true zq9)
      (JH.fun_of (at_ := fun K => He.ga K "_law_cell") (JH.obA_d (ds := HR.ds0) (ex := HR.ex0) c0 0 rfl))
      (of_decide_eq_true zq10)
      (of_decide_eq_true zq11)
      (JH.fun_of (at_ := fun K => He.ga K "_law_edge") (JH.obA_d (ds := HR.ds0) (ex := HR.ex0) c0 1 rfl))
      (of_decide_eq_true zq12)
      (of_decide_eq_true zq13)
      (JH.fun_of (at_ := fun K => He.ga K "_law_recosted") (JH.obA_d (ds := HR.ds0) (ex := HR.ex0) c0 2 rfl))
      (of_decide_eq_true zq14)
      (of_decide_eq_true zq15)
      (JH.fun_of (at_ := fun K => He.ga K "_law_free") (JH.obA_d (ds := HR.ds0) (ex := HR.ex0) c0 3 rfl))
      (of_decide_eq_true zq16)
      (of_decide_eq_true zq17)
      (JH.int_of zq18)
      (JH.int_of zq19)
      (JH.fun_of (at_ := fun K => He.ma K (He.ga K "BadCount") "__init__") (JH.obA_d (ds := HR.ds0) (ex := HR.ex0) c0 4 rfl))
      (JH.oex_of zq20)
      (of_decide_eq_true zq21)
      (of_decide_eq_true zq22)
      (of_decide_eq_true zq23)
      (of_decide_eq_true zq24)
      (of_decide_eq_true zq25)
      (of_decide_eq_true zq26)
      (of_decide_eq_true zq27)
      (of_decide_eq_true zq28)
      (JH.fun_of (at_ := fun K => He.ga K "check_count") (JH.obA_d (ds := HR.ds0) (ex := HR.ex0) c0 5 rfl))
      (of_decide_eq_true zq29)
      (JH.int_of zq30)
      (of_decide_eq_true zq31)
      (JH.fun_of (at_ := fun K => He.ma K (He.ga K "NoPlace") "__init__") (JH.obA_d (ds := HR.ds0) (ex := HR.ex0) c0 6 rfl))
      (JH.oex_of zq32)
      (of_decide_eq_true zq33)
      (of_decide_eq_true zq34)
      (of_decide_eq_true zq35)
      (of_decide_eq_true zq36)
      (of_decide_eq_true zq37)
      (of_decide_eq_true zq38)
      (of_decide_eq_true zq39)
      (JH.fun_of (at_ := fun K => He.ga K "check_place") (JH.obA_d (ds := HR.ds0) (ex := HR.ex0) c0 7 rfl))
      (of_decide_eq_true zq40)
      (JH.int_of zq41)
      (JH.fun_of (at_ := fun K => He.ga K "is_amount") (JH.obA_d (ds := HR.ds0) (ex := HR.ex0) c0 8 rfl))
      (of_decide_eq_true zq42)
      (JH.fun_of (at_ := fun K => He.ga K "is_edge") (JH.obA_d (ds := HR.ds0) (ex := HR.ex0) c0 9 rfl))
      (of_decide_eq_true zq43)
      (JH.fun_of (at_ := fun K => He.ma K (He.ga K "BadEdge") "__init__") (JH.obA_d (ds := HR.ds0) (ex := HR.ex0) c0 10 rfl))
      (JH.oex_of zq44)
      (of_decide_eq_true zq45)
      (of_decide_eq_true zq46)
      (of_decide_eq_true zq47)
      (of_decide_eq_true zq48)
      (of_decide_eq_true zq49)
      (of_decide_eq_true zq50)
      (of_decide_eq_true zq51)
      (JH.fun_of (at_ := fun K => He.ga K "check_edges") (JH.obA_d (ds := HR.ds0) (ex := HR.ex0) c0 11 rfl))
      (of_decide_eq_true zq52)
      (JH.fun_of (at_ := fun K => He.ma K (He.ga K "WrongWidth") "__init__") (JH.obA_d (ds := HR.ds0) (ex := HR.ex0) c0 12 rfl))
      (JH.oex_of zq53)
      (of_decide_eq_true zq54)
      (of_decide_eq_true zq55)
      (of_decide_eq_true zq56)
      (of_decide_eq_true zq57)
      (of_decide_eq_true zq58)
      (of_decide_eq_true zq59)
      (of_decide_eq_true zq60)
      (of_decide_eq_true zq61)
      (JH.fun_of (at_ := fun K => He.ga K "check_width") (JH.obA_d (ds := HR.ds0) (ex := HR.ex0) c0 13 rfl))
      (of_decide_eq_true zq62)
      (JH.fun_of (at_ := fun K => He.ma K (He.ga K "BadSupply") "__init__") (JH.obA_d (ds := HR.ds0) (ex := HR.ex0) c0 14 rfl))
      (JH.oex_of zq63)
      (of_decide_eq_true zq64)
      (of_decide_eq_true zq65)
      (of_decide_eq_true zq66)
      (of_decide_eq_true zq67)
      (of_decide_eq_true zq68)
      (of_decide_eq_true zq69)
      (of_decide_eq_true zq70)
      (JH.fun_of (at_ := fun K => He.ma K (He.ga K "Unbalanced") "__init__") (JH.obA_d (ds := HR.ds0) (ex := HR.ex0) c0 15 rfl))
      (JH.oex_of zq71)
      (of_decide_eq_true zq72)
      (of_decide_eq_true zq73)
      (of_decide_eq_true zq74)
      (of_decide_eq_true zq75)
      (of_decide_eq_true zq76)
      (of_decide_eq_true zq77)
      (of_decide_eq_true zq78)
      (JH.fun_of (at_ := fun K => He.ga K "check_supplies") (JH.obA_d (ds := HR.ds0) (ex := HR.ex0) c0 16 rfl))
      (of_decide_eq_true zq79)
      (of_decide_eq_true zq80)
      (of_decide_eq_true zq81)
      (of_decide_eq_true zq82)
      (of_decide_eq_true zq83)
      (of_decide_eq_true zq84)
      (of_decide_eq_true zq85)
      (of_decide_eq_true zq86)
      (of_decide_eq_true zq87)
      (JH.fun_of (at_ := fun K => He.ma K (He.ga K "Web") "__init__") (JH.obA_d (ds := HR.ds0) (ex := HR.ex0) c0 17 rfl))
      (of_decide_eq_true zq88)
      (of_decide_eq_true zq89)
      (of_decide_eq_true zq90)
      (of_decide_eq_true zq91)
      (JH.fun_of (at_ := fun K => He.ga K "lowered") (JH.obA_d (ds := HR.ds0) (ex := HR.ex0) c0 18 rfl))
      (of_decide_eq_true zq92)
      (JH.fun_of (at_ := fun K => He.ga K "way_to") (JH.obA_d (ds := HR.ds0) (ex := HR.ex0) c0 19 rfl))
      (of_decide_eq_true zq93)
      (JH.fun_of (at_ := fun K => He.ga K "ring_at") (JH.obA_d (ds := HR.ds0) (ex := HR.ex0) c0 20 rfl))
      (of_decide_eq_true zq94)
      (JH.fun_of (at_ := fun K => He.ga K "heights") (JH.obA_d (ds := HR.ds0) (ex := HR.ex0) c0 21 rfl))
      (of_decide_eq_true zq95)
      (of_decide_eq_true zq96)
      (of_decide_eq_true zq97)
      (JH.fun_of (at_ := fun K => He.ga K "_law_ring") (JH.obA_d (ds := HR.ds0) (ex := HR.ex0) c0 22 rfl))
      (of_decide_eq_true zq98)
      (JH.fun_of (at_ := fun K => He.ga K "_law_ring_is") (JH.obA_d (ds := HR.ds0) (ex := HR.ex0) c0 23 rfl))
      (of_decide_eq_true zq99)
      (JH.fun_of (at_ := fun K => He.ga K "_law_heights_right") (JH.obA_d (ds := HR.ds0) (ex := HR.ex0) c0 24 rfl))
      (of_decide_eq_true zq100)
      (JH.fun_of (at_ := fun K => He.ga K "_law_edge_faults") (JH.obA_d (ds := HR.ds0) (ex := HR.ex0) c0 25 rfl))
      (of_decide_eq_true zq101)
      (JH.fun_of (at_ := fun K => He.ga K "_law_with") (JH.obA_d (ds := HR.ds0) (ex := HR.ex0) c0 26 rfl))
      (of_decide_eq_true zq102)
      (of_decide_eq_true zq103)
      (of_decide_eq_true zq104)
      (of_decide_eq_true zq105)
      (of_decide_eq_true zq106)
      (of_decide_eq_true zq107)
      (of_decide_eq_true zq108)
      (of_decide_eq_true zq109)
      (of_decide_eq_true zq110)
      (of_decide_eq_true zq111)
      (of_decide_eq_true zq112)
      (of_decide_eq_true zq113)
      (of_decide_eq_true zq114)
      (of_decide_eq_true zq115)
      (of_decide_eq_true zq116)
      (of_decide_eq_true zq117)
      (of_decide_eq_true zq118)
      (of_decide_eq_true zq119)
      (of_decide_eq_true zq120)
      (of_decide_eq_true zq121)
      (of_decide_eq_true zq122)
      (of_decide_eq_true zq123)
      (of_decide_eq_true zq124)
      (of_decide_eq_true zq125)
      (of_decide_eq_true zq126)
      (of_decide_eq_true zq127)
      (of_decide_eq_true zq128)
      (of_decide_eq_true zq129)
      (of_decide_eq_true zq130)
      (of_decide_eq_true zq131)
      (of_decide_eq_true zq132)
      (of_decide_eq_true zq133)
      (of_decide_eq_true zq134)
      (of_decide_eq_true zq135)
      (of_decide_eq_true zq136)
      (of_decide_eq_true zq137)
      (of_decide_eq_true zq138)
      (of_decide_eq_true zq139)
      (of_decide_eq_true zq140)
      (of_decide_eq_true zq141)
      (of_decide_eq_true zq142)
      (of_decide_eq_true zq143)
      (of_decide_eq_true zq144)
      (of_decide_eq_true zq145)
      (of_decide_eq_true zq146)
      (of_decide_eq_true zq147)
      (of_decide_eq_true zq148)
      (of_decide_eq_true zq149)
      (of_decide_eq_true zq150)
      (of_decide_eq_true zq151)
      (of_decide_eq_true zq152)
      (of_decide_eq_true zq153)
      (of_decide_eq_true zq154)
      (of_decide_eq_true zq155)
      (of_decide_eq_true zq156)
      (of_decide_eq_true zq157)
      (of_decide_eq_true zq158)
      (of_decide_eq_true zq159)
      (of_decide_eq_true zq160)
      (of_decide_eq_true zq161)
      (of_decide_eq_true zq162)
      (of_decide_eq_true zq163)
      (of_decide_eq_true zq164)
      (of_decide_eq_true zq165)
      (of_decide_eq_true zq166)
      (of_decide_eq_true zq167)
      (of_decide_eq_true zq168)
      (of_decide_eq_true zq169)
      (of_decide_eq_true zq170)
      (of_decide_eq_true zq171)
      (of_decide_eq_true zq172)
      (of_decide_eq_true zq173)
      (of_decide_eq_true zq174)
      (of_decide_eq_true zq175)
      (of_decide_eq_true zq176)
      (of_decide_eq_true zq177)
      (of_decide_eq_true zq178)
      (of_decide_eq_true zq179)
      (of_decide_eq_true zq180)
      (of_decide_eq_true zq181)
      (of_decide_eq_true zq182)
      (of_decide_eq_true zq183)
      (of_decide_eq_true zq184)
      (of_decide_eq_true zq185)
      (of_decide_eq_true zq186)
      (of_decide_eq_true zq187)
      (of_decide_eq_true zq188)
      (of_decide_eq_true zq189)
      (of_decide_eq_true zq190)
      (of_decide_eq_true zq191)
      (of_decide_eq_true zq192)
      (of_decide_eq_true zq193)
      (of_decide_eq_true zq194)
      (of_decide_eq_true zq195)
      (of_decide_eq_true zq196)
      (of_decide_eq_true zq197)
      (of_decide_eq_true zq198)
      (of_decide_eq_true zq199)
      (of_decide_eq_true zq200)
      (of_decide_eq_true zq201)
      (of_decide_eq_true zq202)
      (of_decide_eq_true zq203)
      (of_decide_eq_true zq204)
      (of_decide_eq_true zq205)
      (of_decide_eq_true zq206)
      (of_decide_eq_true zq207)
      (of_decide_eq_true zq208)
      (of_decide_eq_true zq209)
      (of_decide_eq_true zq210)
      (of_decide_eq_true zq211)
      (of_decide_eq_true zq212)
      (of_decide_eq_true zq213)
      (of_decide_eq_true zq214)
      (of_decide_eq_true zq215)
      (of_decide_eq_true zq216)
      (JH.fun_of (at_ := fun K => He.ga K "_law_integer") (JH.obA_d (ds := HR.ds0) (ex := HR.ex0) c0 27 rfl))
      (of_decide_eq_true zq217)
      (JH.fun_of (at_ := fun K => He.ga K "_law_made") (JH.obA_d (ds := HR.ds0) (ex := HR.ex0) c0 28 rfl))
      (of_decide_eq_true zq218)
      (JH.fun_of (at_ := fun K => He.ga K "_law_edges_asked") (JH.obA_d (ds := HR.ds0) (ex := HR.ex0) c0 29 rfl))
      (of_decide_eq_true zq219)
      (JH.fun_of (at_ := fun K => He.ga K "_law_supplies_asked") (JH.obA_d (ds := HR.ds0) (ex := HR.ex0) c0 30 rfl))
      (of_decide_eq_true zq220)
      (JH.fun_of (at_ := fun K => He.ga K "_law_counts_asked") (JH.obA_d (ds := HR.ds0) (ex := HR.ex0) c0 31 rfl))
      (of_decide_eq_true zq221)
      (JH.fun_of (at_ := fun K => He.ga K "_law_plain") (JH.obA_d (ds := HR.ds0) (ex := HR.ex0) c0 32 rfl))
      (of_decide_eq_true zq222)
      (JH.fun_of (at_ := fun K => He.ga K "law") (JH.obA_d (ds := HR.ds0) (ex := HR.ex0) c0 33 rfl))
      (of_decide_eq_true zq223)
    exact ⟨K, fd, J.spLaw K, KX, hb, fun H a ns hl _ hS => ⟨a, ns, rfl, hS, fun _ => rfl⟩, hF⟩


