import PyProof.Rows.All
import Wide.All
import OpenK.AllK
import Wide.FinOn
import HandS.ForMost
import HandS.ForExc
import HandS.EndBits
import HandS.Gcd
import HandS.IsInst
import HandS.ExcIs
import HandS.OwnEq
import HandS.Defaults
import HandS.Wide
import HandS.Property
import KE.IntBitsLaws
import KE.KMathG
import HandS.Iter
import HandS.Walk
import HandS.Codes
import HandS.NamedTupSort
import HandS.TupAny
import HandS.Conv
import HandS.Zip
import KE.GoesZip
import KE.GoesMore
import KE.KOpsOwn
import HandS.TryOnly
import HandS.ExcOwn
import HandS.Deep
import HandS.ExcInit
import HandS.ExcField
import HandS.FStr
import HandS.Nested
import KE.KExcSuper
import KE.KSuper
import HandS.Style
import HandS.NoneIn
import KE.RegKIsAll
import PySem.Challenge.RW_indicial_k20_orders_and_degrees
set_option Elab.async false
set_option linter.all false
set_option maxRecDepth 100000
set_option maxHeartbeats 4000000
namespace Ind
open PySem PySem.Spec PyProof.Rows L2
open Builtin.Int (intBits)

/-! ### operators over ints of any size -/
/-- what a body must show for // of any size -/
structure Far (X : Cx) : Prop where
  seer : X.base.NoSeer
  tree : X.prog.given.tree = none
  stk : ∃ e l, X.stack = e :: l ∧ e.scope.isGenerator = false ∧ e.scope.isCoroutine = false ∧ e.builtins = builtinsNs ∧ e.globals = mainGlobals
  room : Room 40 X.A
theorem op_fdivB {X : Cx} (f : Far X) : OpR X (binaryOp .FloorDiv) (rI (fun _ j => j ≠ 0) fun i j => .int (i.fdiv j)) := by
  intro pins s σ H x y v u Q I rx ry h
  obtain ⟨i, j, rfl, rfl, hc, q⟩ := h
  obtain ⟨t, rfl⟩ := rx
  obtain ⟨t', rfl⟩ := ry
  obtain ⟨e, l, hs, hg, hco, hb, hgl⟩ := f.stk
  refine floordiv_int hc ⟨.int (i.fdiv j), H, I.tok _, ⟨_, rfl⟩, q⟩ (.inr (PylongRoom.of I.nolimit ?_ (SeerAt.of (env := e) (l := l) (f.seer.keeps I.bk) f.tree ?_ hg hco hb hgl)))
  · have h1 := f.room.dp
    have h2 : Builtin.pylongFrames = 100 := rfl
    omega
  · rw [I.ok.frames, hs]
theorem op_mulB {X : Cx} : OpR X (binaryOp .Mult) (rI (fun i j => intBits i + intBits j ≤ 134217728) fun i j => .int (i * j)) :=
  opI fun i j _ _ _ _ _ hc q => mul_int q (IntMulOk.of_le (Nat.le_refl _) (Nat.le_refl _) hc)

/-- tracked objects stay -/
theorem same_rfl {H : Hp} : Same H H := fun _ _ e => e
end Ind

set_option Elab.async false
set_option linter.all false
set_option maxRecDepth 100000
set_option maxHeartbeats 4000000
namespace Ind
open PySem PySem.Spec PyProof.Rows L2
open Builtin.Int (intBits)
/-! ### lcm of ints of any size -/
def InvRoom (M : Model) (A : Around) (s : Shared) : Prop :=
  ∀ (u n : Nat) (E : Value → Shared → Prop) (Q : Unit → Shared → Prop), Q () s → wpAny M { A with units := u } (Builtin.roomForPylongsInverse n) Q E s
theorem InvRoom.of {M : Model} {A : Around} {s : Shared} (hl : s.heap.NoLimit) (hd : A.depth + Builtin.pylongFrames < recursionLimit) (hs : SeerAt M A s.heap) : InvRoom M A s := fun u n E Q h => by
  unfold Builtin.roomForPylongsInverse
  by_cases hb : n.log2 / 30 + 1 > 450
  · rw [if_pos hb]
    refine wpAny_bind (hs u s E _ rfl ?_)
    exact wpAny_pylongFrames (A := { A with units := u }) hl hd h
  · rw [if_neg hb]
    exact wpAny_pure h
section
variable {prog : Program} {w : World} {A : Around} {E : Value → Shared → Prop} {s : Shared} {a b : Int} {t u : Tok} {Q : Value → Shared → Prop}
theorem call_lcmB (hp : InvRoom (model prog w) A s) (hsz : (((Nat.lcm (Nat.lcm 1 a.natAbs) b.natAbs : Nat) : Int)).natAbs.log2 < bitsLine) (h : Q (.int (((Nat.lcm (Nat.lcm 1 a.natAbs) b.natAbs : Nat) : Int)) s.toks) { s with toks := s.toks + 1 }) :
    wpAny (model prog w) A (call (.builtin "math.lcm") [.int a t, .int b u]) Q E s := by
  refine wpAny_call (codeAny_call_builtin PySem.W.MGF.plain_lcm PySem.W.MGF.entry_lcm ?_)
  have hfin : wpAny (model prog w) A.in1 (Builtin.«math.lcm» ⟨[.int a t, .int b u], []⟩) (fun fin s' => match fin with | .done f => (match (.ok f : Result) with | .ok (.ret v) => Q v s' | .ok _ => False | .error e => E e s') | .again c' => c'.quiet = true ∧ codeAny (model prog w) A c' (fun r s' => match r with | .ok (.ret v) => Q v s' | .ok _ => False | .error e => E e s') s') (fun e s' => E e s') s := by
    unfold Builtin.«math.lcm»
    obtain ⟨hp', g, d, tk, os⟩ := s
    wp_walk
    refine hp _ (max 1 a.natAbs) _ _ ?_
    wp_walk
    refine hp _ (max (Nat.lcm 1 a.natAbs) b.natAbs) _ _ ?_
    wp_walk
    (try (refine wpAny_ite_false (decide_eq_false (Nat.not_le.mpr hsz)) ?_; wp_walk))
    exact h
  simp only [checkBuiltinCall, PySem.W.MGF.kind_lcm]
  have ok := PySem.W.MGF.args_lcm (.int a t) (.int b u)
  cases hsig : Manifest.signature? "math.lcm" with
  | none => exact wpAny_pure hfin
  | some sig =>
    simp only [argsOk, hsig] at ok
    have h2 : Bind.checkArgs "math.lcm" sig ⟨[.int a t, .int b u], []⟩ = pure () := ok
    show wpAny _ _ (Bind.checkArgs "math.lcm" sig ⟨[.int a t, .int b u], []⟩) _ _ s
    rw [h2]; exact wpAny_pure hfin
end
def rLcmB : List V → Hp → VK → Prop := fun vs H Q => ∃ a b : Int, vs = [.int a, .int b] ∧ a ≠ 0 ∧ b ≠ 0 ∧ intBits a ≤ 40000000 ∧ intBits b ≤ 40000000 ∧ Q (.int ((Nat.lcm a.natAbs b.natAbs : Nat) : Int)) H
theorem cr_lcmB {X : Cx} (f : Far X) : CallR X (.builtin "math.lcm") rLcmB := by
  intro pins s σ H vs us Q I r h
  obtain ⟨a, b, rfl, ha, hb, la, lb, q⟩ := h
  obtain ⟨t, u, rfl⟩ := Vals.int2 r
  have e : Nat.lcm 1 a.natAbs = a.natAbs := Nat.lcm_one_left _
  have hp : 0 < Nat.lcm a.natAbs b.natAbs := Nat.lcm_pos (by omega) (by omega)
  have hle : Nat.lcm a.natAbs b.natAbs ≤ a.natAbs * b.natAbs := Nat.lcm_le_mul (by omega) (by omega)
  have hsz : (((((Nat.lcm 1 a.natAbs).lcm b.natAbs : Nat) : Int)).natAbs).log2 < bitsLine := by
    rw [e]
    have h16 : intBits (a * b) ≤ 80000000 := PySem.intBits_mul_le la lb
    have h17 := PySem.intBits_le_iff.mp h16
    rw [Int.natAbs_mul] at h17
    have h18 : (((Nat.lcm a.natAbs b.natAbs : Nat) : Int)).natAbs < 2 ^ 80000000 := Nat.lt_of_le_of_lt hle h17
    have h19 : (((Nat.lcm a.natAbs b.natAbs : Nat) : Int)).natAbs.log2 < 80000000 := (Nat.log2_lt (Nat.ne_of_gt hp)).mpr h18
    exact Nat.lt_of_lt_of_le h19 (by decide)
  obtain ⟨e', l, hs, hg, hco, hb', hgl⟩ := f.stk
  refine call_lcmB (InvRoom.of I.nolimit ?_ (SeerAt.of (env := e') (l := l) (f.seer.keeps I.bk) f.tree ?_ hg hco hb' hgl)) hsz ?_
  · have h1 := f.room.dp
    have h2 : Builtin.pylongFrames = 100 := rfl
    omega
  · rw [I.ok.frames, hs]
  · rw [e]
    exact ⟨.int _, H, I.tok _, ⟨_, rfl⟩, q⟩
end Ind

set_option Elab.async false
set_option linter.all false
set_option maxRecDepth 100000
set_option maxHeartbeats 4000000
namespace Ind
open PySem PySem.Spec PyProof.Rows L2
open Builtin.Int (intBits)
def top (i : Nat) : Stmt := PySem.Challenge.pw_indicial_k20_orders_and_degrees.main.body.getD i (.Pass ⟨0, 0, 0, 0⟩)
abbrev sInit : Stmt := inClass (top 29) 0
/-! ### the divisor with the denominator's sign; lowest terms -/
def cg (n d : Int) : Int := if d < 0 then -((Nat.gcd n.natAbs d.natAbs : Nat) : Int) else ((Nat.gcd n.natAbs d.natAbs : Nat) : Int)
def nN (n d : Int) : Int := n.fdiv (cg n d)
def nD (n d : Int) : Int := d.fdiv (cg n d)
theorem cg_ne {n d : Int} (h : d ≠ 0) : cg n d ≠ 0 := by
  have h1 : 0 < Nat.gcd n.natAbs d.natAbs := Nat.gcd_pos_of_pos_right _ (by omega)
  unfold cg
  split <;> omega
/-! ### a number's fields -/
theorem nd_ : ¬ (("n" : Str) = "d") := by decide +kernel
theorem dn_ : ¬ (("d" : Str) = "n") := by decide +kernel
def rf (a b : Int) : List (Str × V) := putF "d" (.int b) (putF "n" (.int a) [])
theorem rf_eq (a b : Int) : rf a b = ([("n", V.int a), ("d", V.int b)] : List (Str × V)) := by
  show (if ("n" : Str) = "d" then [(("n" : Str), V.int b)] else (("n" : Str), V.int a) :: putF "d" (V.int b) []) = ([("n", V.int a), ("d", V.int b)] : List (Str × V))
  rw [if_neg nd_]
  all_goals rfl
theorem rf_n (a b : Int) : (rf a b).lookup ("n" : Str) = some (.int a) := by
  unfold rf
  rw [lookup_putF, if_neg nd_, lookup_putF, if_pos rfl]
theorem rf_d (a b : Int) : (rf a b).lookup ("d" : Str) = some (.int b) := by
  unfold rf
  rw [lookup_putF, if_pos rfl]
theorem rf_no (a b : Int) {m : Str} (h1 : ¬ m = "d") (h2 : ¬ m = "n") : (rf a b).lookup m = none := by
  unfold rf
  rw [lookup_putF, if_neg h1, lookup_putF, if_neg h2]
  all_goals rfl
def RatAt (C : Addr) (H : Hp) (p : Addr) (a b : Int) : Prop := ∃ dx, H p = some (.ins C dx (rf a b))
theorem RatAt.same {C : Addr} {H H' : Hp} {p : Addr} {a b : Int} (r : RatAt C H p a b) (s : Same H H') : RatAt C H' p a b := let ⟨dx, e⟩ := r; ⟨dx, s _ _ e⟩
/-- what the top says of Ratio and of ZeroDivisor -/
structure TxR (K : PySem.W.Frag) (mg : Str → Option Value) (C Z : Addr) : Prop where
  cl : Cls K C
  nN : NoAttr K C "n"
  nD : NoAttr K C "d"
  mgC : mg "Ratio" = some (.ref C)
  gcd : mg "gcd" = some (.builtin "math.gcd")
  xZ : PySem.W.excIn K Z [.type "ValueError", .type "Exception", .type "BaseException", .type "object"] "ValueError.__new__" = true
  gZ : mg "ZeroDivisor" = some (.ref Z)
  kZ : PySem.W.keepIn K (.ref Z) = true
  bZ : PySem.W.subIn K (.ref Z) (.type "BaseException") = some true
  tZ : PySem.W.typeIn K (.ref Z) = some (.type "type")
def spInit (C Z : Addr) : Sp := fun vs H Q E => ∃ (p dx : Addr) (n d : Int), vs = [.ref p, .int n, .int d] ∧ H p = some (.ins C dx []) ∧ (d = 0 → E (.ref Z) none H) ∧
  (d ≠ 0 → ∀ H' : Hp, RatAt C H' p (nN n d) (nD n d) → (∀ b o, H b = some o → b ≠ p → H' b = some o) → Q .non H')
section
variable {P : Program} {w : World} {K : PySem.W.Frag} {mg : Str → Option Value} {base : Heap} {C Z : Addr}
theorem scI : FnScope ["self", "n", "d", "common"] ["self", "n", "d"] (defScope sInit) := ⟨rfl, rfl, rfl, by decide +kernel, rfl, by decide +kernel, by decide +kernel⟩
theorem ok_init {f : Addr} {fd : FuncData} (hN : base.NoSeer) (hT : P.given.tree = none) (F : FunD K "__init__" "Ratio.__init__" (defArgs sInit) (defBody sInit) (defScope sInit) [.int 1] [] f fd) (T : TxR K mg C Z) :
    FnOk P w K mg base (L2.CX P w) 41 f fd ["self", "n", "d"] (spInit C Z) := by
  refine F.ok (CX := L2.CX P w) (k := 40) scI (fun vs H Q E h => ?_) (fun cdv A outer s H vs Q E hr h => ?_)
  · obtain ⟨p, dx, n, d, rfl, _⟩ := h
    rfl
  · obtain ⟨p, dx, n, d, rfl, hp, kz, k⟩ := h
    have far : Far (cxOf (L2.CX P w) P w K mg base ["self", "n", "d", "common"] "Ratio.__init__" (defScope sInit) f cdv A outer s H E) := ⟨hN, hT, ⟨_, _, rfl, rfl, rfl, rfl, rfl⟩, hr⟩
    refine ⟨_, pss_cons (ps_if (pt_cmpR op_eq (pv 2) pe_int (nomark _)) (pss_one (ps_raise rfl (takes_of rfl rfl rfl rfl) (pmk_own PySem.F.excBase_ValueError T.xZ T.gZ T.kZ (raises_own T.bZ T.tZ) rfl))) pss_nil)
      (pss_cons (ps_set (i := 3) scI.nd rfl (Or.inl rfl) (pe_callBfun cr_gcd (by rfl) T.gcd (pa_cons (pv 1) (pa_cons (pv 2) pa_nil))))
      (pss_cons (ps_if (pt_cmpR op_lt (pv 2) pe_int (nomark _)) (pss_one (ps_set (i := 3) scI.nd rfl (Or.inl rfl) (pe_un un_neg (pv 3)))) pss_nil)
      (pss_cons (ps_fld (pv 0) (pe_op (op_fdivB far) (pv 1) (pv 3)) rfl)
      (pss_one (ps_fld (pv 0) (pe_op (op_fdivB far) (pv 2) (pv 3)) rfl))))), ?_⟩
    refine ⟨_, rfl, rfl, _, rfl, ite2 (fun c => ?_) (fun c => ?_)⟩
    · exact kz (by simpa using c)
    · have hd : d ≠ 0 := by simpa using c
      refine ⟨_, rfl, _, rfl, _, _, rfl, ?_⟩
      have put : putF "d" (V.int (d.fdiv (cg n d))) (putF "n" (V.int (n.fdiv (cg n d))) []) = rf (nN n d) (nD n d) := rfl
      have fin : ∀ b o, H b = some o → b ≠ p → (upd (upd H p (.ins C dx (putF "n" (.int (nN n d)) []))) p (.ins C dx (rf (nN n d) (nD n d)))) b = some o := fun b o e hb => by
        rw [upd_ne hb, upd_ne hb]
        exact e
      refine ⟨_, rfl, _, _, rfl, rfl, _, rfl, ite2 (fun c2 => ?_) (fun c2 => ?_)⟩
      · have hneg : d < 0 := by simpa using c2
        have ec : -((Nat.gcd n.natAbs d.natAbs : Nat) : Int) = cg n d := by unfold cg; rw [if_pos hneg]
        refine ⟨_, rfl, _, rfl, _, rfl, _, rfl, _, _, rfl, rfl, by rw [ec]; exact cg_ne hd, _, rfl, p, C, dx, [], rfl, hp, T.cl, T.nN, by decide, ?_⟩
        refine ⟨_, rfl, _, rfl, _, _, rfl, rfl, by rw [ec]; exact cg_ne hd, _, rfl, p, C, dx, _, rfl, upd_same, T.cl, T.nD, (by show 1 < 1000; decide), ?_⟩
        rw [ec]
        exact k hd _ ⟨dx, upd_same⟩ fin
      · have hneg : ¬ d < 0 := by simpa using c2
        have ec : ((Nat.gcd n.natAbs d.natAbs : Nat) : Int) = cg n d := by unfold cg; rw [if_neg hneg]
        refine ⟨_, rfl, _, rfl, _, _, rfl, rfl, by rw [ec]; exact cg_ne hd, _, rfl, p, C, dx, [], rfl, hp, T.cl, T.nN, by decide, ?_⟩
        refine ⟨_, rfl, _, rfl, _, _, rfl, rfl, by rw [ec]; exact cg_ne hd, _, rfl, p, C, dx, _, rfl, upd_same, T.cl, T.nD, (by show 1 < 1000; decide), ?_⟩
        rw [ec]
        exact k hd _ ⟨dx, upd_same⟩ fin
end
end Ind

set_option Elab.async false
set_option linter.all false
set_option maxRecDepth 100000
set_option maxHeartbeats 4000000
namespace Ind
open PySem PySem.Spec PyProof.Rows L2
open Builtin.Int (intBits)
abbrev sCell : Stmt := top 99
abbrev sDraws : Stmt := top 99
abbrev sGcd : Stmt := top 47
abbrev sIsI : Stmt := top 99
abbrev sPair : Stmt := top 51
/-! ### the law's helpers: what each promises -/
def cell (ns : List Int) (k : Nat) : Int := ns.getD k 0
theorem atI_of {α : Type} {xs : List α} {k : Nat} {x : α} (h : xs[k]? = some x) : atI xs ((k : Nat) : Int) = some x := by
  have hk : k < xs.length := (List.getElem?_eq_some_iff.mp h).1
  have h1 : ixN xs.length ((k : Nat) : Int) = some k := by
    unfold ixN
    rw [if_pos (by omega), if_pos (by omega)]
    all_goals rfl
  unfold atI
  rw [h1]
  exact h
def spCellI (K : PySem.W.Frag) : Sp := fun vs H Q _ => ∃ (a : Addr) (ns : List Int) (k : Nat), vs = [.ref a, .int k] ∧ SqL K H a (ns.map V.int) ∧ Q (.int (cell ns k)) H
/-- draws in their range -/
def InR (ds : List Int) (n : Nat) (b : Int) : Prop := ds.length = n ∧ ∀ d ∈ ds, 0 ≤ d ∧ d < b
def spDraws (K : PySem.W.Frag) : Sp := fun vs H Q _ => ∃ (a : Addr) (ns : List Int) (k n : Nat) (b : Int), vs = [.ref a, .int k, .int n, .int b] ∧ SqL K H a (ns.map V.int) ∧ k ≤ 1000 ∧ n ≤ 1000 ∧ 0 < b ∧ b < 1000000 ∧
  ∀ (ds : List Int) (H' : Hp) (p : Addr), InR ds n b → Same H H' → H p = none → H' p = some (.lst (ds.map V.int)) → Q (.ref p) H'
def spGcdI : Sp := fun vs H Q _ => ∃ a b : Int, vs = [.int a, .int b] ∧ Q (.int ((Nat.gcd a.natAbs b.natAbs : Nat) : Int)) H
def spIsI : Sp := fun vs H Q _ => ∃ a : Int, vs = [.int a] ∧ Q (.bl true) H
def spPair (C : Addr) : Sp := fun vs H Q _ => ∃ (p : Addr) (a b : Int), vs = [.ref p] ∧ RatAt C H p a b ∧ 0 < b ∧ Nat.gcd a.natAbs b.natAbs = 1 ∧
  ∀ (H' : Hp) (t : Addr), Same H H' → H t = none → H' t = some (.tup [.int a, .int b]) → Q (.ref t) H'
/-- what the top says of built-ins that the helpers name -/
structure TxL (K : PySem.W.Frag) (mg : Str → Option Value) : Prop where
  len : mg "len" = none
  range : mg "range" = none
  int : mg "int" = none
  abs : mg "abs" = none
  isinstance : mg "isinstance" = none
  bool : mg "bool" = none
theorem same_upd {H : Hp} {p : Addr} {o : HO} (h : H p = none) : Same H (upd H p o) := fun b u e => by
  rw [upd_ne (ne_of_none e h)]
  exact e
section
variable {P : Program} {w : World} {K : PySem.W.Frag} {mg : Str → Option Value} {base : Heap} {C Z : Addr}
theorem abs_nat (i : Int) : (if i < 0 then -i else i) = ((i.natAbs : Nat) : Int) := by split <;> omega
end
end Ind

set_option Elab.async false
set_option linter.all false
set_option maxRecDepth 100000
set_option maxHeartbeats 4000000
namespace Ind
open PySem PySem.Spec PyProof.Rows L2
open Builtin.Int (intBits)
/-- what isinstance asks of Ratio as the value's class -/
structure TxI (K : PySem.W.Frag) (C : Addr) : Prop where
  ha : PySem.W.findIn K (.ref C) "__class__" = some (some (.builtin "object.__class__"))
  hn : PySem.W.specialIn K (.builtin "object.__class__") "__get__" = some (some (.builtin "getset_descriptor.__get__"))
  ht : PySem.W.takesIn K (.builtin "object.__class__") = some true
  hm : PySem.W.mroIn K C (.type "object") = some true
  kC : PySem.W.kitOne K (.ref C) (.ref C) = some true
section
variable {P : Program} {w : World} {K : PySem.W.Frag} {mg : Str → Option Value} {base : Heap} {C Z : Addr}
end
end Ind

set_option Elab.async false
set_option linter.all false
set_option maxRecDepth 100000
set_option maxHeartbeats 4000000
namespace Ind
open PySem PySem.Spec PyProof.Rows L2
open Builtin.Int (intBits)
structure DrSt (H H' : Hp) (l : Addr) (ds : List Int) (i : Nat) (b : Int) : Prop where
  s : Same H H'
  n : H l = none
  at_ : H' l = some (.lst (ds.map V.int))
  r : InR ds i b
theorem DrSt.push {H H' : Hp} {l : Addr} {ds : List Int} {i : Nat} {b z : Int} (x : DrSt H H' l ds i b) (h0 : 0 ≤ z) (h1 : z < b) : DrSt H (upd H' l (.lst (ds.map V.int ++ [.int z]))) l (ds ++ [z]) (i + 1) b where
  s := fun c o e => by
    have hc : c ≠ l := ne_of_none e x.n
    rw [upd_ne hc]
    exact x.s c o e
  n := x.n
  at_ := by
    rw [upd_same, List.map_append]
    rfl
  r := by
    refine ⟨by rw [List.length_append, x.r.1]; rfl, fun d hd => ?_⟩
    rcases List.mem_append.mp hd with h | h
    · exact x.r.2 d h
    · have e : d = z := by simpa using h
      subst e
      exact ⟨h0, h1⟩
theorem fmod_in {x b : Int} (h : 0 < b) : 0 ≤ x.fmod b ∧ x.fmod b < b := ⟨Int.fmod_nonneg_of_pos x h, Int.fmod_lt_of_pos x h⟩
section
variable {P : Program} {w : World} {K : PySem.W.Frag} {mg : Str → Option Value} {base : Heap} {C Z : Addr}
end
end Ind

set_option Elab.async false
namespace Ind
open PySem.Builtin.Int (intBits)
theorem cg_natAbs (n d : Int) : (cg n d).natAbs = Nat.gcd n.natAbs d.natAbs := by
  unfold cg
  split <;> omega
theorem fdiv_of_mul {a b q : Int} (hb : b ≠ 0) (h : a = q * b) : a.fdiv b = q := by
  rw [h]
  exact Int.mul_fdiv_cancel _ hb
theorem cg_dvd_n (n d : Int) : cg n d ∣ n := by
  have h : (cg n d).natAbs ∣ n.natAbs := by rw [cg_natAbs]; exact Nat.gcd_dvd_left _ _
  exact Int.natAbs_dvd_natAbs.mp h
theorem cg_dvd_d (n d : Int) : cg n d ∣ d := by
  have h : (cg n d).natAbs ∣ d.natAbs := by rw [cg_natAbs]; exact Nat.gcd_dvd_right _ _
  exact Int.natAbs_dvd_natAbs.mp h
theorem nN_mul {n d : Int} (h : d ≠ 0) : n = nN n d * cg n d := by
  obtain ⟨q, e⟩ := cg_dvd_n n d
  have e2 : nN n d = q := fdiv_of_mul (cg_ne h) (e.trans (Int.mul_comm _ _))
  rw [e2, Int.mul_comm]
  exact e
theorem nD_mul {n d : Int} (h : d ≠ 0) : d = nD n d * cg n d := by
  obtain ⟨q, e⟩ := cg_dvd_d n d
  have e2 : nD n d = q := fdiv_of_mul (cg_ne h) (e.trans (Int.mul_comm _ _))
  rw [e2, Int.mul_comm]
  exact e
theorem nD_pos {n d : Int} (h : d ≠ 0) : 0 < nD n d := by
  have e := nD_mul (n := n) h
  have g := cg_natAbs n d
  have gp : 0 < Nat.gcd n.natAbs d.natAbs := Nat.gcd_pos_of_pos_right _ (by omega)
  by_cases hd : d < 0
  · have hc : cg n d < 0 := by
      unfold cg
      rw [if_pos hd]
      omega
    by_cases hq : 0 < nD n d
    · exact hq
    · have : 0 ≤ nD n d * cg n d := Int.mul_nonneg_of_nonpos_of_nonpos (by omega) (by omega)
      omega
  · have hc : 0 < cg n d := by
      unfold cg
      rw [if_neg hd]
      omega
    by_cases hq : 0 < nD n d
    · exact hq
    · have : nD n d * cg n d ≤ 0 := Int.mul_nonpos_of_nonpos_of_nonneg (by omega) (by omega)
      omega
theorem n_gcd {n d : Int} (h : d ≠ 0) : Nat.gcd (nN n d).natAbs (nD n d).natAbs = 1 := by
  have e1 : n.natAbs = (nN n d).natAbs * (cg n d).natAbs := by
    rw [← Int.natAbs_mul, ← nN_mul h]
  have e2 : d.natAbs = (nD n d).natAbs * (cg n d).natAbs := by
    rw [← Int.natAbs_mul, ← nD_mul h]
  have g := cg_natAbs n d
  have hg : 0 < (cg n d).natAbs := by
    have := cg_ne (n := n) h
    omega
  have e3 : Nat.gcd n.natAbs d.natAbs = Nat.gcd (nN n d).natAbs (nD n d).natAbs * (cg n d).natAbs := by
    conv => lhs; rw [e1, e2]
    rw [Nat.gcd_mul_right]
  rw [← g] at e3
  have e4 : 1 * (cg n d).natAbs = Nat.gcd (nN n d).natAbs (nD n d).natAbs * (cg n d).natAbs := by rw [Nat.one_mul]; exact e3
  exact (Nat.eq_of_mul_eq_mul_right hg e4).symm
theorem n_cross {n d : Int} (h : d ≠ 0) : nN n d * d = n * nD n d := by
  have e1 := nN_mul (n := n) h
  have e2 := nD_mul (n := n) h
  calc nN n d * d = nN n d * (nD n d * cg n d) := by rw [← e2]
    _ = (nN n d * cg n d) * nD n d := by rw [Int.mul_comm (nD n d), Int.mul_assoc]
    _ = n * nD n d := by rw [← e1]
/-- two fractions in lowest terms of one value are one -/
theorem low_uniq {p q r s : Int} (hq : 0 < q) (hs : 0 < s) (g1 : Nat.gcd p.natAbs q.natAbs = 1) (g2 : Nat.gcd r.natAbs s.natAbs = 1) (e : p * s = r * q) : p = r ∧ q = s := by
  have en : p.natAbs * s.natAbs = r.natAbs * q.natAbs := by rw [← Int.natAbs_mul, ← Int.natAbs_mul, e]
  have d1 : q.natAbs ∣ s.natAbs := Nat.Coprime.dvd_of_dvd_mul_left (Nat.Coprime.symm g1) ⟨r.natAbs, by rw [en, Nat.mul_comm]⟩
  have d2 : s.natAbs ∣ q.natAbs := Nat.Coprime.dvd_of_dvd_mul_left (Nat.Coprime.symm g2) ⟨p.natAbs, by rw [← en, Nat.mul_comm]⟩
  have e1 : q.natAbs = s.natAbs := Nat.dvd_antisymm d1 d2
  have e2 : q = s := by omega
  subst e2
  exact ⟨Int.eq_of_mul_eq_mul_right (by omega) e, rfl⟩
theorem n_uniq {a b c d : Int} (hb : b ≠ 0) (hd : d ≠ 0) (e : a * d = c * b) : nN a b = nN c d ∧ nD a b = nD c d := by
  refine low_uniq (nD_pos hb) (nD_pos hd) (n_gcd hb) (n_gcd hd) ?_
  have e1 := n_cross (n := a) hb
  have e2 := n_cross (n := c) hd
  have z : (nN a b * nD c d) * (b * d) = (nN c d * nD a b) * (b * d) := by
    calc (nN a b * nD c d) * (b * d) = (nN a b * b) * (nD c d * d) := by ac_rfl
      _ = (a * nD a b) * (nD c d * d) := by rw [e1]
      _ = (a * d) * (nD a b * nD c d) := by ac_rfl
      _ = (c * b) * (nD a b * nD c d) := by rw [e]
      _ = (c * nD c d) * (nD a b * b) := by ac_rfl
      _ = (nN c d * d) * (nD a b * b) := by rw [e2]
      _ = (nN c d * nD a b) * (b * d) := by ac_rfl
  exact Int.eq_of_mul_eq_mul_right (Int.mul_ne_zero hb hd) z
theorem n_same {a b c d : Int} (hb : b ≠ 0) (hd : d ≠ 0) (h1 : nN a b = nN c d) (h2 : nD a b = nD c d) : a * d = c * b := by
  have e1 := n_cross (n := a) hb
  have e2 := n_cross (n := c) hd
  have hp := nD_pos (n := a) hb
  have z : (a * d) * nD a b = (c * b) * nD a b := by
    calc (a * d) * nD a b = (a * nD a b) * d := by ac_rfl
      _ = (nN a b * b) * d := by rw [e1]
      _ = (nN c d * d) * b := by rw [h1]; ac_rfl
      _ = (c * nD c d) * b := by rw [e2]
      _ = (c * b) * nD a b := by rw [h2]; ac_rfl
  exact Int.eq_of_mul_eq_mul_right (by omega) z
theorem n_one (n : Int) : nN n 1 = n ∧ nD n 1 = 1 := by
  have e : cg n 1 = 1 := by
    unfold cg
    rw [if_neg (by decide)]
    simp
  unfold nN nD
  rw [e]
  simp
theorem bits_nN {n d : Int} {m : Nat} (h : intBits n ≤ m) : intBits (nN n d) ≤ m := PySem.intBits_fdiv_le h
theorem bits_nD {n d : Int} {m : Nat} (h : intBits d ≤ m) : intBits (nD n d) ≤ m := PySem.intBits_fdiv_le h
end Ind

set_option Elab.async false
namespace Ind
/-! ### rows over fractions: sums, annihilators, spans -/
abbrev Fr := Nat → Rat
def sumTo : Nat → Fr → Rat
  | 0, _ => 0
  | n + 1, f => sumTo n f + f n
theorem sumTo_congr : ∀ {n : Nat} {f g : Fr}, (∀ j, j < n → f j = g j) → sumTo n f = sumTo n g
  | 0, _, _, _ => rfl
  | n + 1, f, g, h => by
    unfold sumTo
    rw [sumTo_congr fun j hj => h j (Nat.lt_succ_of_lt hj), h n (Nat.lt_succ_self n)]
theorem sumTo_zero : ∀ n : Nat, sumTo n (fun _ => 0) = 0
  | 0 => rfl
  | n + 1 => by
    unfold sumTo
    rw [sumTo_zero n]
    grind
theorem sumTo_lin (a b : Rat) : ∀ (n : Nat) (f g : Fr), sumTo n (fun j => a * f j + b * g j) = a * sumTo n f + b * sumTo n g
  | 0, _, _ => by unfold sumTo; grind
  | n + 1, f, g => by
    unfold sumTo
    rw [sumTo_lin a b n f g]
    grind
theorem sumTo_one (r : Fr) (c : Rat) {p : Nat} : ∀ {n : Nat}, p < n → sumTo n (fun i => r i * (if i = p then c else 0)) = r p * c
  | n + 1, h => by
    unfold sumTo
    by_cases e : p = n
    · subst e
      have z : sumTo p (fun i => r i * (if i = p then c else 0)) = 0 := by
        rw [sumTo_congr (g := fun _ => 0) fun j hj => by rw [if_neg (by omega)]; grind]
        exact sumTo_zero p
      rw [z]
      show 0 + r p * (if p = p then c else 0) = r p * c
      rw [if_pos rfl]
      grind
    · rw [sumTo_one r c (by omega)]
      show r p * c + r n * (if n = p then c else 0) = r p * c
      rw [if_neg (by omega)]
      grind
/-- the sum of a row's items times a vector's -/
def dt (w : Nat) (r z : Fr) : Rat := sumTo w fun j => r j * z j
theorem dt_lin (w : Nat) (a b : Rat) (r t z : Fr) : dt w (fun j => a * r j + b * t j) z = a * dt w r z + b * dt w t z := by
  unfold dt
  rw [← sumTo_lin]
  exact sumTo_congr fun j _ => by grind
theorem dt_congr {w : Nat} {r t z : Fr} (h : ∀ j, j < w → r j = t j) : dt w r z = dt w t z := sumTo_congr fun j hj => by rw [h j hj]
theorem dt_lin2 (w : Nat) (a b : Rat) (r z y : Fr) : dt w r (fun j => a * z j + b * y j) = a * dt w r z + b * dt w r y := by
  unfold dt
  rw [← sumTo_lin]
  exact sumTo_congr fun j _ => by grind
theorem dt_one (r : Fr) (c : Rat) {w p : Nat} (h : p < w) : dt w r (fun i => if i = p then c else 0) = r p * c := sumTo_one r c h
def Ann (w : Nat) (R : List Fr) (z : Fr) : Prop := ∀ r ∈ R, dt w r z = 0
/-- r is a combination of R's rows -/
inductive Spn (R : List Fr) : Fr → Prop where
  | mem {r : Fr} : r ∈ R → Spn R r
  | zero : Spn R fun _ => 0
  | lin (a b : Rat) {r t s : Fr} : Spn R r → Spn R t → (∀ j, s j = a * r j + b * t j) → Spn R s
theorem Spn.ann {R : List Fr} {r z : Fr} {w : Nat} (h : Spn R r) (hz : Ann w R z) : dt w r z = 0 := by
  induction h with
  | mem h => exact hz _ h
  | zero =>
    unfold dt
    rw [sumTo_congr (g := fun _ => 0) fun j _ => by grind]
    exact sumTo_zero w
  | lin a b _ _ e ih1 ih2 =>
    rw [dt_congr fun j _ => e j, dt_lin, ih1, ih2]
    grind
theorem Spn.trans {R S : List Fr} {r : Fr} (h : Spn S r) (hs : ∀ s ∈ S, Spn R s) : Spn R r := by
  induction h with
  | mem h => exact hs _ h
  | zero => exact .zero
  | lin a b _ _ e ih1 ih2 => exact .lin a b ih1 ih2 e
/-- .. with its weights -/
theorem Spn.weights {R : List Fr} {r : Fr} (h : Spn R r) : ∃ u : Fr, ∀ j, r j = sumTo R.length fun i => u i * (R.getD i fun _ => 0) j := by
  induction h with
  | @mem r h =>
    obtain ⟨k, hk, e⟩ := List.getElem_of_mem h
    refine ⟨fun i => if i = k then 1 else 0, fun j => ?_⟩
    have := sumTo_one (fun i => (R.getD i fun _ => 0) j) 1 hk
    rw [sumTo_congr (g := fun i => (R.getD i fun _ => 0) j * (if i = k then 1 else 0)) fun i _ => by grind, this]
    have e2 : R.getD k (fun _ => 0) = r := by
      rw [List.getD_eq_getElem?_getD, List.getElem?_eq_getElem hk]
      exact e
    rw [e2]
    grind
  | zero =>
    refine ⟨fun _ => 0, fun j => ?_⟩
    rw [sumTo_congr (g := fun _ => 0) fun i _ => by grind, sumTo_zero]
  | lin a b _ _ e ih1 ih2 =>
    obtain ⟨u, hu⟩ := ih1
    obtain ⟨v, hv⟩ := ih2
    refine ⟨fun i => a * u i + b * v i, fun j => ?_⟩
    rw [e j, hu j, hv j, ← sumTo_lin]
    exact sumTo_congr fun i _ => by grind
/-! ### one step of the elimination -/
/-- r, with top's multiple taken off so that column c is zero -/
def Canc (c : Nat) (top r s : Fr) : Prop := (∃ a b : Rat, a ≠ 0 ∧ ∀ j, s j = a * r j + b * top j) ∧ s c = 0
def Scal (r s : Fr) : Prop := ∃ a : Rat, a ≠ 0 ∧ ∀ j, s j = a * r j
/-- pivots and rows, the pivot's place with its row -/
structure Elim (w c : Nat) (G : List Fr) (L : List (Nat × Fr)) (T : List Fr) : Prop where
  ann : ∀ z, Ann w (L.map (·.2) ++ T) z → Ann w G z
  spn : ∀ r ∈ L.map (·.2) ++ T, Spn G r
  inc : L.Pairwise fun x y => x.1 < y.1
  lt : ∀ x ∈ L, x.1 < c
  piv : ∀ x ∈ L, x.2 x.1 ≠ 0
  off : ∀ x ∈ L, ∀ y ∈ L, x.1 ≠ y.1 → x.2 y.1 = 0
  led : ∀ x ∈ L, ∀ j, j < x.1 → x.2 j = 0
  low : ∀ t ∈ T, ∀ j, j < c → t j = 0
theorem Elim.skip {w c : Nat} {G : List Fr} {L : List (Nat × Fr)} {T : List Fr} (h : Elim w c G L T) (h0 : ∀ t ∈ T, t c = 0) : Elim w (c + 1) G L T :=
  ⟨h.ann, h.spn, h.inc, fun x hx => Nat.lt_succ_of_lt (h.lt x hx), h.piv, h.off, h.led, fun t ht j hj => by
    by_cases e : j = c
    · subst e
      exact h0 t ht
    · exact h.low t ht j (by omega)⟩
/-- every row cancelled by top, top behind the chosen ones -/
theorem Elim.step {w c : Nat} {G : List Fr} {L L' : List (Nat × Fr)} {T T' : List Fr} {top : Fr} (h : Elim w c G L T) (hm : top ∈ T) (ht : top c ≠ 0)
    (hL : ∀ y ∈ L', ∃ x ∈ L, y.1 = x.1 ∧ Canc c top x.2 y.2) (hLb : ∀ x ∈ L, ∃ y ∈ L', y.1 = x.1 ∧ Canc c top x.2 y.2) (hp : L'.map (·.1) = L.map (·.1))
    (hT : ∀ s ∈ T', ∃ t ∈ T, Canc c top t s) (hTb : ∀ t ∈ T, t = top ∨ ∃ s ∈ T', Canc c top t s) : Elim w (c + 1) G (L' ++ [(c, top)]) T' := by
  have tl := h.low top hm
  have own : ∀ y ∈ L' ++ [(c, top)], y = (c, top) ∨ ∃ x ∈ L, y.1 = x.1 ∧ Canc c top x.2 y.2 := fun y hy => by
    rcases List.mem_append.mp hy with z | z
    · exact .inr (hL y z)
    · exact .inl (List.mem_singleton.mp z)
  refine ⟨fun z hz => ?_, fun r hr => ?_, ?_, fun y hy => ?_, fun y hy => ?_, fun y hy y2 hy2 ne => ?_, fun y hy j hj => ?_, fun s hs j hj => ?_⟩
  · have zt : dt w top z = 0 := hz top (by simp)
    have back : ∀ {r s : Fr}, Canc c top r s → dt w s z = 0 → dt w r z = 0 := fun {r s} hc h0 => by
      obtain ⟨⟨a, b, ha, e⟩, _⟩ := hc
      rw [dt_congr fun j _ => e j, dt_lin, zt] at h0
      have : a * dt w r z = 0 := by grind
      grind
    refine h.ann z fun r hr => ?_
    rcases List.mem_append.mp hr with q | q
    · obtain ⟨x, hx, rfl⟩ := List.mem_map.mp q
      obtain ⟨y, hy, _, hc⟩ := hLb x hx
      exact back hc (hz y.2 (List.mem_append_left _ (List.mem_map_of_mem (f := (·.2)) (List.mem_append_left _ hy))))
    · rcases hTb r q with rfl | ⟨s, hs, hc⟩
      · exact zt
      · exact back hc (hz s (List.mem_append_right _ hs))
  · have st : Spn G top := h.spn top (List.mem_append_right _ hm)
    have to : ∀ {r s : Fr}, Canc c top r s → Spn G r → Spn G s := fun {r s} hc hr => by
      obtain ⟨⟨a, b, _, e⟩, _⟩ := hc
      exact .lin a b hr st e
    rcases List.mem_append.mp hr with q | q
    · obtain ⟨y, hy, rfl⟩ := List.mem_map.mp q
      rcases own y hy with rfl | ⟨x, hx, _, hc⟩
      · exact st
      · exact to hc (h.spn x.2 (List.mem_append_left _ (List.mem_map_of_mem (f := (·.2)) hx)))
    · obtain ⟨t, ht2, hc⟩ := hT r q
      exact to hc (h.spn t (List.mem_append_right _ ht2))
  · have h1 : (L'.map (·.1)).Pairwise (· < ·) := by
      rw [hp]
      exact List.pairwise_map.mpr h.inc
    refine List.pairwise_append.mpr ⟨List.pairwise_map.mp h1, List.pairwise_singleton _ _, fun y hy y2 hy2 => ?_⟩
    rw [List.mem_singleton.mp hy2]
    obtain ⟨x, hx, e, _⟩ := hL y hy
    rw [e]
    exact h.lt x hx
  · rcases own y hy with rfl | ⟨x, hx, e, _⟩
    · exact Nat.lt_succ_self c
    · rw [e]
      exact Nat.lt_succ_of_lt (h.lt x hx)
  · rcases own y hy with rfl | ⟨x, hx, e, ⟨a, b, ha, ej⟩, _⟩
    · exact ht
    · have := h.piv x hx
      rw [e, ej, tl x.1 (h.lt x hx)]
      grind
  · rcases own y hy with rfl | ⟨x, hx, e, ⟨a, b, ha, ej⟩, e0⟩
    · rcases own y2 hy2 with rfl | ⟨x2, hx2, e2, _⟩
      · exact absurd rfl ne
      · rw [e2]
        exact tl x2.1 (h.lt x2 hx2)
    · rcases own y2 hy2 with rfl | ⟨x2, hx2, e2, _⟩
      · exact e0
      · have := h.off x hx x2 hx2 (by rw [← e, ← e2]; exact ne)
        rw [e2, ej, this, tl x2.1 (h.lt x2 hx2)]
        grind
  · rcases own y hy with rfl | ⟨x, hx, e, ⟨a, b, ha, ej⟩, _⟩
    · exact tl j hj
    · rw [e] at hj
      have := h.led x hx j hj
      have := tl j (Nat.lt_trans hj (h.lt x hx))
      rw [ej]
      grind
  · obtain ⟨t, ht2, ⟨a, b, ha, ej⟩, e0⟩ := hT s hs
    by_cases e : j = c
    · subst e
      exact e0
    · rw [ej, h.low t ht2 j (by omega), tl j (by omega)]
      grind
end Ind

set_option Elab.async false
namespace Ind
/-! ### what the reduced rows tell -/
structure Red (w : Nat) (G : List Fr) (L : List (Nat × Fr)) : Prop where
  ann : ∀ z, Ann w (L.map (·.2)) z → Ann w G z
  spn : ∀ x ∈ L, Spn G x.2
  inc : L.Pairwise fun x y => x.1 < y.1
  lt : ∀ x ∈ L, x.1 < w
  one : ∀ x ∈ L, x.2 x.1 = 1
  off : ∀ x ∈ L, ∀ y ∈ L, x.1 ≠ y.1 → x.2 y.1 = 0
  led : ∀ x ∈ L, ∀ j, j < x.1 → x.2 j = 0
/-- before the first column -/
theorem Elim.start {w : Nat} {G T : List Fr} (h1 : ∀ g ∈ G, ∃ t ∈ T, Scal g t) (h2 : ∀ t ∈ T, ∃ g ∈ G, Scal g t) : Elim w 0 G [] T := by
  refine ⟨fun z hz g hg => ?_, fun r hr => ?_, List.Pairwise.nil, fun x hx => by simp at hx, fun x hx => by simp at hx, fun x hx => by simp at hx, fun x hx => by simp at hx, fun t _ j hj => by omega⟩
  · obtain ⟨t, ht, a, ha, e⟩ := h1 g hg
    have h0 := hz t (List.mem_append_right _ ht)
    rw [dt_congr (t := fun j => a * g j + 0 * g j) fun j _ => by rw [e]; grind, dt_lin] at h0
    grind
  · obtain ⟨g, hg, a, ha, e⟩ := h2 r (by simpa using hr)
    exact .lin a 0 (.mem hg) (.mem hg) fun j => by rw [e]; grind
/-- behind the last column, each row over its pivot -/
theorem Elim.red {w : Nat} {G : List Fr} {L L' : List (Nat × Fr)} {T : List Fr} (h : Elim w w G L T) (h1 : ∀ y ∈ L', ∃ x ∈ L, y.1 = x.1 ∧ ∀ j, y.2 j = x.2 j / x.2 x.1) (h2 : ∀ x ∈ L, ∃ y ∈ L', y.1 = x.1 ∧ ∀ j, y.2 j = x.2 j / x.2 x.1)
    (hp : L'.map (·.1) = L.map (·.1)) : Red w G L' := by
  refine ⟨fun z hz => h.ann z fun r hr => ?_, fun y hy => ?_, ?_, fun y hy => ?_, fun y hy => ?_, fun y hy y2 hy2 ne => ?_, fun y hy j hj => ?_⟩
  · rcases List.mem_append.mp hr with q | q
    · obtain ⟨x, hx, rfl⟩ := List.mem_map.mp q
      obtain ⟨y, hy, _, e⟩ := h2 x hx
      have h0 := hz y.2 (List.mem_map_of_mem (f := (·.2)) hy)
      have hx0 := h.piv x hx
      rw [dt_congr (t := fun j => (1 / x.2 x.1) * x.2 j + 0 * x.2 j) fun j _ => by rw [e]; grind, dt_lin] at h0
      have h3 : (1 / x.2 x.1) * dt w x.2 z = 0 := by grind
      have h4 : 1 / x.2 x.1 ≠ 0 := by grind
      grind
    · unfold dt
      rw [sumTo_congr (g := fun _ => 0) fun j hj => by rw [h.low r q j hj]; grind, sumTo_zero]
  · obtain ⟨x, hx, _, e⟩ := h1 y hy
    have hs := h.spn x.2 (List.mem_append_left _ (List.mem_map_of_mem (f := (·.2)) hx))
    exact .lin (1 / x.2 x.1) 0 hs hs fun j => by rw [e]; grind
  · have h3 : (L'.map (·.1)).Pairwise (· < ·) := by
      rw [hp]
      exact List.pairwise_map.mpr h.inc
    exact List.pairwise_map.mp h3
  · obtain ⟨x, hx, e, _⟩ := h1 y hy
    rw [e]
    exact h.lt x hx
  · obtain ⟨x, hx, e, ej⟩ := h1 y hy
    have := h.piv x hx
    rw [e, ej]
    grind
  · obtain ⟨x, hx, e, ej⟩ := h1 y hy
    obtain ⟨x2, hx2, e2, _⟩ := h1 y2 hy2
    have := h.off x hx x2 hx2 (by rw [← e, ← e2]; exact ne)
    rw [e2, ej, this]
    grind
  · obtain ⟨x, hx, e, ej⟩ := h1 y hy
    have := h.led x hx j (by rw [← e]; exact hj)
    rw [ej, this]
    grind
/-- the sum of r's items at the pivots times the rows -/
def comb : List (Nat × Fr) → Fr → Fr
  | [], _, _ => 0
  | x :: L, r, j => r x.1 * x.2 j + comb L r j
/-- the vector that tells column j by the pivots -/
def zL : List (Nat × Fr) → Nat → Fr
  | [], j, i => if i = j then 1 else 0
  | x :: L, j, i => 1 * zL L j i + (-1) * (if i = x.1 then x.2 j else 0)
theorem dt_zL {w j : Nat} (hj : j < w) (r : Fr) : ∀ {L : List (Nat × Fr)}, (∀ x ∈ L, x.1 < w) → dt w r (zL L j) = r j - comb L r j
  | [], _ => by
    have := dt_one r 1 hj
    show dt w r (fun i => if i = j then 1 else 0) = r j - 0
    rw [this]
    grind
  | x :: L, h => by
    show dt w r (fun i => 1 * zL L j i + (-1) * (if i = x.1 then x.2 j else 0)) = r j - (r x.1 * x.2 j + comb L r j)
    rw [dt_lin2, dt_zL hj r fun y hy => h y (List.mem_cons_of_mem _ hy), dt_one r (x.2 j) (h x (by simp))]
    grind
theorem comb_off {r : Fr} {j : Nat} : ∀ {L : List (Nat × Fr)}, (∀ y ∈ L, r y.1 = 0) → comb L r j = 0
  | [], _ => rfl
  | x :: L, h => by
    show r x.1 * x.2 j + comb L r j = 0
    rw [h x (by simp), comb_off fun y hy => h y (List.mem_cons_of_mem _ hy)]
    grind
theorem comb_self {L : List (Nat × Fr)} (inc : L.Pairwise fun x y => x.1 < y.1) (one : ∀ x ∈ L, x.2 x.1 = 1) (off : ∀ x ∈ L, ∀ y ∈ L, x.1 ≠ y.1 → x.2 y.1 = 0) : ∀ x ∈ L, ∀ j, comb L x.2 j = x.2 j := by
  induction L with
  | nil => intro x hx; simp at hx
  | cons a L ih =>
    intro x hx j
    obtain ⟨ia, il⟩ := List.pairwise_cons.mp inc
    show x.2 a.1 * a.2 j + comb L x.2 j = x.2 j
    rcases List.mem_cons.mp hx with rfl | h
    · rw [one x hx, comb_off fun y hy => off x hx y (List.mem_cons_of_mem _ hy) (Nat.ne_of_lt (ia y hy))]
      grind
    · rw [off x hx a (by simp) (Nat.ne_of_gt (ia x h)), ih il (fun y hy => one y (List.mem_cons_of_mem _ hy)) (fun y hy y2 hy2 => off y (List.mem_cons_of_mem _ hy) y2 (List.mem_cons_of_mem _ hy2)) x h j]
      grind
/-- each given row is the sum of the reduced ones by its items at the pivots -/
theorem Red.comb {w : Nat} {G : List Fr} {L : List (Nat × Fr)} (h : Red w G L) {g : Fr} (hg : g ∈ G) {j : Nat} (hj : j < w) : g j = comb L g j := by
  have a : Ann w (L.map (·.2)) (zL L j) := fun r hr => by
    obtain ⟨x, hx, rfl⟩ := List.mem_map.mp hr
    rw [dt_zL hj _ h.lt, comb_self h.inc h.one h.off x hx]
    grind
  have := h.ann _ a g hg
  rw [dt_zL hj _ h.lt] at this
  grind
/-- a solution of the system with the last column as right side: no pivot there -/
theorem Red.no_last {w : Nat} {G : List Fr} {L : List (Nat × Fr)} (h : Red (w + 1) G L) {y : Fr} (hy : ∀ g ∈ G, sumTo w (fun j => g j * y j) = g w) : ∀ x ∈ L, x.1 ≠ w := by
  intro x hx e
  have hz : Ann (w + 1) G (fun j => if j < w then y j else -1) := fun g hg => by
    show sumTo w _ + g w * (if w < w then y w else -1) = 0
    rw [if_neg (Nat.lt_irrefl w), sumTo_congr (g := fun j => g j * y j) fun j hj => by show g j * (if j < w then y j else -1) = _; rw [if_pos hj], hy g hg]
    grind
  have h1 := (h.spn x hx).ann hz
  have h2 : dt (w + 1) x.2 (fun j => if j < w then y j else -1) = -1 := by
    show sumTo w _ + x.2 w * (if w < w then y w else -1) = -1
    have o := h.one x hx
    rw [e] at o
    rw [if_neg (Nat.lt_irrefl w), o, sumTo_congr (g := fun _ => 0) fun j hj => by rw [h.led x hx j (by omega)]; grind, sumTo_zero]
    grind
  rw [h2] at h1
  grind
/-- what is read off the last column solves the system -/
theorem Red.solves {w : Nat} {G : List Fr} {L : List (Nat × Fr)} (h : Red (w + 1) G L) (hn : ∀ x ∈ L, x.1 ≠ w) {y : Fr} (hy : ∀ x ∈ L, y x.1 = x.2 w) (h0 : ∀ j, j < w → (∀ x ∈ L, x.1 ≠ j) → y j = 0) : ∀ g ∈ G, sumTo w (fun j => g j * y j) = g w := by
  have key : ∀ {M : List (Nat × Fr)} {z : Fr} (g : Fr), M.Pairwise (fun x y => x.1 < y.1) → (∀ x ∈ M, x.1 < w) → (∀ x ∈ M, z x.1 = x.2 w) → (∀ j, j < w → (∀ x ∈ M, x.1 ≠ j) → z j = 0) → sumTo w (fun j => g j * z j) = Ind.comb M g w := by
    intro M
    induction M with
    | nil =>
      intro z g _ _ _ hz
      rw [sumTo_congr (g := fun _ => 0) fun j hj => by rw [hz j hj (by simp)]; grind, sumTo_zero]
      rfl
    | cons a M ih =>
      intro z g inc lt hv hz
      obtain ⟨ia, il⟩ := List.pairwise_cons.mp inc
      have e := ih (z := fun j => if j = a.1 then 0 else z j) g il (fun x hx => lt x (List.mem_cons_of_mem _ hx))
        (fun x hx => by rw [if_neg (Nat.ne_of_gt (ia x hx))]; exact hv x (List.mem_cons_of_mem _ hx))
        (fun j hj hq => by
          by_cases c : j = a.1
          · rw [if_pos c]
          · rw [if_neg c]
            refine hz j hj fun x hx => ?_
            rcases List.mem_cons.mp hx with rfl | hx
            · exact fun z => c z.symm
            · exact hq x hx)
      have o := sumTo_one g (z a.1) (lt a (by simp))
      have s : sumTo w (fun j => g j * z j) = 1 * sumTo w (fun j => g j * (if j = a.1 then 0 else z j)) + 1 * sumTo w (fun j => g j * (if j = a.1 then z a.1 else 0)) := by
        rw [← sumTo_lin]
        refine sumTo_congr fun j _ => ?_
        by_cases c : j = a.1
        · rw [if_pos c, if_pos c, c]
          grind
        · rw [if_neg c, if_neg c]
          grind
      rw [s, e, o, hv a (by simp)]
      show 1 * Ind.comb M g w + 1 * (g a.1 * a.2 w) = g a.1 * a.2 w + Ind.comb M g w
      grind
  intro g hg
  rw [key g h.inc (fun x hx => by have := h.lt x hx; have := hn x hx; omega) hy h0, ← h.comb hg (Nat.lt_succ_self w)]
end Ind

set_option Elab.async false
set_option linter.all false
set_option maxRecDepth 100000
set_option maxHeartbeats 4000000
set_option exponentiation.threshold 9000
namespace Ind
open PySem PySem.Spec PyProof.Rows L2
open Builtin.Int (intBits)
theorem Paired.snocP {α β : Type} {F : α → β → Prop} : ∀ {xs : List α} {ys : List β} {x : α} {y : β}, Paired F xs ys → F x y → Paired F (xs ++ [x]) (ys ++ [y])
  | _, _, _, _, .nil, h => .cons h .nil
  | _, _, _, _, .cons r t, h => .cons r (Paired.snocP t h)
theorem Paired.lf {α β : Type} {F : α → β → Prop} : ∀ {xs : List α} {ys : List β}, Paired F xs ys → ∀ x ∈ xs, ∃ y ∈ ys, F x y
  | _, _, .cons r t, x, hx => by
    rcases List.mem_cons.mp hx with rfl | h
    · exact ⟨_, by simp, r⟩
    · obtain ⟨y, hy, z⟩ := Paired.lf t x h
      exact ⟨y, List.mem_cons_of_mem _ hy, z⟩
theorem Paired.rt {α β : Type} {F : α → β → Prop} : ∀ {xs : List α} {ys : List β}, Paired F xs ys → ∀ y ∈ ys, ∃ x ∈ xs, F x y
  | _, _, .cons r t, y, hy => by
    rcases List.mem_cons.mp hy with rfl | h
    · exact ⟨_, by simp, r⟩
    · obtain ⟨x, hx, z⟩ := Paired.rt t y h
      exact ⟨x, List.mem_cons_of_mem _ hx, z⟩
/-- // where the interpreter divides by itself -/
theorem op_fdivC {X : Cx} (f : Far X) : OpR X (binaryOp .FloorDiv) (rI (fun _ j => j ≠ 0 ∧ intBits j ≤ 60000000) fun i j => .int (i.fdiv j)) := by
  intro pins s σ H x y v u Q I rx ry h
  obtain ⟨i, j, rfl, rfl, hc, q⟩ := h
  exact op_fdivB f pins s σ H _ _ _ _ _ I rx ry ⟨i, j, rfl, rfl, hc.1, q⟩
/-- a list or a tuple of ints -/
def IntsAt (H : Hp) (l : Addr) (ns : List Int) : Prop := H l = some (.lst (ns.map V.int)) ∨ H l = some (.tup (ns.map V.int))
theorem IntsAt.same {H H' : Hp} {l : Addr} {ns : List Int} (h : IntsAt H l ns) (s : Same H H') : IntsAt H' l ns := h.imp (s _ _) (s _ _)
theorem IntsAt.sq {K : PySem.W.Frag} {H : Hp} {l : Addr} {ns : List Int} (h : IntsAt H l ns) : SqL K H l (ns.map V.int) ∨ SqT K H l (ns.map V.int) := h.imp SqL.of SqT.of
/-- an item of a list or a tuple -/
def rIxQ (K : PySem.W.Frag) : R2 := fun x y H Q => ∃ p xs i v, x = .ref p ∧ y = .int i ∧ (SqL K H p xs ∨ SqT K H p xs) ∧ atI xs i = some v ∧ Q v H
theorem ix_seq {X : Cx} : IxR X (rIxQ X.K) := by
  intro value slice pins s σ H x y v u Q I rx ry h hs
  obtain ⟨p, xs, i, z, e1, e2, hq, he, q⟩ := h
  rcases hq with hq | hq
  · exact ix_list value slice pins s σ H x y v u Q I rx ry ⟨p, xs, i, z, e1, e2, hq, he, q⟩ hs
  · exact ix_tup value slice pins s σ H x y v u Q I rx ry ⟨p, xs, i, z, e1, e2, hq, he, q⟩ hs
def fr (ns : List Int) : Fr := fun j => ((ns.getD j 0 : Int) : Rat)
end Ind

set_option Elab.async false
set_option linter.all false
set_option maxRecDepth 100000
set_option maxHeartbeats 4000000
namespace Ind
open PySem PySem.Spec PyProof.Rows L2
section
variable {prog : Program} {w : World} {A : Around} {E : Value → Shared → Prop} {s : Shared} {K : PySem.W.Frag} {x C f : Addr} {ox : Obj} {od : Option Obj} {b tb : Value}
/-- object.__ne__ over an own __eq__ -/
theorem entry_neK {Q : Fin → Shared → Prop} (hu : A.units < cLine) (X : K.In s.heap) (I : PySem.W.InstAt s.heap x ox C od) (he : PySem.W.findIn K (.ref C) "__eq__" = some (some (.ref f))) (hf : PySem.W.isFn K (.ref f) = true)
    (h : wpAny (model prog w) A (call (.ref f) [.ref x, b]) (fun v s' => ∃ r, v = .bool r ∧ Q (.done (.ret (.bool (!r)))) s') E s) :
    wpAny (model prog w) A (Builtin.«object.__ne__» ⟨[.ref x, b], []⟩) Q E s := by
  unfold Builtin.«object.__ne__»
  refine wpAny_bind (wpAny_of_eq (a := ((Value.ref x : Value), [b])) (by first | rfl | (simp only [slotArgs]; rfl)) ?_)
  dsimp only
  refine wpAny_bind (wpAny_cRoomFor hu ?_)
  refine wpAny_bind (m := callSpecialIfBound? (.ref x) (Str.ofString "__eq__") [b]) (PySem.W.ifBound_K X I he hf (wpAny_mono h (fun v s' hv => ?_) fun _ _ e => e))
  obtain ⟨r, rfl, q⟩ := hv
  dsimp only
  exact wpAny_bind (wpAny_truthy_bool (wpAny_pure q))
theorem cmp_neK {Q : Value → Shared → Prop} (hu : A.units + 1 < cLine) (X : K.In s.heap) (I : PySem.W.InstAt s.heap x ox C od) (hb : PySem.W.Looks (model prog w) s.heap (typeOf b) tb) (hn : PySem.W.notFirst K C tb = true)
    (hne : PySem.W.findIn K (.ref C) "__ne__" = some (some (.builtin "object.__ne__"))) (hm : PySem.W.mroIn K C (.type "object") = some true) (he : PySem.W.findIn K (.ref C) "__eq__" = some (some (.ref f))) (hf : PySem.W.isFn K (.ref f) = true)
    (h : wpAny (model prog w) A.in1 (call (.ref f) [.ref x, b]) (fun v s' => ∃ r, v = .bool r ∧ Q (.bool (!r)) s') E s) : wpAny (model prog w) A (richCompare .NotEq (.ref x) b) Q E s := by
  have one : wpAny (model prog w) A (tryCompare (.ref x) "__ne__" b) (fun r s' => ∃ v, r = some v ∧ Q v s') E s := by
    unfold tryCompare
    refine wpAny_bind (NtL.csib (s := s) (id := "object.__ne__") (I.type.andThen (PySem.W.looks_findIn X hne)) (F.cmp_object.ne.bind _) ?_)
    refine wpAny_call (codeAny_call_builtin F.cmp_object.ne.plain F.cmpEntry_ne (PySem.W.check_slot F.cmpKind_ne F.cmpSplit_ne (I.type.andThen (PySem.W.looks_mroIn X hm)) (F.cmpArgs_ne _ _) ?_))
    refine entry_neK (A := A.in1) hu X I he hf (wpAny_mono h (fun v s' hv => ?_) fun _ _ e => e)
    obtain ⟨r, rfl, q⟩ := hv
    exact ⟨r, rfl, wpAny_pure ⟨_, rfl, q⟩⟩
  unfold richCompare
  simp only [oneThing_ref]
  refine wpAny_holding (wpAny_bind (wpAny_cRoomFor (by omega) ?_))
  refine wpAny_bind (I.type.here (wpAny_bind (hb.here ?_)))
  split
  · rename_i q
    have e : PySem.W.subIn K tb (.ref C) = some false := by
      rcases Bool.or_eq_true_iff.mp hn with e | e
      · rw [beq_iff_eq.mp e] at q
        simp at q
      · exact beq_iff_eq.mp e
    refine wpAny_bind ((PySem.W.looks_subIn X e).here ?_)
    simp only [Bool.false_eq_true, if_false]
    refine wpAny_bind (wpAny_mono one (fun r s' z => ?_) fun _ _ e => e)
    obtain ⟨v, rfl, hq⟩ := z
    exact wpAny_pure hq
  · refine wpAny_bind (wpAny_pure ?_)
    simp only [Bool.false_eq_true, if_false]
    refine wpAny_bind (wpAny_mono one (fun r s' z => ?_) fun _ _ e => e)
    obtain ⟨v, rfl, hq⟩ := z
    exact wpAny_pure hq
end
/-! ### == and != of an own instance, over values -/
section
variable {X : Cx} {CX : CXT} {n : Nat} {C f : Addr} {fd : FuncData} {ps : List Str} {sp : Sp} {E : XK}
/-- x == y, x an instance of the class at C whose own == is at f and answers by True or False; y anything whose type is told -/
def rEqO (K : PySem.W.Frag) (C : Addr) (neg : Bool) (sp : Sp) (E : XK) : R2 := fun x y H Q => ∃ a dx fs t, x = .ref a ∧ H a = some (.ins C dx fs) ∧ TyX K H y t ∧ PySem.W.notFirst K C t = true ∧
  sp [x, y] H (fun z H' => ∃ r, z = .bl r ∧ Q (.bl (if neg then !r else r)) H') E
structure EqC (X : Cx) (CX : CXT) (n : Nat) (C f : Addr) (fd : FuncData) (ps : List Str) (sp : Sp) (E : XK) : Prop where
  fn : FnOk X.prog X.w X.K X.mg X.base CX n f fd ps sp
  eq : PySem.W.findIn X.K (.ref C) "__eq__" = some (some (.ref f))
  isf : PySem.W.isFn X.K (.ref f) = true
  b : Binds X.K fd ps []
  px : Passes CX X E
theorem run_eqO {pins : List (Addr × Obj)} {σ : L2.St} {H : Hp} {s : Shared} {A : Around} {a : Addr} {y : V} {v : Value} {R : Bool → Hp → Prop} (G : EqC X CX n C f fd ps sp E) (hr : Room n A) (hfr : A.frames = X.A.frames) (I : Inv X pins σ H s) (ry : RelV y v)
    (h : sp [.ref a, y] H (fun z H' => ∃ r, z = .bl r ∧ R r H') E) : wpAny (model X.prog X.w) A (call (.ref f) [.ref a, v]) (fun u s' => ∃ r, u = .bool r ∧ ∃ H', Inv X pins σ H' s' ∧ R r H') X.xe s := by
  have e0 : Env0 X.prog X.w X.K X.mg X.base A X.stack s H := by
    have e := I.env0
    exact ⟨by rw [hfr]; exact e.frames, e.mod, e.bs, e.bsz, e.funs, e.frf, e.hok, e.bare⟩
  have hl := G.fn.len _ _ _ _ h
  have r2 : Vals [V.ref a, y] [Value.ref a, v] := .cons rfl (.cons ry .nil)
  refine wpAny_call (codeAny_mono (G.fn.run A X.stack s H ⟨[.ref a, v], []⟩ [.ref a, v] [.ref a, y] _ E hr e0 (by
    have := G.b s [.ref a, v] I.kIn (by simpa using hl)
    simpa using this) r2 h) fun r s' hq => ?_)
  cases r with
  | error e => exact G.px pins σ H s e s' I hq
  | ok fl =>
    cases fl with
    | ret u =>
      obtain ⟨z, H', I', rz, r, ez, q⟩ := I.after hq
      subst ez
      cases rz
      exact ⟨r, rfl, H', I', q⟩
    | next => exact False.elim hq
    | brk => exact False.elim hq
    | cont => exact False.elim hq
theorem op_eqO (G : EqC X CX n C f fd ps sp E) (hr : Room n X.A) : OpR X (compareOp .Eq) (rEqO X.K C false sp E) := by
  intro pins s σ H x y v u Q I rx ry h
  obtain ⟨a, dx, fs, t, rfl, ha, ty, hn, q⟩ := h
  cases (show v = Value.ref a from rx)
  obtain ⟨mA, O, _⟩ := ins_get I.hok ha
  obtain ⟨od, J, _⟩ := O.look
  obtain ⟨P, Z, p, _⟩ := kit_of I ry ty
  obtain ⟨m, hF⟩ := I.fr
  show wpAny (model X.prog X.w) X.A (richCompare .Eq (.ref a) u) (EP X pins σ Q) X.xe s
  refine PySem.W.cmp_K (op := .Eq) (tb := t) hr.units0 hF I.ok.mod.kin J (Z.ty _ _ I.kIn p) hn G.eq G.isf ?_
  refine wpAny_mono (run_eqO G hr rfl I ry q) (fun w s' z => ?_) fun _ _ e => e
  obtain ⟨r, rfl, H', I', q'⟩ := z
  exact ⟨.bl r, H', I', rfl, q'⟩
theorem op_neO (G : EqC X CX n C f fd ps sp E) (hr : Room (n + 1) X.A) (hne : PySem.W.findIn X.K (.ref C) "__ne__" = some (some (.builtin "object.__ne__"))) (hm : PySem.W.mroIn X.K C (.type "object") = some true) :
    OpR X (compareOp .NotEq) (rEqO X.K C true sp E) := by
  intro pins s σ H x y v u Q I rx ry h
  obtain ⟨a, dx, fs, t, rfl, ha, ty, hn, q⟩ := h
  cases (show v = Value.ref a from rx)
  obtain ⟨mA, O, _⟩ := ins_get I.hok ha
  obtain ⟨od, J, _⟩ := O.look
  obtain ⟨P, Z, p, _⟩ := kit_of I ry ty
  show wpAny (model X.prog X.w) X.A (richCompare .NotEq (.ref a) u) (EP X pins σ Q) X.xe s
  refine cmp_neK (tb := t) (by have := hr.units; omega) I.kIn J (Z.ty _ _ I.kIn p) hn hne hm G.eq G.isf ?_
  refine wpAny_mono (run_eqO G hr.in1 rfl I ry q) (fun w s' z => ?_) fun _ _ e => e
  obtain ⟨r, rfl, H', I', q'⟩ := z
  exact ⟨r, rfl, .bl (!r), H', I', rfl, q'⟩
end
end Ind

set_option Elab.async false
set_option linter.all false
set_option maxRecDepth 100000
set_option maxHeartbeats 4000000
namespace Ind
open PySem PySem.Spec PyProof.Rows L2
open Builtin.Int (intBits)
abbrev sEq : Stmt := inClass (top 29) 5
abbrev sZero : Stmt := top 30
/-- behind Ratio(n, d) -/
theorem mk_ok {C Z : Addr} {H1 : Hp} {n d : Int} (hd : d ≠ 0) {Q : VK} {E : XK} (h : ∀ (p : Addr) (H' : Hp), RatAt C H' p (nN n d) (nD n d) → Same H1 H' → H1 p = none → Q (.ref p) H') :
    ∀ x dx, H1 x = none → H1 dx = none → dx ≠ x → spInit C Z [.ref x, .int n, .int d] (upd (upd H1 dx (.own x)) x (.ins C dx [])) (fun v H2 => v = .non ∧ Q (.ref x) H2) E := fun x dx nx nd ne =>
  ⟨x, dx, n, d, rfl, upd_same, fun z => absurd z hd, fun _ H' r k => ⟨rfl, h x H' r (Same.made nx nd k) nx⟩⟩
/-- a == b of a number: another one, or something of another class -/
def spEqR (K : PySem.W.Frag) (C : Addr) : Sp := fun vs H Q _ => (∃ (p q : Addr) (a b c d : Int), vs = [.ref p, .ref q] ∧ RatAt C H p a b ∧ RatAt C H q c d ∧ Q (.bl (decide (a = c ∧ b = d))) H) ∨
  ∃ (p : Addr) (a b : Int) (y : V) (t : Value), vs = [.ref p, y] ∧ RatAt C H p a b ∧ TyX K H y t ∧ PySem.W.kitOne K t (.ref C) = some false ∧ Q (.bl false) H
def spMk (C : Addr) (a b : Int) : Sp := fun vs H Q _ => vs = [] ∧ ∀ (p : Addr) (H' : Hp), RatAt C H' p a b → Same H H' → H p = none → Q (.ref p) H'
section
variable {P : Program} {w : World} {K : PySem.W.Frag} {mg : Str → Option Value} {base : Heap} {C Z : Addr}
theorem scEq : FnScope ["self", "other"] ["self", "other"] (defScope sEq) := ⟨rfl, rfl, rfl, by decide +kernel, rfl, by decide +kernel, by decide +kernel⟩
theorem ok_eq {f : Addr} {fd : FuncData} (F : Fun K "__eq__" "Ratio.__eq__" sEq f fd) (T : TxL K mg) (R : TxR K mg C Z) (I : TxI K C) : FnOk P w K mg base CX0 1 f fd ["self", "other"] (spEqR K C) := by
  refine F.ok scEq (fun vs H Q E h => ?_) (fun cdv A outer s H vs Q E hr h => ?_)
  · rcases h with ⟨p, q, a, b, c, d, rfl, _⟩ | ⟨p, a, b, y, t, rfl, _⟩ <;> rfl
  · refine ⟨_, pss_one (ps_ret (pe_and (pe_callB call_isi (by rfl) T.isinstance (by decide +kernel) (pa_cons (pv 1) (pa_cons (pe_glob (v := .ref C) rfl R.mgC rfl) pa_nil)))
      (pe_and (pe_cmpR op_eq (pe_fld (pv 0) rfl) (pe_fld (pv 1) rfl) (nomark _)) (pe_one (pe_cmpR op_eq (pe_fld (pv 0) rfl) (pe_fld (pv 1) rfl) (nomark _)))))), ?_⟩
    rcases h with ⟨p, q, a, b, c, d, rfl, ⟨dx, hp⟩, ⟨dy, hq⟩, k⟩ | ⟨p, a, b, y, t, rfl, ⟨dx, hp⟩, ty, hk, k⟩
    · refine ⟨_, rfl, _, _, _, _, true, rfl, ClsV.own C, .base (.ins hq R.cl I.ha I.hn I.ht I.hm), I.kC, true, rfl, iteT ?_⟩
      refine ⟨_, rfl, p, C, dx, _, _, rfl, hp, R.cl, R.nN, rf_n _ _, _, rfl, q, C, dy, _, _, rfl, hq, R.cl, R.nN, rf_n _ _, rfl, _, rfl, ?_⟩
      by_cases e1 : a = c
      · rw [show decide (V.int a = V.int c) = true from decide_eq_true (by rw [e1])]
        refine iteT ⟨_, rfl, p, C, dx, _, _, rfl, hp, R.cl, R.nD, rf_d _ _, _, rfl, q, C, dy, _, _, rfl, hq, R.cl, R.nD, rf_d _ _, rfl, ?_⟩
        have e2 : decide (V.int b = V.int d) = decide (a = c ∧ b = d) := by
          by_cases e : b = d
          · simp [e, e1]
          · simp [e, e1]
        rw [← e2] at k
        exact k
      · rw [show decide (V.int a = V.int c) = false from decide_eq_false (fun z => e1 (V.int.inj z))]
        have e2 : decide (a = c ∧ b = d) = false := decide_eq_false fun z => e1 z.1
        rw [e2] at k
        exact iteF k
    · exact ⟨_, rfl, _, _, _, _, false, rfl, ClsV.own C, ty, hk, false, rfl, iteF k⟩
theorem scZ : FnScope [] [] (defScope sZero) := ⟨rfl, rfl, rfl, by decide +kernel, rfl, by decide +kernel, by decide +kernel⟩
/-- how Ratio's __init__ stands -/
structure MkR (P : Program) (w : World) (K : PySem.W.Frag) (mg : Str → Option Value) (base : Heap) (C Z : Addr) (fI : Addr) (fdI : FuncData) (ds : List Value) : Prop where
  cm : Mk K C fI
  fn : FnOk P w K mg base (L2.CX P w) 41 fI fdI ["self", "n", "d"] (spInit C Z)
  b2 : Binds K fdI ["self", "n", "d"] []
  b1 : Binds K fdI ["self", "n", "d"] ds
  v1 : Vals [V.int 1] ds
theorem ok_zero {f fI : Addr} {fd fdI : FuncData} {ds : List Value} (F : Fun K "zero" "zero" sZero f fd) (R : TxR K mg C Z) (M : MkR P w K mg base C Z fI fdI ds) : FnOk P w K mg base CX0 43 f fd [] (spMk C 0 1) := by
  refine F.ok scZ (fun vs H Q E h => ?_) (fun cdv A outer s H vs Q E hr h => ?_)
  · obtain ⟨rfl, _⟩ := h
    rfl
  · obtain ⟨rfl, k⟩ := h
    refine ⟨_, pss_one (ps_ret (pe_make M.cm M.fn hr (by rfl) R.mgC M.b1 M.v1 passL (pa_cons pe_int pa_nil))), ?_⟩
    have e := n_one 0
    refine mk_ok (n := 0) (d := 1) (by decide) fun p H' r s n => k p H' ?_ s n
    rw [e.1, e.2] at r
    exact r
end
end Ind

set_option Elab.async false
set_option linter.all false
set_option maxRecDepth 100000
set_option maxHeartbeats 4000000
set_option exponentiation.threshold 9000
namespace Ind
open PySem PySem.Spec PyProof.Rows L2
open Builtin.Int (intBits)
/-! ### a number's two ints -/
abbrev Q2 := Int × Int
structure Lo (q : Q2) : Prop where
  pos : 0 < q.2
  low : Nat.gcd q.1.natAbs q.2.natAbs = 1
def rv (q : Q2) : Rat := ((q.1 : Int) : Rat) / ((q.2 : Int) : Rat)
def mkq (n d : Int) : Q2 := (nN n d, nD n d)
theorem lo_mk {n d : Int} (h : d ≠ 0) : Lo (mkq n d) := ⟨nD_pos h, n_gcd h⟩
theorem Lo.ne {q : Q2} (h : Lo q) : q.2 ≠ 0 := Int.ne_of_gt h.pos
theorem cst_ne {d : Int} (h : d ≠ 0) : ((d : Int) : Rat) ≠ 0 := fun z => h (by exact_mod_cast z)
theorem rv_mk {n d : Int} (h : d ≠ 0) : rv (mkq n d) = ((n : Int) : Rat) / ((d : Int) : Rat) := by
  have e := n_cross (n := n) h
  have hd := nD_pos (n := n) h
  have e2 : ((nN n d : Int) : Rat) * ((d : Int) : Rat) = ((n : Int) : Rat) * ((nD n d : Int) : Rat) := by rw [← Rat.intCast_mul, ← Rat.intCast_mul, e]
  have h1 := cst_ne h
  have h2 := cst_ne (Int.ne_of_gt hd)
  show ((nN n d : Int) : Rat) / ((nD n d : Int) : Rat) = _
  grind
theorem lo_eq {a b : Q2} (ha : Lo a) (hb : Lo b) (e : rv a = rv b) : a = b := by
  obtain ⟨p, q⟩ := a
  obtain ⟨r, s⟩ := b
  have h1 := cst_ne ha.ne
  have h2 := cst_ne hb.ne
  have e2 : ((p : Int) : Rat) * ((s : Int) : Rat) = ((r : Int) : Rat) * ((q : Int) : Rat) := by
    unfold rv at e
    grind
  have e3 : p * s = r * q := by
    rw [← Rat.intCast_mul, ← Rat.intCast_mul] at e2
    exact_mod_cast e2
  obtain ⟨u, v⟩ := low_uniq ha.pos hb.pos ha.low hb.low e3
  exact Prod.ext u v
def addq (a b : Q2) : Q2 := mkq (a.1 * b.2 + b.1 * a.2) (a.2 * b.2)
def mulq (a b : Q2) : Q2 := mkq (a.1 * b.1) (a.2 * b.2)
theorem lo_add {a b : Q2} (ha : a.2 ≠ 0) (hb : b.2 ≠ 0) : Lo (addq a b) := lo_mk (Int.mul_ne_zero ha hb)
theorem lo_mul {a b : Q2} (ha : a.2 ≠ 0) (hb : b.2 ≠ 0) : Lo (mulq a b) := lo_mk (Int.mul_ne_zero ha hb)
theorem rv_add {a b : Q2} (ha : a.2 ≠ 0) (hb : b.2 ≠ 0) : rv (addq a b) = rv a + rv b := by
  unfold addq
  rw [rv_mk (Int.mul_ne_zero ha hb), Rat.intCast_add, Rat.intCast_mul, Rat.intCast_mul, Rat.intCast_mul]
  have h1 := cst_ne ha
  have h2 := cst_ne hb
  unfold rv
  grind
theorem rv_mul {a b : Q2} (ha : a.2 ≠ 0) (hb : b.2 ≠ 0) : rv (mulq a b) = rv a * rv b := by
  unfold mulq
  rw [rv_mk (Int.mul_ne_zero ha hb), Rat.intCast_mul, Rat.intCast_mul]
  have h1 := cst_ne ha
  have h2 := cst_ne hb
  unfold rv
  grind
abbrev q0 : Q2 := (0, 1)
theorem lo_q0 : Lo q0 := ⟨by decide, by decide⟩
theorem rv_q0 : rv q0 = 0 := by
  unfold rv
  show ((0 : Int) : Rat) / ((1 : Int) : Rat) = 0
  grind
theorem rv_q1 : rv (1, 1) = 1 := by
  unfold rv
  show ((1 : Int) : Rat) / ((1 : Int) : Rat) = 1
  grind
/-- sizes -/
def Bq (m : Nat) (q : Q2) : Prop := intBits q.1 ≤ m ∧ intBits q.2 ≤ m
theorem Bq.mono {m n : Nat} {q : Q2} (h : Bq m q) (l : m ≤ n) : Bq n q := ⟨Nat.le_trans h.1 l, Nat.le_trans h.2 l⟩
theorem bq_mk {n d : Int} {m : Nat} (h1 : intBits n ≤ m) (h2 : intBits d ≤ m) : Bq m (mkq n d) := ⟨bits_nN h1, bits_nD h2⟩
theorem bq_add {a b : Q2} {m n : Nat} (ha : Bq m a) (hb : Bq n b) : Bq (m + n + 1) (addq a b) := by
  have h1 := PySem.intBits_mul_le ha.1 hb.2
  have h2 := PySem.intBits_mul_le hb.1 ha.2
  have h3 := PySem.intBits_mul_le ha.2 hb.2
  have h4 := PySem.intBits_add_le h1 h2
  exact bq_mk (by omega) (by omega)
theorem bq_mul {a b : Q2} {m n : Nat} (ha : Bq m a) (hb : Bq n b) : Bq (m + n) (mulq a b) := by
  have h1 := PySem.intBits_mul_le ha.1 hb.1
  have h3 := PySem.intBits_mul_le ha.2 hb.2
  exact bq_mk (by omega) (by omega)
/-! ### what stands in the heap -/
/-- all but the list at D stays, and every thing that is no list -/
def SX (D : Addr) (H H' : Hp) : Prop := ∀ b o, H b = some o → (b ≠ D ∨ ∀ xs, o ≠ .lst xs) → H' b = some o
abbrev FH (β : Type) := Hp → Addr → β → Prop
/-- it stays where lists change -/
def Stb {β : Type} (F : FH β) : Prop := ∀ H H' p b, (∀ b o, H b = some o → (∀ xs, o ≠ .lst xs) → H' b = some o) → F H p b → F H' p b
def StbX {β : Type} (D : Addr) (F : FH β) : Prop := ∀ H H' p b, SX D H H' → F H p b → F H' p b
theorem Stb.x {β : Type} {F : FH β} (h : Stb F) (D : Addr) : StbX D F := fun H H' p b s => h H H' p b fun c o e z => s c o e (.inr z)
theorem Stb.same {β : Type} {F : FH β} (h : Stb F) {H H' : Hp} {p : Addr} {b : β} (s : Same H H') (f : F H p b) : F H' p b := h H H' p b (fun c o e _ => s c o e) f
theorem StbX.same {β : Type} {F : FH β} {D : Addr} (h : StbX D F) {H H' : Hp} {p : Addr} {b : β} (s : Same H H') (f : F H p b) : F H' p b := h H H' p b (fun c o e _ => s c o e) f
theorem sx_upd {H : Hp} {D : Addr} {xs : List V} {o : HO} (h : H D = some (.lst xs)) : SX D H (upd H D o) := fun b u e z => by
  rcases z with n | n
  · rw [upd_ne n]
    exact e
  · rw [upd_ne]
    · exact e
    · intro q
      rw [q, h] at e
      exact n xs (Option.some.inj e).symm
theorem Paired.imp {α β : Type} {F G : α → β → Prop} (h : ∀ a b, F a b → G a b) : ∀ {xs : List α} {ys : List β}, Paired F xs ys → Paired G xs ys
  | _, _, .nil => .nil
  | _, _, .cons r t => .cons (h _ _ r) (Paired.imp h t)
theorem Paired.at {α β : Type} {F : α → β → Prop} : ∀ {xs : List α} {ys : List β} {i : Nat} {x : α}, Paired F xs ys → xs[i]? = some x → ∃ y, ys[i]? = some y ∧ F x y
  | _, _, 0, _, .cons a t, h => ⟨_, rfl, by
      have e := Option.some.inj h
      rw [← e]
      exact a⟩
  | _, _, i + 1, _, .cons a t, h => Paired.at (i := i) t h
  | _, _, _, _, .nil, h => by simp at h
theorem Paired.at2 {α β : Type} {F : α → β → Prop} : ∀ {xs : List α} {ys : List β} {i : Nat} {y : β}, Paired F xs ys → ys[i]? = some y → ∃ x, xs[i]? = some x ∧ F x y
  | _, _, 0, _, .cons a t, h => ⟨_, rfl, by
      have e := Option.some.inj h
      rw [← e]
      exact a⟩
  | _, _, i + 1, _, .cons a t, h => Paired.at2 (i := i) t h
  | _, _, _, _, .nil, h => by simp at h
/-- a tuple, a list of things -/
def Tp {β : Type} (F : FH β) : FH (List β) := fun H t bs => ∃ ps : List Addr, H t = some (.tup (ps.map V.ref)) ∧ Paired (F H) ps bs
def Ls {β : Type} (F : FH β) : FH (List β) := fun H t bs => ∃ ps : List Addr, H t = some (.lst (ps.map V.ref)) ∧ Paired (F H) ps bs
theorem Tp.stb {β : Type} {F : FH β} (h : Stb F) : Stb (Tp F) := fun H H' t bs s ⟨ps, e, q⟩ => ⟨ps, s _ _ e (by intro xs z; cases z), Paired.imp (fun a b f => h H H' a b s f) q⟩
theorem Ls.stbx {β : Type} {F : FH β} (h : Stb F) (D : Addr) : StbX D (fun H l bs => l ≠ D ∧ Ls F H l bs) := fun H H' l bs s ⟨n, ps, e, q⟩ => ⟨n, ps, s _ _ e (.inl n), Paired.imp (fun a b f => h.x D H H' a b s f) q⟩
theorem Ls.same {β : Type} {F : FH β} (h : Stb F) {H H' : Hp} {l : Addr} {bs : List β} (s : Same H H') (f : Ls F H l bs) : Ls F H' l bs := let ⟨ps, e, q⟩ := f; ⟨ps, s _ _ e, Paired.imp (fun a b f => h.same s f) q⟩
def RatQ (C : Addr) : FH Q2 := fun H p q => RatAt C H p q.1 q.2
def PairQ : FH Q2 := fun H p q => H p = some (.tup [.int q.1, .int q.2])
theorem RatQ.stb (C : Addr) : Stb (RatQ C) := fun H H' p q s ⟨dx, e⟩ => ⟨dx, s _ _ e (by intro xs z; cases z)⟩
theorem PairQ.stb : Stb PairQ := fun H H' p q s e => s _ _ e (by intro xs z; cases z)
theorem VecR.stb (C : Addr) : Stb (Tp (RatQ C)) := Tp.stb (RatQ.stb C)
theorem VecP.stb : Stb (Tp PairQ) := Tp.stb PairQ.stb
/-- an address among a tuple's or list's items -/
theorem item_of {as : List Addr} {i : Nat} {x : V} (hx : (as.map V.ref)[i]? = some x) : ∃ p, as[i]? = some p ∧ x = V.ref p := by
  rw [List.getElem?_map] at hx
  cases e : as[i]? with
  | none => rw [e] at hx; cases hx
  | some y => rw [e] at hx; exact ⟨y, rfl, (Option.some.inj hx).symm⟩
theorem ref_at {as : List Addr} {i : Nat} {p : Addr} (h : as[i]? = some p) : (as.map V.ref)[i]? = some (V.ref p) := by rw [List.getElem?_map, h]; rfl
theorem int_of {as : List Int} {i : Nat} {x : V} (hx : (as.map V.int)[i]? = some x) : ∃ n, as[i]? = some n ∧ x = V.int n := by
  rw [List.getElem?_map] at hx
  cases e : as[i]? with
  | none => rw [e] at hx; cases hx
  | some y => rw [e] at hx; exact ⟨y, rfl, (Option.some.inj hx).symm⟩
theorem len_small {n : Nat} (h : n ≤ 1000) : n < sizeLine := Nat.lt_of_le_of_lt h (by decide)
/-! ### what a comprehension has gathered -/
structure Col {β : Type} (F : FH β) (D : Addr) (H H2 : Hp) (bs : List β) : Prop where
  s : Same H H2
  at_ : Ls F H2 D bs
theorem Col.start {β : Type} {F : FH β} {D : Addr} {H : Hp} (h : H D = none) : Col F D H (upd H D (.lst [])) [] := ⟨same_upd h, [], upd_same, .nil⟩
theorem Col.push {β : Type} {F : FH β} {D p : Addr} {H H2 H3 : Hp} {bs : List β} {b : β} (x : Col F D H H2 bs) (hF : StbX D F) (hD : H D = none) (s : Same H2 H3) (hf : F H3 p b) (hl : bs.length ≤ 1000) :
    ∃ acc, H3 D = some (.lst acc) ∧ acc.length < sizeLine ∧ Col F D H (upd H3 D (.lst (acc ++ [V.ref p]))) (bs ++ [b]) := by
  obtain ⟨ps, e, q⟩ := x.at_
  have e3 := s _ _ e
  refine ⟨ps.map V.ref, e3, ?_, fun c o ec => ?_, ps ++ [p], ?_, ?_⟩
  · rw [List.length_map, q.length]
    exact len_small hl
  · rw [upd_ne (ne_of_none ec hD)]
    exact s _ _ (x.s c o ec)
  · rw [upd_same, List.map_append]
    rfl
  · exact Paired.snocP (Paired.imp (fun a b f => hF _ _ a b (sx_upd e3) (hF.same s f)) q) (hF _ _ _ _ (sx_upd e3) hf)
/-- .. of ints -/
structure ColI (D : Addr) (H H2 : Hp) (ns : List Int) : Prop where
  s : Same H H2
  at_ : H2 D = some (.lst (ns.map V.int))
theorem ColI.start {D : Addr} {H : Hp} (h : H D = none) : ColI D H (upd H D (.lst [])) [] := ⟨same_upd h, upd_same⟩
theorem ColI.push {D : Addr} {H H2 H3 : Hp} {ns : List Int} {n : Int} (x : ColI D H H2 ns) (hD : H D = none) (s : Same H2 H3) (hl : ns.length ≤ 1000) :
    ∃ acc, H3 D = some (.lst acc) ∧ acc.length < sizeLine ∧ ColI D H (upd H3 D (.lst (acc ++ [V.int n]))) (ns ++ [n]) := by
  refine ⟨ns.map V.int, s _ _ x.at_, ?_, fun c o ec => ?_, ?_⟩
  · rw [List.length_map]
    exact len_small hl
  · rw [upd_ne (ne_of_none ec hD)]
    exact s _ _ (x.s c o ec)
  · rw [upd_same, List.map_append]
    rfl
theorem take_snoc {α : Type} {xs : List α} {i : Nat} {x : α} (h : xs[i]? = some x) : xs.take (i + 1) = xs.take i ++ [x] := by
  rw [List.take_add_one, h]
  rfl
theorem map_take_snoc {α β : Type} {f : α → β} {xs : List α} {i : Nat} {x : α} (h : xs[i]? = some x) : (xs.take (i + 1)).map f = (xs.take i).map f ++ [f x] := by
  rw [take_snoc h, List.map_append]
  rfl
end Ind

set_option Elab.async false
set_option linter.all false
set_option maxRecDepth 100000
set_option maxHeartbeats 4000000
set_option exponentiation.threshold 9000
namespace Ind
open PySem PySem.Spec PyProof.Rows L2
open Builtin.Int (intBits)
abbrev sCF : Stmt := top 32
abbrev sDot : Stmt := top 99
/-! ### lcm of ints of some thousand bits -/
def rLcmC : List V → Hp → VK → Prop := fun vs H Q => ∃ a b : Int, vs = [.int a, .int b] ∧ a ≠ 0 ∧ b ≠ 0 ∧ intBits a ≤ 40000000 ∧ intBits b ≤ 40000000 ∧ Q (.int ((Nat.lcm a.natAbs b.natAbs : Nat) : Int)) H
theorem cr_lcmC {X : Cx} (f : Far X) : CallR X (.builtin "math.lcm") rLcmC := by
  intro pins s σ H vs us Q I r h
  obtain ⟨a, b, e, ha, hb, la, lb, q⟩ := h
  exact cr_lcmB f pins s σ H vs us Q I r ⟨a, b, e, ha, hb, by omega, by omega, q⟩
/-! ### common_form -/
def partsOf (B : Int) (qs : List Q2) : List Int := qs.map fun q => q.1 * B.fdiv q.2
def spCF (K : PySem.W.Frag) (C : Addr) : Sp := fun vs H Q _ => ∃ (l : Addr) (qs : List Q2) (b m : Nat) (M : Int), vs = [.ref l] ∧ Tp (RatQ C) H l qs ∧ (∀ q ∈ qs, 0 < q.2 ∧ Bq b q) ∧ qs.length ≤ 100 ∧ b ≤ 40000000 ∧ m ≤ 40000000 ∧ 0 < M ∧ intBits M ≤ m ∧ (∀ q ∈ qs, q.2 ∣ M) ∧
  ∀ (H' : Hp) (t p : Addr) (B : Int), Same H H' → H p = none → H' t = some (.tup [.ref p, .int B]) → H' p = some (.lst ((partsOf B qs).map V.int)) → 0 < B → (∀ q ∈ qs, q.2 ∣ B) → B ∣ M → Q (.ref t) H'
theorem bits_dvd {B M : Int} {m : Nat} (hM : 0 < M) (h : B ∣ M) (hm : intBits M ≤ m) : intBits B ≤ m := by
  refine PySem.intBits_le_of_natAbs ?_ hm
  exact Nat.le_of_dvd (by omega) (Int.natAbs_dvd_natAbs.mpr h)
section
variable {P : Program} {w : World} {K : PySem.W.Frag} {mg : Str → Option Value} {base : Heap} {C Z : Addr}
theorem scCF : FnScope ["numbers", "below", "number"] ["numbers"] (defScope sCF) := ⟨rfl, rfl, rfl, by decide +kernel, rfl, by decide +kernel, by decide +kernel⟩
theorem ok_cf {f : Addr} {fd : FuncData} (hN : base.NoSeer) (hT : P.given.tree = none) (F : Fun K "common_form" "common_form" sCF f fd) (R : TxR K mg C Z) (gl : mg "lcm" = some (.builtin "math.lcm")) : FnOk P w K mg base CX0 41 f fd ["numbers"] (spCF K C) := by
  refine F.ok scCF (fun vs H Q E h => ?_) (fun cdv A outer s H vs Q E hr h => ?_)
  · obtain ⟨l, qs, b, m, M, rfl, _⟩ := h
    rfl
  · obtain ⟨l, qs, b, m, M, rfl, ⟨ps, hl, hP⟩, hq, hlen, hb, hm, hM, hMb, hMd, k⟩ := h
    have h40 := hr.mono (show 40 ≤ 40 by decide)
    refine ⟨_, pss_cons (ps_set (i := 1) scCF.nd rfl (Or.inr rfl) pe_int)
      (pss_cons (ps_for PassesOwn.never rfl (pi_tup (pv 0)) (pg_name (i := 2) scCF.nd rfl (Or.inl rfl))
        (pss_one (ps_if (pt_cmpR op_ne (pe_fld (pv 2) rfl) pe_int (nomark _)) (pss_one (ps_set (i := 1) scCF.nd rfl (Or.inr rfl) (pe_callBfun (cr_lcmC ⟨hN, hT, ⟨_, _, rfl, rfl, rfl, rfl, rfl⟩, h40⟩) (by rfl) gl (pa_cons (pv 1) (pa_cons (pe_fld (pv 2) rfl) pa_nil))))) pss_nil)))
      (pss_one (ps_ret (pe_tup (pa_cons (pe_lc (own := [("number", 2)]) (g := gName 2) (tt := tYes) (te := tOp (rI (fun i j => intBits i + intBits j ≤ 134217728) fun i j => .int (i * j)) (tFld K (tVar 2) "n") (tOp (rI (fun _ j => j ≠ 0 ∧ intBits j ≤ 60000000) fun i j => .int (i.fdiv j)) (tVar 1) (tFld K (tVar 2) "d"))) rfl scCF.nd (pi_tup (pv 0)) (blkOk_by (N := ["numbers", "below", "number"]) (sc := defScope sCF) (by decide +kernel))
          (fun _ _ _ _ _ => pg_name (i := 2) scCF.nd rfl (Or.inl rfl)) (fun _ _ _ _ _ => pts_nil) (fun _ _ _ _ _ => pe_op op_mulB (pe_fld (pv 2) rfl) (pe_op (op_fdivC ⟨hN, hT, ⟨_, _, rfl, rfl, rfl, rfl, rfl⟩, h40⟩) (pv 1) (pe_fld (pv 2) rfl)))) (pa_cons (pv 1) pa_nil)))))), ?_⟩
    refine ⟨_, rfl, l, rfl, ⟨_, SqT.of hl⟩, for_tup (K := K) (a := l) (xs := ps.map V.ref) (fun i σ H' => H' = H ∧ ∃ (B : Int) (v : Option V), σ = [some (.ref l), some (.int B), v] ∧ 0 < B ∧ (∀ q ∈ qs.take i, q.2 ∣ B) ∧ B ∣ M)
      ⟨rfl, 1, none, rfl, by decide, by simp, Int.one_dvd M⟩ (fun i σ H' _ ⟨e, _⟩ => e ▸ SqT.of hl) ?_ ?_⟩
    · rintro i x σ H' hx ⟨rfl, B, v, rfl, hB0, hd, hBM⟩
      obtain ⟨p, hp, rfl⟩ := item_of hx
      obtain ⟨q, hqi, dx, hpa⟩ := Paired.at hP hp
      have hmem := List.mem_of_getElem? hqi
      obtain ⟨b0, bq⟩ := hq q hmem
      have tk := take_snoc hqi
      refine ⟨_, rfl, p, C, dx, _, _, rfl, hpa, R.cl, R.nD, rf_d _ _, rfl, _, rfl, ite2 (fun c => ?_) (fun c => ?_)⟩
      · have bB := bits_dvd hM hBM hMb
        refine ⟨_, rfl, _, rfl, p, C, dx, _, _, rfl, hpa, R.cl, R.nD, rf_d _ _, B, q.2, rfl, by omega, by omega, by omega, by have := bq.2; omega, rfl, _, _, rfl, ?_, fun x hx2 => ?_, ?_⟩
        · have : 0 < Nat.lcm B.natAbs q.2.natAbs := Nat.lcm_pos (by omega) (by omega)
          omega
        · rw [tk] at hx2
          rcases List.mem_append.mp hx2 with z | z
          · have h2 : (x.2).natAbs ∣ B.natAbs := Int.natAbs_dvd_natAbs.mpr (hd x z)
            have h3 : (x.2).natAbs ∣ Nat.lcm B.natAbs q.2.natAbs := Nat.dvd_trans h2 (Nat.dvd_lcm_left _ _)
            exact Int.natAbs_dvd_natAbs.mp h3
          · have e : x = q := by simpa using z
            subst e
            have h3 : x.2.natAbs ∣ Nat.lcm B.natAbs x.2.natAbs := Nat.dvd_lcm_right _ _
            exact Int.natAbs_dvd_natAbs.mp h3
        · have h3 : Nat.lcm B.natAbs q.2.natAbs ∣ M.natAbs := Nat.lcm_dvd (Int.natAbs_dvd_natAbs.mpr hBM) (Int.natAbs_dvd_natAbs.mpr (hMd q hmem))
          exact Int.natAbs_dvd_natAbs.mp h3
      · have hb1 : q.2 = 1 := by
          have z : ¬ ¬ (V.int q.2 = V.int 1) := by simpa using c
          exact V.int.inj (Classical.not_not.mp z)
        refine ⟨rfl, B, _, rfl, hB0, fun x hx2 => ?_, hBM⟩
        rw [tk] at hx2
        rcases List.mem_append.mp hx2 with z | z
        · exact hd x z
        · have e : x = q := by simpa using z
          rw [e, hb1]
          exact Int.one_dvd B
    · rintro σ H' ⟨rfl, B, v, rfl, hB0, hd, hBM⟩
      have hdA : ∀ q ∈ qs, q.2 ∣ B := fun q z => hd q (by
        rw [List.length_map, hP.length, List.take_length]
        exact z)
      have bB := bits_dvd hM hBM hMb
      refine ⟨_, rfl, l, rfl, ⟨_, SqT.of hl⟩, fun D hD => lc_tup (K := K) (a := l) (xs := ps.map V.ref) (fun i H2 => ColI D H' H2 (partsOf B (qs.take i))) (ColI.start hD) (fun i H2 _ z => .of (z.s _ _ hl)) ?_ ?_⟩
      · rintro i x H2 hx z
        obtain ⟨p, hp, rfl⟩ := item_of hx
        obtain ⟨q, hqi, hqa⟩ := Paired.at hP hp
        obtain ⟨dx, hpa⟩ := hqa.same z.s
        have hmem := List.mem_of_getElem? hqi
        obtain ⟨b0, bq⟩ := hq q hmem
        have b1 : intBits (B.fdiv q.2) ≤ m := PySem.intBits_fdiv_le bB
        have e : partsOf B (qs.take (i + 1)) = partsOf B (qs.take i) ++ [q.1 * B.fdiv q.2] := map_take_snoc hqi
        refine ⟨rfl, _, rfl, p, C, dx, _, _, rfl, hpa, R.cl, R.nN, rf_n _ _, _, rfl, _, rfl, p, C, dx, _, _, rfl, hpa, R.cl, R.nD, rf_d _ _, _, _, rfl, rfl, ⟨by omega, by have := bq.2; omega⟩, _, _, rfl, rfl, (by show intBits q.1 + intBits (B.fdiv q.2) ≤ 134217728; have := bq.1; omega), ?_⟩
        rw [e]
        refine z.push hD same_rfl ?_
        unfold partsOf
        rw [List.length_map, List.length_take]
        omega
      · rintro H2 z
        rw [List.length_map, hP.length, List.take_length] at z
        exact ⟨_, rfl, (by show 2 ≤ sizeLine; decide), fun t ht => k _ t D B (z.s.trans (same_upd ht)) hD upd_same (same_upd ht _ _ z.at_) hB0 hdA hBM⟩
end
end Ind

set_option Elab.async false
set_option linter.all false
set_option maxRecDepth 100000
set_option maxHeartbeats 4000000
set_option exponentiation.threshold 9000
namespace Ind
open PySem PySem.Spec PyProof.Rows L2
open Builtin.Int (intBits)
def spCFL (K : PySem.W.Frag) (C : Addr) : Sp := fun vs H Q _ => ∃ (l : Addr) (qs : List Q2) (b m : Nat) (M : Int), vs = [.ref l] ∧ Ls (RatQ C) H l qs ∧ (∀ q ∈ qs, 0 < q.2 ∧ Bq b q) ∧ qs.length ≤ 100 ∧ b ≤ 40000000 ∧ m ≤ 40000000 ∧ 0 < M ∧ intBits M ≤ m ∧ (∀ q ∈ qs, q.2 ∣ M) ∧
  ∀ (H' : Hp) (t p : Addr) (B : Int), Same H H' → H p = none → H' t = some (.tup [.ref p, .int B]) → H' p = some (.lst ((partsOf B qs).map V.int)) → 0 < B → (∀ q ∈ qs, q.2 ∣ B) → B ∣ M → Q (.ref t) H'
section
variable {P : Program} {w : World} {K : PySem.W.Frag} {mg : Str → Option Value} {base : Heap} {C Z : Addr}
theorem ok_cfL {f : Addr} {fd : FuncData} (hN : base.NoSeer) (hT : P.given.tree = none) (F : Fun K "common_form" "common_form" sCF f fd) (R : TxR K mg C Z) (gl : mg "lcm" = some (.builtin "math.lcm")) : FnOk P w K mg base CX0 41 f fd ["numbers"] (spCFL K C) := by
  refine F.ok scCF (fun vs H Q E h => ?_) (fun cdv A outer s H vs Q E hr h => ?_)
  · obtain ⟨l, qs, b, m, M, rfl, _⟩ := h
    rfl
  · obtain ⟨l, qs, b, m, M, rfl, ⟨ps, hl, hP⟩, hq, hlen, hb, hm, hM, hMb, hMd, k⟩ := h
    have h40 := hr.mono (show 40 ≤ 40 by decide)
    refine ⟨_, pss_cons (ps_set (i := 1) scCF.nd rfl (Or.inr rfl) pe_int)
      (pss_cons (ps_for PassesOwn.never rfl (pi_list (pv 0)) (pg_name (i := 2) scCF.nd rfl (Or.inl rfl))
        (pss_one (ps_if (pt_cmpR op_ne (pe_fld (pv 2) rfl) pe_int (nomark _)) (pss_one (ps_set (i := 1) scCF.nd rfl (Or.inr rfl) (pe_callBfun (cr_lcmC ⟨hN, hT, ⟨_, _, rfl, rfl, rfl, rfl, rfl⟩, h40⟩) (by rfl) gl (pa_cons (pv 1) (pa_cons (pe_fld (pv 2) rfl) pa_nil))))) pss_nil)))
      (pss_one (ps_ret (pe_tup (pa_cons (pe_lc (own := [("number", 2)]) (g := gName 2) (tt := tYes) (te := tOp (rI (fun i j => intBits i + intBits j ≤ 134217728) fun i j => .int (i * j)) (tFld K (tVar 2) "n") (tOp (rI (fun _ j => j ≠ 0 ∧ intBits j ≤ 60000000) fun i j => .int (i.fdiv j)) (tVar 1) (tFld K (tVar 2) "d"))) rfl scCF.nd (pi_list (pv 0)) (blkOk_by (N := ["numbers", "below", "number"]) (sc := defScope sCF) (by decide +kernel))
          (fun _ _ _ _ _ => pg_name (i := 2) scCF.nd rfl (Or.inl rfl)) (fun _ _ _ _ _ => pts_nil) (fun _ _ _ _ _ => pe_op op_mulB (pe_fld (pv 2) rfl) (pe_op (op_fdivC ⟨hN, hT, ⟨_, _, rfl, rfl, rfl, rfl, rfl⟩, h40⟩) (pv 1) (pe_fld (pv 2) rfl)))) (pa_cons (pv 1) pa_nil)))))), ?_⟩
    refine ⟨_, rfl, l, rfl, ⟨_, SqL.of hl⟩, for_list (K := K) (a := l) (xs := ps.map V.ref) (fun i σ H' => H' = H ∧ ∃ (B : Int) (v : Option V), σ = [some (.ref l), some (.int B), v] ∧ 0 < B ∧ (∀ q ∈ qs.take i, q.2 ∣ B) ∧ B ∣ M)
      ⟨rfl, 1, none, rfl, by decide, by simp, Int.one_dvd M⟩ (fun i σ H' _ ⟨e, _⟩ => e ▸ SqL.of hl) ?_ ?_⟩
    · rintro i x σ H' hx ⟨rfl, B, v, rfl, hB0, hd, hBM⟩
      obtain ⟨p, hp, rfl⟩ := item_of hx
      obtain ⟨q, hqi, dx, hpa⟩ := Paired.at hP hp
      have hmem := List.mem_of_getElem? hqi
      obtain ⟨b0, bq⟩ := hq q hmem
      have tk := take_snoc hqi
      refine ⟨_, rfl, p, C, dx, _, _, rfl, hpa, R.cl, R.nD, rf_d _ _, rfl, _, rfl, ite2 (fun c => ?_) (fun c => ?_)⟩
      · have bB := bits_dvd hM hBM hMb
        refine ⟨_, rfl, _, rfl, p, C, dx, _, _, rfl, hpa, R.cl, R.nD, rf_d _ _, B, q.2, rfl, by omega, by omega, by omega, by have := bq.2; omega, rfl, _, _, rfl, ?_, fun x hx2 => ?_, ?_⟩
        · have : 0 < Nat.lcm B.natAbs q.2.natAbs := Nat.lcm_pos (by omega) (by omega)
          omega
        · rw [tk] at hx2
          rcases List.mem_append.mp hx2 with z | z
          · have h2 : (x.2).natAbs ∣ B.natAbs := Int.natAbs_dvd_natAbs.mpr (hd x z)
            have h3 : (x.2).natAbs ∣ Nat.lcm B.natAbs q.2.natAbs := Nat.dvd_trans h2 (Nat.dvd_lcm_left _ _)
            exact Int.natAbs_dvd_natAbs.mp h3
          · have e : x = q := by simpa using z
            subst e
            have h3 : x.2.natAbs ∣ Nat.lcm B.natAbs x.2.natAbs := Nat.dvd_lcm_right _ _
            exact Int.natAbs_dvd_natAbs.mp h3
        · have h3 : Nat.lcm B.natAbs q.2.natAbs ∣ M.natAbs := Nat.lcm_dvd (Int.natAbs_dvd_natAbs.mpr hBM) (Int.natAbs_dvd_natAbs.mpr (hMd q hmem))
          exact Int.natAbs_dvd_natAbs.mp h3
      · have hb1 : q.2 = 1 := by
          have z : ¬ ¬ (V.int q.2 = V.int 1) := by simpa using c
          exact V.int.inj (Classical.not_not.mp z)
        refine ⟨rfl, B, _, rfl, hB0, fun x hx2 => ?_, hBM⟩
        rw [tk] at hx2
        rcases List.mem_append.mp hx2 with z | z
        · exact hd x z
        · have e : x = q := by simpa using z
          rw [e, hb1]
          exact Int.one_dvd B
    · rintro σ H' ⟨rfl, B, v, rfl, hB0, hd, hBM⟩
      have hdA : ∀ q ∈ qs, q.2 ∣ B := fun q z => hd q (by
        rw [List.length_map, hP.length, List.take_length]
        exact z)
      have bB := bits_dvd hM hBM hMb
      refine ⟨_, rfl, l, rfl, ⟨_, SqL.of hl⟩, fun D hD => lc_list (K := K) (a := l) (xs := ps.map V.ref) (fun i H2 => ColI D H' H2 (partsOf B (qs.take i))) (ColI.start hD) (fun i H2 _ z => z.s.seq (SqL.of hl)) ?_ ?_⟩
      · rintro i x H2 hx z
        obtain ⟨p, hp, rfl⟩ := item_of hx
        obtain ⟨q, hqi, hqa⟩ := Paired.at hP hp
        obtain ⟨dx, hpa⟩ := hqa.same z.s
        have hmem := List.mem_of_getElem? hqi
        obtain ⟨b0, bq⟩ := hq q hmem
        have b1 : intBits (B.fdiv q.2) ≤ m := PySem.intBits_fdiv_le bB
        have e : partsOf B (qs.take (i + 1)) = partsOf B (qs.take i) ++ [q.1 * B.fdiv q.2] := map_take_snoc hqi
        refine ⟨rfl, _, rfl, p, C, dx, _, _, rfl, hpa, R.cl, R.nN, rf_n _ _, _, rfl, _, rfl, p, C, dx, _, _, rfl, hpa, R.cl, R.nD, rf_d _ _, _, _, rfl, rfl, ⟨by omega, by have := bq.2; omega⟩, _, _, rfl, rfl, (by show intBits q.1 + intBits (B.fdiv q.2) ≤ 134217728; have := bq.1; omega), ?_⟩
        rw [e]
        refine z.push hD same_rfl ?_
        unfold partsOf
        rw [List.length_map, List.length_take]
        omega
      · rintro H2 z
        rw [List.length_map, hP.length, List.take_length] at z
        exact ⟨_, rfl, (by show 2 ≤ sizeLine; decide), fun t ht => k _ t D B (z.s.trans (same_upd ht)) hD upd_same (same_upd ht _ _ z.at_) hB0 hdA hBM⟩
end
end Ind

set_option Elab.async false
set_option linter.all false
set_option maxRecDepth 100000
set_option maxHeartbeats 4000000
set_option exponentiation.threshold 9000
namespace Ind
open PySem PySem.Spec PyProof.Rows L2
open Builtin.Int (intBits)
/-- a row of numbers, by its values -/
def rowF (qs : List Q2) : Fr := fun j => rv (qs.getD j q0)
theorem getD_q {qs : List Q2} {j : Nat} {q : Q2} (h : qs[j]? = some q) : qs.getD j q0 = q := by
  rw [List.getD_eq_getElem?_getD, h]
  rfl
theorem getD_out {qs : List Q2} {j : Nat} (h : qs.length ≤ j) : qs.getD j q0 = q0 := by
  rw [List.getD_eq_getElem?_getD, List.getElem?_eq_none h]
  rfl
theorem rowF_out {qs : List Q2} {j : Nat} (h : qs.length ≤ j) : rowF qs j = 0 := by
  unfold rowF
  rw [getD_out h, rv_q0]
theorem parts_getD {B : Int} {qs : List Q2} (j : Nat) : (partsOf B qs).getD j 0 = (qs.getD j q0).1 * B.fdiv (qs.getD j q0).2 := by
  unfold partsOf
  rw [List.getD_eq_getElem?_getD, List.getElem?_map, List.getD_eq_getElem?_getD]
  cases e : qs[j]? with
  | none =>
    show (0 : Int) = 0 * _
    rw [Int.zero_mul]
  | some q => rfl
theorem fr_parts {B : Int} {qs : List Q2} (hB : 0 < B) (h : ∀ q ∈ qs, 0 < q.2 ∧ q.2 ∣ B) (j : Nat) : fr (partsOf B qs) j = ((B : Int) : Rat) * rowF qs j := by
  unfold fr rowF
  rw [parts_getD]
  have hq : 0 < (qs.getD j q0).2 ∧ (qs.getD j q0).2 ∣ B := by
    cases e : qs[j]? with
    | none =>
      rw [List.getD_eq_getElem?_getD, e]
      exact ⟨by decide, Int.one_dvd B⟩
    | some q =>
      rw [getD_q e]
      exact h q (List.mem_of_getElem? e)
  generalize qs.getD j q0 = q at hq
  obtain ⟨k, e⟩ := hq.2
  have e2 : B.fdiv q.2 = k := fdiv_of_mul (by omega) (e.trans (Int.mul_comm _ _))
  have h1 := cst_ne (show q.2 ≠ 0 by omega)
  have h2 : ((B : Int) : Rat) = ((q.2 : Int) : Rat) * ((k : Int) : Rat) := by rw [e, Rat.intCast_mul]
  rw [e2, Rat.intCast_mul, h2]
  unfold rv
  grind
theorem parts_len (B : Int) (qs : List Q2) : (partsOf B qs).length = qs.length := List.length_map ..
/-- scaled rows -/
theorem Red.scale {w : Nat} {G G' : List Fr} {L : List (Nat × Fr)} (h : Red w G L) (h1 : ∀ g ∈ G, ∃ g' ∈ G', Scal g' g) (h2 : ∀ g' ∈ G', ∃ g ∈ G, Scal g' g) : Red w G' L := by
  refine ⟨fun z hz g' hg' => ?_, fun x hx => (h.spn x hx).trans fun s hs => ?_, h.inc, h.lt, h.one, h.off, h.led⟩
  · obtain ⟨g, hg, a, ha, e⟩ := h2 g' hg'
    have h0 := h.ann z hz g hg
    rw [dt_congr (t := fun j => a * g' j + 0 * g' j) fun j _ => by rw [e]; grind, dt_lin] at h0
    grind
  · obtain ⟨g', hg', a, ha, e⟩ := h1 s hs
    exact .lin a 0 (.mem hg') (.mem hg') fun j => by rw [e]; grind
theorem Spn.comb {w : Nat} {G : List Fr} {L : List (Nat × Fr)} (h : Red w G L) {r : Fr} (hr : Spn G r) {j : Nat} (hj : j < w) : r j = Ind.comb L r j := by
  have a : Ann w (L.map (·.2)) (zL L j) := fun r hr => by
    obtain ⟨x, hx, rfl⟩ := List.mem_map.mp hr
    rw [dt_zL hj _ h.lt, comb_self h.inc h.one h.off x hx]
    grind
  have := hr.ann (h.ann _ a)
  rw [dt_zL hj _ h.lt] at this
  grind
/-- each pivot of one reduced form is a pivot of the other -/
theorem Red.piv_sub {w : Nat} {G : List Fr} {L L' : List (Nat × Fr)} (h : Red w G L) (h' : Red w G L') : ∀ x ∈ L', ∃ y ∈ L, y.1 = x.1 := by
  intro x hx
  refine Classical.byContradiction fun no => ?_
  have c := Spn.comb h (h'.spn x hx) (h'.lt x hx)
  have z : ∀ {M : List (Nat × Fr)}, (∀ y ∈ M, y ∈ L) → Ind.comb M x.2 x.1 = 0 := by
    intro M
    induction M with
    | nil => intro _; rfl
    | cons a M ih =>
      intro hm
      have ha := hm a (by simp)
      have e : x.2 a.1 * a.2 x.1 = 0 := by
        rcases Nat.lt_trichotomy a.1 x.1 with q | q | q
        · rw [h'.led x hx _ q]
          grind
        · exact absurd ⟨a, ha, q⟩ no
        · rw [h.led a ha _ q]
          grind
      show x.2 a.1 * a.2 x.1 + Ind.comb M x.2 x.1 = 0
      rw [e, ih fun y hy => hm y (List.mem_cons_of_mem _ hy)]
      grind
  rw [z fun y hy => hy, h'.one x hx] at c
  grind
theorem inc_eq : ∀ {xs ys : List Nat}, xs.Pairwise (· < ·) → ys.Pairwise (· < ·) → (∀ x, x ∈ xs ↔ x ∈ ys) → xs = ys
  | [], [], _, _, _ => rfl
  | [], y :: ys, _, _, h => absurd ((h y).mpr (by simp)) (by simp)
  | x :: xs, [], _, _, h => absurd ((h x).mp (by simp)) (by simp)
  | x :: xs, y :: ys, hx, hy, h => by
    obtain ⟨ax, px⟩ := List.pairwise_cons.mp hx
    obtain ⟨ay, py⟩ := List.pairwise_cons.mp hy
    have e : x = y := by
      rcases List.mem_cons.mp ((h x).mp (by simp)) with q | q
      · exact q
      · rcases List.mem_cons.mp ((h y).mpr (by simp)) with z | z
        · exact z.symm
        · have := ay x q
          have := ax y z
          omega
    subst e
    rw [inc_eq px py fun z => ?_]
    constructor
    · intro q
      rcases List.mem_cons.mp ((h z).mp (List.mem_cons_of_mem _ q)) with e | e
      · have := ax z q
        omega
      · exact e
    · intro q
      rcases List.mem_cons.mp ((h z).mpr (List.mem_cons_of_mem _ q)) with e | e
      · have := ay z q
        omega
      · exact e
/-- one reduced form: one tuple of pivots -/
theorem Red.piv_eq {w : Nat} {G : List Fr} {L L' : List (Nat × Fr)} (h : Red w G L) (h' : Red w G L') : L.map (·.1) = L'.map (·.1) := by
  refine inc_eq (List.pairwise_map.mpr h.inc) (List.pairwise_map.mpr h'.inc) fun x => ⟨fun hx => ?_, fun hx => ?_⟩
  · obtain ⟨y, hy, rfl⟩ := List.mem_map.mp hx
    obtain ⟨z, hz, e⟩ := h'.piv_sub h y hy
    exact List.mem_map.mpr ⟨z, hz, e⟩
  · obtain ⟨y, hy, rfl⟩ := List.mem_map.mp hx
    obtain ⟨z, hz, e⟩ := h.piv_sub h' y hy
    exact List.mem_map.mpr ⟨z, hz, e⟩
/-! ### dot -/
def prods (ns ms : List Int) (i : Nat) : List Int := (List.range i).map fun j => ns.getD j 0 * ms.getD j 0
theorem prods_succ (ns ms : List Int) (i : Nat) : prods ns ms (i + 1) = prods ns ms i ++ [ns.getD i 0 * ms.getD i 0] := by
  unfold prods
  rw [List.range_succ, List.map_append]
  rfl
theorem sum_append (xs : List Int) (y : Int) : (xs ++ [y]).sum = xs.sum + y := by
  rw [List.sum_append]
  simp
theorem prods_sum (ns ms : List Int) : ∀ i : Nat, (((prods ns ms i).sum : Int) : Rat) = sumTo i fun j => fr ns j * fr ms j
  | 0 => by
    show ((0 : Int) : Rat) = 0
    rfl
  | i + 1 => by
    rw [prods_succ, sum_append, Rat.intCast_add, prods_sum ns ms i, Rat.intCast_mul]
    rfl
/-- a common multiple of a row's denominators -/
def Mult (m : Nat) (qs : List Q2) : Prop := ∃ M : Int, 0 < M ∧ intBits M ≤ m ∧ ∀ q ∈ qs, q.2 ∣ M
/-- a row that the elimination may take -/
structure RowOk (b m : Nat) (qs : List Q2) : Prop where
  lo : ∀ q ∈ qs, Lo q
  bq : ∀ q ∈ qs, Bq b q
  len : qs.length ≤ 100
  mul : Mult m qs
def spDot (C : Addr) : Sp := fun vs H Q _ => ∃ (p r : Addr) (as bs : List Q2) (b m : Nat), vs = [.ref p, .ref r] ∧ Tp (RatQ C) H p as ∧ Tp (RatQ C) H r bs ∧ as.length = bs.length ∧ RowOk b m as ∧ RowOk b m bs ∧ b ≤ 40000000 ∧ m ≤ 40000000 ∧
  ∀ (H' : Hp) (x : Addr) (q : Q2), Same H H' → RatQ C H' x q → Lo q → rv q = dt as.length (rowF as) (rowF bs) → Q (.ref x) H'
section
variable {P : Program} {w : World} {K : PySem.W.Frag} {mg : Str → Option Value} {base : Heap} {C Z : Addr}
end
end Ind

set_option Elab.async false
set_option linter.all false
set_option maxRecDepth 100000
set_option maxHeartbeats 4000000
set_option exponentiation.threshold 9000
namespace Ind
open PySem PySem.Spec PyProof.Rows L2
open Builtin.Int (intBits)
/-! ### rows of numbers without zeros at the end -/
def trimQ : List Q2 → List Q2
  | [] => []
  | q :: qs => match trimQ qs with
    | [] => if q.1 = 0 then [] else [q]
    | r :: rs => q :: r :: rs
def Trim (qs : List Q2) : Prop := ∀ q, qs.getLast? = some q → q.1 ≠ 0
theorem rowF_nil (j : Nat) : rowF [] j = 0 := rowF_out (Nat.zero_le _)
theorem rowF_z (q : Q2) (qs : List Q2) : rowF (q :: qs) 0 = rv q := rfl
theorem rowF_s (q : Q2) (qs : List Q2) (j : Nat) : rowF (q :: qs) (j + 1) = rowF qs j := rfl
theorem rv_z {q : Q2} (h : q.1 = 0) : rv q = 0 := by
  unfold rv
  rw [h]
  grind
theorem trim_row : ∀ (qs : List Q2) (j : Nat), rowF (trimQ qs) j = rowF qs j
  | [], _ => rfl
  | q :: qs, j => by
    have ih := trim_row qs
    unfold trimQ
    cases e : trimQ qs with
    | nil =>
      rw [e] at ih
      show rowF (if q.1 = 0 then [] else [q]) j = _
      by_cases h : q.1 = 0
      · rw [if_pos h, rowF_nil]
        cases j with
        | zero => rw [rowF_z, rv_z h]
        | succ j => rw [rowF_s, ← ih j, rowF_nil]
      · rw [if_neg h]
        cases j with
        | zero => rfl
        | succ j => rw [rowF_s, rowF_s, ← ih j]
    | cons r rs =>
      rw [e] at ih
      show rowF (q :: r :: rs) j = _
      cases j with
      | zero => rfl
      | succ j => rw [rowF_s, rowF_s, ← ih j]
theorem trim_trim : ∀ qs : List Q2, Trim (trimQ qs)
  | [] => fun q h => by simp [trimQ] at h
  | q :: qs => by
    have ih := trim_trim qs
    unfold trimQ
    cases e : trimQ qs with
    | nil =>
      show Trim (if q.1 = 0 then [] else [q])
      by_cases h : q.1 = 0
      · rw [if_pos h]
        intro x hx
        simp at hx
      · rw [if_neg h]
        intro x hx
        have : q = x := by simpa using hx
        rw [← this]
        exact h
    | cons r rs =>
      rw [e] at ih
      show Trim (q :: r :: rs)
      intro x hx
      exact ih x (by rw [List.getLast?_cons_cons] at hx; exact hx)
theorem trim_mem : ∀ {qs : List Q2} {q : Q2}, q ∈ trimQ qs → q ∈ qs
  | [], _, h => h
  | p :: qs, q, h => by
    have ih := @trim_mem qs q
    unfold trimQ at h
    cases e : trimQ qs with
    | nil =>
      rw [e] at h
      have h : q ∈ (if p.1 = 0 then [] else [p]) := h
      by_cases c : p.1 = 0
      · rw [if_pos c] at h
        cases h
      · rw [if_neg c] at h
        rw [List.mem_singleton.mp h]
        simp
    | cons r rs =>
      rw [e] at h ih
      have h : q ∈ p :: r :: rs := h
      rcases List.mem_cons.mp h with rfl | h
      · simp
      · exact List.mem_cons_of_mem _ (ih h)
theorem trim_len : ∀ qs : List Q2, (trimQ qs).length ≤ qs.length
  | [] => Nat.le_refl _
  | q :: qs => by
    have ih := trim_len qs
    unfold trimQ
    cases e : trimQ qs with
    | nil =>
      show (if q.1 = 0 then [] else [q]).length ≤ _
      split
      · exact Nat.zero_le _
      · show 1 ≤ qs.length + 1
        omega
    | cons r rs =>
      rw [e] at ih
      show (r :: rs).length + 1 ≤ qs.length + 1
      omega
theorem trim_tail {q : Q2} {qs : List Q2} (h : Trim (q :: qs)) : Trim qs := fun x hx => h x (by
  cases qs with
  | nil => simp at hx
  | cons r rs => rw [List.getLast?_cons_cons]; exact hx)
theorem rv_ne {q : Q2} (h : Lo q) (e : q.1 ≠ 0) : rv q ≠ 0 := fun z => e (by
  have : q = q0 := lo_eq h lo_q0 (by rw [z, rv_q0])
  rw [this])
/-- a trimmed row that is zero everywhere is empty -/
theorem trim_nil : ∀ {qs : List Q2}, Trim qs → (∀ q ∈ qs, Lo q) → (∀ j, rowF qs j = 0) → qs = []
  | [], _, _, _ => rfl
  | q :: qs, t, lo, h => by
    have e := trim_nil (trim_tail t) (fun x hx => lo x (List.mem_cons_of_mem _ hx)) fun j => by
      have := h (j + 1)
      rwa [rowF_s] at this
    subst e
    have h0 := h 0
    rw [rowF_z] at h0
    exact absurd h0 (rv_ne (lo q (by simp)) (t q rfl))
theorem trim_uniq : ∀ {as bs : List Q2}, Trim as → Trim bs → (∀ q ∈ as, Lo q) → (∀ q ∈ bs, Lo q) → (∀ j, rowF as j = rowF bs j) → as = bs
  | [], bs, _, tb, _, lb, h => (trim_nil tb lb fun j => by rw [← h j]; exact rowF_nil j).symm
  | a :: as, [], ta, _, la, _, h => trim_nil ta la fun j => by rw [h j]; exact rowF_nil j
  | a :: as, b :: bs, ta, tb, la, lb, h => by
    have h0 := h 0
    rw [rowF_z, rowF_z] at h0
    rw [lo_eq (la a (by simp)) (lb b (by simp)) h0, trim_uniq (trim_tail ta) (trim_tail tb) (fun x hx => la x (List.mem_cons_of_mem _ hx)) (fun x hx => lb x (List.mem_cons_of_mem _ hx)) fun j => by
      have := h (j + 1)
      rwa [rowF_s, rowF_s] at this]
theorem trim_snoc {qs : List Q2} {q : Q2} (h : q.1 = 0) : trimQ (qs ++ [q]) = trimQ qs := by
  induction qs with
  | nil =>
    show (match trimQ [] with | [] => if q.1 = 0 then [] else [q] | r :: rs => q :: r :: rs) = []
    show (if q.1 = 0 then [] else [q]) = []
    rw [if_pos h]
  | cons p qs ih =>
    show trimQ (p :: (qs ++ [q])) = trimQ (p :: qs)
    unfold trimQ
    rw [ih]
theorem trim_id {qs : List Q2} {q : Q2} (h : q.1 ≠ 0) : trimQ (qs ++ [q]) = qs ++ [q] := by
  induction qs with
  | nil =>
    show (if q.1 = 0 then [] else [q]) = [q]
    rw [if_neg h]
  | cons p qs ih =>
    show trimQ (p :: (qs ++ [q])) = _
    unfold trimQ
    rw [ih]
    cases e : qs ++ [q] with
    | nil => simp at e
    | cons r rs =>
      show p :: r :: rs = p :: qs ++ [q]
      rw [List.cons_append, e]
/-! ### the least common denominator -/
def lcmD : List Q2 → Nat
  | [] => 1
  | q :: qs => Nat.lcm q.2.natAbs (lcmD qs)
theorem lcmD_pos : ∀ {qs : List Q2}, (∀ q ∈ qs, Lo q) → 0 < lcmD qs
  | [], _ => by decide
  | q :: qs, h => Nat.lcm_pos (by have := (h q (by simp)).pos; omega) (lcmD_pos fun x hx => h x (List.mem_cons_of_mem _ hx))
theorem dvd_lcmD : ∀ {qs : List Q2}, ∀ q ∈ qs, q.2 ∣ ((lcmD qs : Nat) : Int)
  | p :: qs, q, h => by
    refine Int.natAbs_dvd_natAbs.mp ?_
    show q.2.natAbs ∣ Nat.lcm p.2.natAbs (lcmD qs)
    rcases List.mem_cons.mp h with rfl | h
    · exact Nat.dvd_lcm_left _ _
    · have := Int.natAbs_dvd_natAbs.mpr (dvd_lcmD q h)
      exact Nat.dvd_trans this (Nat.dvd_lcm_right _ _)
theorem lcmD_dvd : ∀ {qs : List Q2} {M : Int}, (∀ q ∈ qs, q.2 ∣ M) → ((lcmD qs : Nat) : Int) ∣ M
  | [], M, _ => Int.one_dvd M
  | q :: qs, M, h => by
    refine Int.natAbs_dvd_natAbs.mp ?_
    show Nat.lcm q.2.natAbs (lcmD qs) ∣ M.natAbs
    exact Nat.lcm_dvd (Int.natAbs_dvd_natAbs.mpr (h q (by simp))) (Int.natAbs_dvd_natAbs.mpr (lcmD_dvd fun x hx => h x (List.mem_cons_of_mem _ hx)))
theorem lcmD_uniq {qs : List Q2} {B : Int} (h0 : 0 < B) (h1 : ∀ q ∈ qs, q.2 ∣ B) (h2 : B ∣ ((lcmD qs : Nat) : Int)) : B = ((lcmD qs : Nat) : Int) := by
  have a := Int.natAbs_dvd_natAbs.mpr h2
  have b := Int.natAbs_dvd_natAbs.mpr (lcmD_dvd h1)
  have := Nat.dvd_antisymm a b
  omega
/-! ### sizes -/
/-- the numbers over a common denominator have at most k bits -/
def PSz (k : Nat) (qs : List Q2) : Prop := (∀ q ∈ qs, Lo q) ∧ qs.length ≤ 100 ∧ ∃ M : Int, 0 < M ∧ intBits M ≤ k ∧ ∀ q ∈ qs, q.2 ∣ M ∧ intBits (q.1 * M.fdiv q.2) ≤ k
end Ind

set_option Elab.async false
set_option linter.all false
set_option maxRecDepth 100000
set_option maxHeartbeats 4000000
set_option exponentiation.threshold 9000
namespace Ind
open PySem PySem.Spec PyProof.Rows L2
open Builtin.Int (intBits)
abbrev sPI : Stmt := inClass (top 34) 0
abbrev sIsZ : Stmt := inClass (top 29) 14
/-! ### a polynomial -/
def pf (r nb : Addr) (B : Int) : List (Str × V) := putF "_below" (.int B) (putF "_numbers" (.ref nb) (putF "row" (.ref r) []))
theorem pf_row (r nb : Addr) (B : Int) : (pf r nb B).lookup ("row" : Str) = some (.ref r) := by
  unfold pf
  rw [lookup_putF, if_neg (by decide +kernel), lookup_putF, if_neg (by decide +kernel), lookup_putF, if_pos rfl]
theorem pf_num (r nb : Addr) (B : Int) : (pf r nb B).lookup ("_numbers" : Str) = some (.ref nb) := by
  unfold pf
  rw [lookup_putF, if_neg (by decide +kernel), lookup_putF, if_pos rfl]
theorem pf_bel (r nb : Addr) (B : Int) : (pf r nb B).lookup ("_below" : Str) = some (.int B) := by
  unfold pf
  rw [lookup_putF, if_pos rfl]
theorem pf_no (r nb : Addr) (B : Int) {m : Str} (h1 : ¬ m = "_below") (h2 : ¬ m = "_numbers") (h3 : ¬ m = "row") : (pf r nb B).lookup m = none := by
  unfold pf
  rw [lookup_putF, if_neg h1, lookup_putF, if_neg h2, lookup_putF, if_neg h3]
  all_goals rfl
def PolyAt (C CP : Addr) : FH (List Q2) := fun H p qs => ∃ dx r nb, H p = some (.ins CP dx (pf r nb ((lcmD qs : Nat) : Int))) ∧ Tp (RatQ C) H r qs ∧ H nb = some (.tup ((partsOf ((lcmD qs : Nat) : Int) qs).map V.int)) ∧ Trim qs
theorem PolyAt.stb (C CP : Addr) : Stb (PolyAt C CP) := fun H H' p qs s ⟨dx, r, nb, e, q, n, t⟩ => ⟨dx, r, nb, s _ _ e (by intro xs z; cases z), VecR.stb C H H' r qs s q, s _ _ n (by intro xs z; cases z), t⟩
/-- an item: a number or an int -/
def MixV (C : Addr) : Hp → V → Q2 → Prop := fun H v q => (∃ p, v = .ref p ∧ RatQ C H p q ∧ Lo q) ∨ ∃ n : Int, v = .int n ∧ q = (n, 1)
theorem MixV.same {C : Addr} {H H' : Hp} {v : V} {q : Q2} (s : Same H H') (x : MixV C H v q) : MixV C H' v q := by
  rcases x with ⟨p, e, h, lo⟩ | ⟨n, e, h⟩
  · exact .inl ⟨p, e, (RatQ.stb C).same s h, lo⟩
  · exact .inr ⟨n, e, h⟩
theorem MixV.lo {C : Addr} {H : Hp} {v : V} {q : Q2} (x : MixV C H v q) : Lo q := by
  rcases x with ⟨p, e, h, lo⟩ | ⟨n, e, rfl⟩
  · exact lo
  · exact ⟨show (0 : Int) < 1 by decide, by show Nat.gcd n.natAbs 1 = 1; exact Nat.gcd_one_right _⟩
theorem mkq_lo {q : Q2} (h : Lo q) : mkq q.1 q.2 = q := lo_eq (lo_mk h.ne) h (by rw [rv_mk h.ne]; rfl)
structure TxP (K : PySem.W.Frag) (mg : Str → Option Value) (CP : Addr) : Prop where
  cl : Cls K CP
  nR : NoAttr K CP "row"
  nN : NoAttr K CP "_numbers"
  nB : NoAttr K CP "_below"
  mgP : mg "Poly" = some (.ref CP)
  tuple : mg "tuple" = none
  list : mg "list" = none
  iter : mg "iter" = none
  zip : mg "zip" = none
  sum : mg "sum" = none
  enum : mg "enumerate" = none
theorem PI.or {X : Cx} {tg l : Expr} {w1 w2 : TI} (h1 : PI X tg l w1) (h2 : PI X tg l w2) : PI X tg l (fun σ H R => w1 σ H R ∨ w2 σ H R) := by
  constructor
  intro pins s σ H R I h
  rcases h with h | h
  · exact h1.run pins s σ H R I h
  · exact h2.run pins s σ H R I h
theorem paired_snoc_inv {α β : Type} {F : α → β → Prop} : ∀ {xs : List α} {x : α} {ys : List β}, Paired F (xs ++ [x]) ys → ∃ zs y, ys = zs ++ [y] ∧ Paired F xs zs ∧ F x y
  | [], x, _, .cons a .nil => ⟨[], _, rfl, .nil, a⟩
  | u :: xs, x, _, .cons a t => by
    obtain ⟨zs, y, e, h1, h2⟩ := paired_snoc_inv t
    exact ⟨_ :: zs, y, by rw [e]; rfl, .cons a h1, h2⟩
theorem paired_nil {α β : Type} {F : α → β → Prop} {ys : List β} (h : Paired F [] ys) : ys = [] := by
  cases h
  rfl
def spIsZ (C : Addr) : Sp := fun vs H Q _ => ∃ (p : Addr) (q : Q2), vs = [.ref p] ∧ RatQ C H p q ∧ Q (.bl (decide (q.1 = 0))) H
def spPI (C CP : Addr) : Sp := fun vs H Q _ => ∃ (p dx l : Addr) (xs : List V) (qs : List Q2) (k : Nat), vs = [.ref p, .ref l] ∧ H p = some (.ins CP dx []) ∧ (H l = some (.lst xs) ∨ H l = some (.tup xs)) ∧ Paired (MixV C H) xs qs ∧ PSz k qs ∧ k ≤ 40000000 ∧
  ∀ H' : Hp, PolyAt C CP H' p (trimQ qs) → (∀ b o, H b = some o → b ≠ p → H' b = some o) → Q .non H'
theorem psz_low {k : Nat} {qs : List Q2} (h : PSz k qs) : ∃ M : Int, 0 < M ∧ intBits M ≤ k ∧ ∀ q ∈ qs, q.2 ∣ M ∧ Bq k q ∧ 0 < q.2 := by
  obtain ⟨lo, _, M, m0, mb, hm⟩ := h
  refine ⟨M, m0, mb, fun q hq => ?_⟩
  obtain ⟨d, hn⟩ := hm q hq
  have hp := (lo q hq).pos
  have hb2 : intBits q.2 ≤ k := bits_dvd m0 d mb
  obtain ⟨c, hc⟩ := d
  have hf : M.fdiv q.2 = c := by
    rw [hc, Int.mul_comm]
    exact Int.mul_fdiv_cancel _ (Int.ne_of_gt hp)
  rw [hf] at hn
  have hc0 : c ≠ 0 := fun z => by
    rw [z, Int.mul_zero] at hc
    omega
  have : q.1.natAbs ≤ (q.1 * c).natAbs := by
    rw [Int.natAbs_mul]
    exact Nat.le_mul_of_pos_right _ (by omega)
  exact ⟨⟨c, hc⟩, ⟨PySem.intBits_le_of_natAbs this hn, hb2⟩, hp⟩
theorem psz_sub {k : Nat} {qs rs : List Q2} (h : PSz k qs) (hs : ∀ q ∈ rs, q ∈ qs) (hl : rs.length ≤ qs.length) : PSz k rs := by
  obtain ⟨lo, l1, M, m0, mb, hm⟩ := h
  exact ⟨fun q hq => lo q (hs q hq), by omega, M, m0, mb, fun q hq => hm q (hs q hq)⟩
end Ind

set_option Elab.async false
set_option linter.all false
set_option maxRecDepth 100000
set_option maxHeartbeats 4000000
set_option exponentiation.threshold 9000
namespace Ind
open PySem PySem.Spec PyProof.Rows L2
open Builtin.Int (intBits)
section
variable {P : Program} {w : World} {K : PySem.W.Frag} {mg : Str → Option Value} {base : Heap} {C Z CP : Addr}
theorem scIsZ : FnScope ["self"] ["self"] (defScope sIsZ) := ⟨rfl, rfl, rfl, by decide +kernel, rfl, by decide +kernel, by decide +kernel⟩
theorem ok_isz {f : Addr} {fd : FuncData} (F : Fun K "is_zero" "Ratio.is_zero" sIsZ f fd) (R : TxR K mg C Z) : FnOk P w K mg base CX0 1 f fd ["self"] (spIsZ C) := by
  refine F.ok scIsZ (fun vs H Q E h => ?_) (fun cdv A outer s H vs Q E hr h => ?_)
  · obtain ⟨p, q, rfl, _⟩ := h
    rfl
  · obtain ⟨p, q, rfl, ⟨dx, hp⟩, k⟩ := h
    refine ⟨_, pss_one (ps_ret (pe_cmpR op_eq (pe_fld (pv 0) rfl) pe_int (nomark _))), ?_⟩
    refine ⟨_, rfl, p, C, dx, _, _, rfl, hp, R.cl, R.nN, rf_n _ _, rfl, ?_⟩
    rw [show decide (V.int q.1 = V.int 0) = decide (q.1 = 0) by
      by_cases e : q.1 = 0
      · rw [e]; rfl
      · rw [decide_eq_false e, decide_eq_false (fun z => e (V.int.inj z))]]
    exact k

theorem boot_isi : bootBuiltins ("isinstance" : Str) = some (.builtin "isinstance") := by decide +kernel
abbrev nPI : List Str := ["self", "row", "found", "numbers", "below", "item"]
theorem scPI : FnScope nPI ["self", "row"] (defScope sPI) := ⟨rfl, rfl, rfl, by decide +kernel, rfl, by decide +kernel, by decide +kernel⟩
theorem ok_pi {f fI fIz fCf : Addr} {fd fdI fdIz fdCf : FuncData} {ds : List Value} (F : Fun K "__init__" "Poly.__init__" sPI f fd) (T : TxL K mg) (R : TxR K mg C Z) (I0 : TxI K C) (kI : PySem.W.kitOne K (.type "int") (.ref C) = some false) (TP : TxP K mg CP) (M : MkR P w K mg base C Z fI fdI ds) (mIz : Meth K C "is_zero" fIz) (bIz : Binds K fdIz ["self"] []) (GIz : FnOk P w K mg base CX0 1 fIz fdIz ["self"] (spIsZ C))
    (GCf : FnOk P w K mg base CX0 41 fCf fdCf ["numbers"] (spCFL K C)) (kCf : PySem.W.keepIn K (.ref fCf) = true) (bCf : Binds K fdCf ["numbers"] []) (gCf : mg "common_form" = some (.ref fCf)) : FnOk P w K mg base CX0 43 f fd ["self", "row"] (spPI C CP) := by
  refine F.ok scPI (fun vs H Q E h => ?_) (fun cdv A outer s H vs Q E hr h => ?_)
  · obtain ⟨p, dx, l, xs, qs, k, rfl, _⟩ := h
    rfl
  · obtain ⟨p, dx, l, xs, qs, kk, rfl, hp, hl, hP, hsz, hk, k⟩ := h
    have h1 := hr.mono (show 1 ≤ 42 by decide)
    have h41 := hr.mono (show 41 ≤ 42 by decide)
    refine ⟨_, C8.pss_cut (ps_setLc (i := 2) (own := [("item", 5)]) (g := gName 5) (tt := tYes) (te := tIf (tB (tCB (rIsi K) (tCons (tVar 5) (tCons (tC (.ref C)) tNil)))) (tVar 5) (tMake C (spInit C Z) [V.int 1] E0 (tCons (tVar 5) tNil))) rfl scPI.nd rfl rfl rfl (PI.or (pi_list (pv 1)) (pi_tup (pv 1))) (blkOk_by (N := nPI) (sc := defScope sPI) (by decide +kernel))
          (fun _ _ _ _ _ => pg_name (i := 5) scPI.nd rfl (Or.inl rfl)) (fun _ _ _ _ _ => pts_nil)
          (fun _ _ _ _ _ => pe_ifExp (pt_val (pe_callB call_isi (by rfl) T.isinstance boot_isi (pa_cons (pv 5) (pa_cons (pe_glob (v := .ref C) rfl R.mgC rfl) pa_nil)))) (pv 5) (pe_make M.cm M.fn hr (by rfl) R.mgC M.b1 M.v1 passL (pa_cons (pv 5) pa_nil))))
      (C8.pss_cut (ps_while PassesOwn.never (PW.pt (pw_and (pt_cmpR op_gt (pe_callB call_len_seq (by rfl) T.len PySem.boot_len (pa_cons (pv 2) pa_nil)) pe_int (nomark _)) (pw_and1 (pt_val (pe_meth0 (pe_ix ix_list (pv 2) (pe_un un_neg pe_int) fun _ _ => rfl) R.cl mIz GIz h1 bIz .nil pass0)))))
        (pss_one (ps_expr (pe_bm0 PySem.F.plainAttrs_list PySem.F.slot_list_pop PySem.F.type_list_pop mt_pop (pv 2)))))
      (pss_cons (ps_fld (pv 0) (pe_callTy call_tuple_of (by rfl) TP.tuple (by decide +kernel) (pa_cons (pv 2) pa_nil)) rfl)
      (pss_cons (ps_asg (pe_call GCf h41 (by rfl) gCf kCf bCf .nil pass0 (pa_cons (pv 2) pa_nil)) (pg_tup (by rfl) (pgs_cons (pg_name (i := 3) scPI.nd rfl (Or.inl rfl)) (pgs_cons (pg_name (i := 4) scPI.nd rfl (Or.inl rfl)) pgs_nil))))
      (pss_cons (ps_fld (pv 0) (pe_callTy call_tuple_of (by rfl) TP.tuple (by decide +kernel) (pa_cons (pv 3) pa_nil)) rfl)
      (pss_one (ps_fld (pv 0) (pv 4) rfl)))))), ?_⟩
    obtain ⟨lo, hn100, _⟩ := id hsz
    have lx := hP.length
    -- found
    have one : ∀ {σ : L2.St} {D : Addr} {H2 : Hp} {i : Nat} {x : V} (h5 : σ[5]? = some (some x)) (hD : H D = none) (hx : xs[i]? = some x) (z : Col (RatQ C) D H H2 (qs.take i)),
        (tIf (tB (tCB (rIsi K) (tCons (tVar 5) (tCons (tC (.ref C)) tNil)))) (tVar 5) (tMake C (spInit C Z) [V.int 1] E0 (tCons (tVar 5) tNil))) σ H2 (fun v H3 => ∃ acc, H3 D = some (.lst acc) ∧ acc.length < sizeLine ∧ Col (RatQ C) D H (upd H3 D (.lst (acc ++ [v]))) (qs.take (i + 1))) := fun {σ D H2 i x} h5 hD hx z => by
      obtain ⟨q, hqi, hq⟩ := Paired.at hP hx
      have hi := (List.getElem?_eq_some_iff.mp hqi).1
      have hq2 := hq.same z.s
      rw [take_snoc hqi]
      rcases hq2 with ⟨a, rfl, ha, hlo⟩ | ⟨n, rfl, rfl⟩
      · obtain ⟨da, ea⟩ := id ha
        refine ⟨_, h5, _, _, _, _, true, rfl, ClsV.own C, .base (.ins ea R.cl I0.ha I0.hn I0.ht I0.hm), I0.kC, true, rfl, ?_⟩
        refine iteT ⟨_, h5, ?_⟩
        exact z.push ((RatQ.stb C).x D) hD same_rfl ha (by rw [List.length_take]; omega)
      · refine ⟨_, h5, _, _, _, _, false, rfl, ClsV.own C, .base (.int n), kI, false, rfl, ?_⟩
        refine iteF ⟨_, h5, ?_⟩
        intro u du nu ndu neu
        refine ⟨u, du, n, 1, rfl, upd_same, fun z => absurd z (by decide), fun _ H6 hu kk => ⟨rfl, ?_⟩⟩
        have hu : RatQ C H6 u (mkq n 1) := hu
        rw [mkq_lo (q := (n, 1)) (lo _ (List.mem_of_getElem? hqi))] at hu
        exact z.push ((RatQ.stb C).x D) hD (Same.made nu ndu kk) hu (by rw [List.length_take]; omega)
    refine ⟨fun σ' H1 => ∃ D : Addr, σ' = [some (.ref p), some (.ref l), some (.ref D), none, none, none] ∧ H D = none ∧ Col (RatQ C) D H H1 qs, ?_, ?_⟩
    · rcases hl with hl | hl
      · refine .inl ⟨_, rfl, l, rfl, ⟨_, SqL.of hl⟩, fun D hD => lc_list (K := K) (a := l) (xs := xs) (fun i H2 => Col (RatQ C) D H H2 (qs.take i)) (Col.start hD) (fun i H2 _ z => z.s.seq (SqL.of hl)) (fun i x H2 hx z => ⟨rfl, one (by rfl) hD hx z⟩) fun H2 z => ?_⟩
        rw [lx, List.take_length] at z
        exact ⟨D, rfl, hD, z⟩
      · refine .inr ⟨_, rfl, l, rfl, ⟨_, SqT.of hl⟩, fun D hD => lc_tup (K := K) (a := l) (xs := xs) (fun i H2 => Col (RatQ C) D H H2 (qs.take i)) (Col.start hD) (fun i H2 _ z => .of (z.s _ _ hl)) (fun i x H2 hx z => ⟨rfl, one (by rfl) hD hx z⟩) fun H2 z => ?_⟩
        rw [lx, List.take_length] at z
        exact ⟨D, rfl, hD, z⟩
    rintro σ' H1 ⟨D, rfl, hD, z1⟩
    -- the zeros at the end
    refine ⟨fun σ' H' => σ' = [some (.ref p), some (.ref l), some (.ref D), none, none, none] ∧ Col (RatQ C) D H H' (trimQ qs), ?_, ?_⟩
    · refine while_by (fun σ H' => σ = [some (.ref p), some (.ref l), some (.ref D), none, none, none] ∧ ∃ rs, Col (RatQ C) D H H' rs ∧ trimQ rs = trimQ qs ∧ rs.length ≤ qs.length) (fun _ H' => match H' D with | some (.lst xs) => xs.length | _ => 0) ⟨rfl, qs, z1, rfl, Nat.le_refl _⟩ ?_ ?_
      · rintro σ H' ⟨rfl, rs, z, ht, hrl⟩
        obtain ⟨pa, ea, qa⟩ := id z.at_
        have hla := qa.length
        refine ⟨_, rfl, D, _, rfl, .inl (SqL.of ea), _, _, rfl, rfl, _, rfl, ?_⟩
        rw [List.length_map, hla]
        rcases List.eq_nil_or_concat pa with e | ⟨pi, u, e⟩
        · subst e
          have e2 := paired_nil qa
          subst e2
          rw [show decide ((0 : Int) < (([] : List Q2).length : Int)) = false from by decide]
          exact iteF (iteF ⟨rfl, by rw [← ht]; exact z⟩)
        · rw [List.concat_eq_append] at e
          subst e
          obtain ⟨ri, q, e2, hi, hu⟩ := paired_snoc_inv qa
          subst e2
          rw [show decide ((0 : Int) < (((ri ++ [q]).length : Nat) : Int)) = true from decide_eq_true (by rw [List.length_append]; show (0 : Int) < ((ri.length + 1 : Nat) : Int); omega)]
          obtain ⟨du, eu⟩ := id hu
          refine iteT ⟨_, rfl, 1, rfl, D, _, _, V.ref u, rfl, rfl, SqL.of ea, (by rw [List.map_append]; exact atI_last _ _), u, du, _, rfl, eu, rf_no _ _ (by decide +kernel) (by decide +kernel), u, q, rfl, hu, _, rfl, ?_⟩
          by_cases c : q.1 = 0
          · rw [decide_eq_true c]
            refine iteT ⟨_, rfl, .inl ⟨rfl, _, SqL.of ea⟩, D, _, V.ref u, rfl, rfl, ea, ?_, ⟨rfl, ri, ⟨fun b o e => ?_, pi, ?_, ?_⟩, ?_, ?_⟩, ?_⟩
            · rw [List.map_append, List.length_append]
              show (pi.map V.ref ++ [V.ref u])[(pi.map V.ref).length + 1 - 1]? = _
              rw [Nat.add_sub_cancel, List.getElem?_append_right (Nat.le_refl _), Nat.sub_self]
              rfl
            · rw [upd_ne (ne_of_none e hD)]
              exact z.s b o e
            · rw [upd_same, List.map_append]
              congr 2
              exact List.dropLast_concat
            · exact Paired.imp (fun a b f => (RatQ.stb C).x D _ _ a b (sx_upd ea) f) hi
            · rw [← ht, trim_snoc c]
            · rw [List.length_append] at hrl
              omega
            · show (match (upd H' D (.lst ((pi ++ [u]).map V.ref).dropLast)) D with | some (.lst xs) => xs.length | _ => 0) < (match H' D with | some (.lst xs) => xs.length | _ => 0)
              rw [upd_same, ea]
              show ((pi ++ [u]).map V.ref).dropLast.length < ((pi ++ [u]).map V.ref).length
              rw [List.length_dropLast, List.length_map, List.length_append]
              show pi.length + 1 - 1 < pi.length + 1
              omega
          · rw [decide_eq_false c]
            exact iteF ⟨rfl, by rw [← ht, trim_id c]; exact z⟩
      · rintro σ H' R R' hR ⟨v0, e0, p0, ys, e2, e3, i, j, e4, e5, c, e6, h⟩
        refine ⟨v0, e0, p0, ys, e2, e3, i, j, e4, e5, c, e6, ?_⟩
        cases c with
        | false => exact hR _ _ h
        | true =>
          obtain ⟨a0, a1, i1, r1, p2, x2, i2, u2, g1, g2, g3, g4, a, dx, fs, q1, q2, q3, p4, q4, t1, t2, c2, z2, h2⟩ := h
          exact ⟨a0, a1, i1, r1, p2, x2, i2, u2, g1, g2, g3, g4, a, dx, fs, q1, q2, q3, p4, q4, t1, t2, c2, z2, hR _ _ h2⟩
    rintro σ' H2 ⟨rfl, z2⟩
    have htm : ∀ q ∈ trimQ qs, q ∈ qs := fun q hq => trim_mem hq
    have hszt := psz_sub hsz htm (trim_len qs)
    have htr := trim_trim qs
    generalize trimQ qs = ts at z2 htm hszt htr k
    obtain ⟨pa, ea, qa⟩ := id z2.at_
    -- self.row
    refine ⟨_, rfl, D, _, rfl, .inl ⟨SqL.of ea, fun t ht => ?_⟩⟩
    have s3 := same_upd (o := .tup (pa.map V.ref)) ht
    have hp3 := s3 _ _ (z2.s _ _ hp)
    have tne : t ≠ p := fun e => by
      rw [e, z2.s _ _ hp] at ht
      cases ht
    refine ⟨_, rfl, p, CP, dx, [], rfl, hp3, TP.cl, TP.nR, by decide, ?_⟩
    have rat_up : ∀ {Ha : Hp} {fs : List (Str × V)} {o : HO} {a : Addr} {q : Q2}, Ha p = some (.ins CP dx fs) → fs.lookup ("n" : Str) = none → RatQ C Ha a q → RatQ C (upd Ha p o) a q := fun {Ha fs o a q} hpa hn ⟨dq, e⟩ => ⟨dq, by
      rw [upd_ne]
      · exact e
      · intro z
        rw [z, hpa] at e
        have e6 := (HO.ins.inj (Option.some.inj e)).2.2
        rw [e6, rf_n] at hn
        cases hn⟩
    have n0 : ([] : List (Str × V)).lookup ("n" : Str) = none := rfl
    have n1 : (putF "row" (.ref t) ([] : List (Str × V))).lookup ("n" : Str) = none := by
      rw [lookup_putF, if_neg (by decide +kernel)]
      rfl
    have n2 : ∀ r : Addr, (putF "_numbers" (.ref r) (putF "row" (.ref t) ([] : List (Str × V)))).lookup ("n" : Str) = none := fun r => by
      rw [lookup_putF, if_neg (by decide +kernel), n1]
    have eD3 := s3 _ _ ea
    have Dne : D ≠ p := fun e => by
      rw [e, hp] at hD
      cases hD
    have q3 : Paired (RatQ C (upd H2 t (.tup (pa.map V.ref)))) pa ts := Paired.imp (fun _ _ f => (RatQ.stb C).same s3 f) qa
    have et3 : (upd H2 t (.tup (pa.map V.ref))) t = some (.tup (pa.map V.ref)) := upd_same
    have k3 : ∀ b o, H b = some o → (upd H2 t (.tup (pa.map V.ref))) b = some o := fun b o e => s3 _ _ (z2.s b o e)
    generalize (upd H2 t (.tup (pa.map V.ref))) = H3 at hp3 eD3 q3 et3 k3 ⊢
    -- common_form
    have q4 : ∀ {o : HO}, Paired (RatQ C (upd H3 p o)) pa ts := fun {o} => Paired.imp (fun _ _ f => rat_up hp3 n0 f) q3
    have hB := lcmD_pos hszt.1
    obtain ⟨M, m0, mb, hM⟩ := psz_low hszt
    have bB : intBits ((lcmD ts : Nat) : Int) ≤ kk := bits_dvd m0 (lcmD_dvd fun q hq => (hM q hq).1) mb
    refine ⟨_, rfl, D, ts, kk, kk, ((lcmD ts : Nat) : Int), rfl, ⟨pa, by rw [upd_ne Dne]; exact eD3, q4⟩, fun q hq => ⟨(hM q hq).2.2, (hM q hq).2.1⟩, hszt.2.1, hk, hk, by omega, bB, fun q hq => dvd_lcmD q hq, fun H5 t2 l2 B s5 hl2 ht2 hll b0 bd bM => ?_⟩
    have eB := lcmD_uniq b0 bd bM
    subst eB
    refine ⟨t2, _, rfl, SqT.of ht2, rfl, _, _, rfl, _, _, rfl, rfl, ?_⟩
    have hp5 : H5 p = some (.ins CP dx (putF "row" (.ref t) [])) := s5 _ _ upd_same
    have et5 : H5 t = some (.tup (pa.map V.ref)) := s5 _ _ (by rw [upd_ne tne]; exact et3)
    have q5 : Paired (RatQ C H5) pa ts := Paired.imp (fun _ _ f => (RatQ.stb C).same s5 f) q4
    have k5 : ∀ b o, H b = some o → b ≠ p → H5 b = some o := fun b o e n => s5 _ _ (by rw [upd_ne n]; exact k3 b o e)
    -- self._numbers
    refine ⟨_, rfl, l2, _, rfl, .inl ⟨SqL.of hll, fun t3 ht3 => ?_⟩⟩
    have s6 := same_upd (o := .tup ((partsOf ((lcmD ts : Nat) : Int) ts).map V.int)) ht3
    have t3ne : t3 ≠ p := fun e => by
      rw [e, hp5] at ht3
      cases ht3
    have hp6 := s6 _ _ hp5
    have et6 := s6 _ _ et5
    have q6 := Paired.imp (fun a b f => (RatQ.stb C).same (b := b) s6 f) q5
    refine ⟨_, rfl, p, CP, dx, _, rfl, hp6, TP.cl, TP.nN, (by show 1 < 1000; decide), ?_⟩
    -- self._below
    refine ⟨_, rfl, _, rfl, p, CP, dx, _, rfl, upd_same, TP.cl, TP.nB, (by show 2 < 1000; decide), ?_⟩
    refine k _ ⟨dx, t, t3, upd_same, ⟨pa, ?_, ?_⟩, ?_, htr⟩ fun b o e n => ?_
    · rw [upd_ne tne, upd_ne tne]
      exact et6
    · exact Paired.imp (fun _ _ f => rat_up upd_same (n2 _) (rat_up hp6 n1 f)) q6
    · rw [upd_ne t3ne, upd_ne t3ne]
      exact upd_same
    · rw [upd_ne n, upd_ne n]
      exact s6 _ _ (k5 b o e n)
end
end Ind

set_option Elab.async false
set_option linter.all false
set_option maxRecDepth 100000
set_option maxHeartbeats 4000000
set_option exponentiation.threshold 9000
namespace Ind
open PySem PySem.Spec PyProof.Rows L2
open Builtin.Int (intBits)
abbrev sOfN : Stmt := top 35
abbrev sRS : Stmt := top 16
abbrev sRP : Stmt := top 17
abbrev sRD : Stmt := top 99
abbrev sTr : Stmt := top 13
/-- the row of the numbers over one denominator -/
def overQ (B : Int) (ns : List Int) : List Q2 := ns.map fun n => mkq n B
theorem over_len (B : Int) (ns : List Int) : (overQ B ns).length = ns.length := by
  unfold overQ
  rw [List.length_map]
theorem over_row {B : Int} (h : B ≠ 0) (ns : List Int) (j : Nat) : rowF (overQ B ns) j = ((ns.getD j 0 : Int) : Rat) / ((B : Int) : Rat) := by
  unfold rowF overQ
  rw [List.getD_eq_getElem?_getD, List.getElem?_map, List.getD_eq_getElem?_getD]
  cases e : ns[j]? with
  | none =>
    show rv q0 = ((0 : Int) : Rat) / _
    rw [rv_q0]
    grind
  | some n => exact rv_mk h
theorem bits_neg {x : Int} {k : Nat} (h : intBits x ≤ k) : intBits (-x) ≤ k := PySem.intBits_neg_le h
/-- numbers of at most k bits over a denominator of at most k bits -/
theorem over_psz {B : Int} {ns : List Int} {k : Nat} (h : B ≠ 0) (hl : ns.length ≤ 100) (hB : intBits B ≤ k) (hn : ∀ n ∈ ns, intBits n ≤ k) : PSz k (overQ B ns) := by
  have key : ∀ n ∈ ns, (nD n B) ∣ (B.natAbs : Int) ∧ intBits (nN n B * (B.natAbs : Int).fdiv (nD n B)) ≤ k := fun n hm => by
    have hp := nD_pos (n := n) h
    have e := nD_mul (n := n) h
    have ec := n_cross (n := n) h
    have d : nD n B ∣ B := ⟨_, e⟩
    have d2 : nD n B ∣ (B.natAbs : Int) := Int.dvd_natAbs.mpr d
    refine ⟨d2, ?_⟩
    obtain ⟨c, hc⟩ := d2
    have hf : (B.natAbs : Int).fdiv (nD n B) = c := by
      rw [hc, Int.mul_comm]
      exact Int.mul_fdiv_cancel _ (Int.ne_of_gt hp)
    rw [hf]
    refine PySem.intBits_le_of_natAbs ?_ (hn n hm)
    have h1 : (nN n B * c).natAbs * (nD n B).natAbs = n.natAbs * (nD n B).natAbs := by
      rw [← Int.natAbs_mul, ← Int.natAbs_mul, Int.mul_assoc, Int.mul_comm c, ← hc, Int.natAbs_mul, Int.natAbs_natCast, ← Int.natAbs_mul, ec]
    exact Nat.le_of_eq (Nat.eq_of_mul_eq_mul_right (by omega) h1)
  refine ⟨fun q hq => ?_, by rw [over_len]; exact hl, (B.natAbs : Int), by omega, ?_, fun q hq => ?_⟩
  · unfold overQ at hq
    obtain ⟨n, _, rfl⟩ := List.mem_map.mp hq
    exact lo_mk h
  · exact PySem.intBits_le_of_natAbs (by rw [Int.natAbs_natCast]; exact Nat.le_refl _) hB
  · unfold overQ at hq
    obtain ⟨n, hm, rfl⟩ := List.mem_map.mp hq
    exact key n hm
def spOfN (C CP : Addr) : Sp := fun vs H Q _ => ∃ (l : Addr) (ns : List Int) (B : Int) (k : Nat), vs = [.ref l, .int B] ∧ IntsAt H l ns ∧ B ≠ 0 ∧ ns.length ≤ 100 ∧ intBits B ≤ k ∧ (∀ n ∈ ns, intBits n ≤ k) ∧ k ≤ 40000000 ∧
  ∀ (H' : Hp) (p : Addr), Same H H' → PolyAt C CP H' p (trimQ (overQ B ns)) → Q (.ref p) H'
section
variable {P : Program} {w : World} {K : PySem.W.Frag} {mg : Str → Option Value} {base : Heap} {C Z CP : Addr}
/-- how Poly's __init__ stands -/
structure MkP (P : Program) (w : World) (K : PySem.W.Frag) (mg : Str → Option Value) (base : Heap) (C CP : Addr) (fI : Addr) (fdI : FuncData) : Prop where
  cm : Mk K CP fI
  fn : FnOk P w K mg base CX0 43 fI fdI ["self", "row"] (spPI C CP)
  b : Binds K fdI ["self", "row"] []
/-- behind Poly(l) -/
theorem mkP_ok {l : Addr} {xs : List V} {qs : List Q2} {k : Nat} {H1 : Hp} {Q : VK} {E : XK} (hl : H1 l = some (.lst xs) ∨ H1 l = some (.tup xs)) (hP : Paired (MixV C H1) xs qs) (hs : PSz k qs) (hk : k ≤ 40000000) (h : ∀ (p : Addr) (H' : Hp), PolyAt C CP H' p (trimQ qs) → Same H1 H' → Q (.ref p) H') :
    ∀ x dx, H1 x = none → H1 dx = none → dx ≠ x → spPI C CP [.ref x, .ref l] (upd (upd H1 dx (.own x)) x (.ins CP dx [])) (fun v H2 => v = .non ∧ Q (.ref x) H2) E := fun x dx nx nd ne => by
  have nx2 : (upd H1 dx (.own x)) x = none := by
    rw [upd_ne (Ne.symm ne)]
    exact nx
  have s : Same H1 (upd (upd H1 dx (.own x)) x (.ins CP dx [])) := (same_upd nd).trans (same_upd nx2)
  exact ⟨x, dx, l, xs, qs, k, rfl, upd_same, hl.imp (s _ _) (s _ _), Paired.imp (fun _ _ f => MixV.same s f) hP, hs, hk, fun H' r kk => ⟨rfl, h x H' r (Same.made nx nd kk)⟩⟩
abbrev nOfN : List Str := ["numbers", "below", "n"]
theorem scOfN : FnScope nOfN ["numbers", "below"] (defScope sOfN) := ⟨rfl, rfl, rfl, by decide +kernel, rfl, by decide +kernel, by decide +kernel⟩
theorem ok_ofn {f fI fP : Addr} {fd fdI fdP : FuncData} {ds : List Value} (F : Fun K "of_numbers" "of_numbers" sOfN f fd) (R : TxR K mg C Z) (TP : TxP K mg CP) (M : MkR P w K mg base C Z fI fdI ds) (MP : MkP P w K mg base C CP fP fdP) : FnOk P w K mg base CX0 45 f fd ["numbers", "below"] (spOfN C CP) := by
  refine F.ok scOfN (fun vs H Q E h => ?_) (fun cdv A outer s H vs Q E hr h => ?_)
  · obtain ⟨l, ns, B, k, rfl, _⟩ := h
    rfl
  · obtain ⟨l, ns, B, kk, rfl, hl, hB0, hn1, hB, hns, hk, k⟩ := h
    have h42 := hr.mono (show 42 ≤ 44 by decide)
    refine ⟨_, pss_one (ps_ret (pe_make MP.cm MP.fn hr (by rfl) TP.mgP MP.b .nil pass0 (pa_cons (pe_lc (own := [("n", 2)]) (g := gName 2) (tt := tYes) (te := tMake C (spInit C Z) [] E0 (tCons (tVar 2) (tCons (tVar 1) tNil))) rfl scOfN.nd (PI.or (pi_list (pv 0)) (pi_tup (pv 0))) (blkOk_by (N := nOfN) (sc := defScope sOfN) (by decide +kernel))
          (fun _ _ _ _ _ => pg_name (i := 2) scOfN.nd rfl (Or.inl rfl)) (fun _ _ _ _ _ => pts_nil) (fun _ _ _ _ _ => pe_make M.cm M.fn h42 (by rfl) R.mgC M.b2 .nil passL (pa_cons (pv 2) (pa_cons (pv 1) pa_nil)))) pa_nil))), ?_⟩
    have psz := over_psz hB0 hn1 hB hns
    have lo := psz.1
    have one : ∀ {σ : L2.St} {D : Addr} {H2 : Hp} {i : Nat} {x : V} (h2 : σ[2]? = some (some x)) (h1 : σ[1]? = some (some (V.int B))) (hD : H D = none) (hx : (ns.map V.int)[i]? = some x) (z : Col (RatQ C) D H H2 ((overQ B ns).take i)),
        (tMake C (spInit C Z) [] E0 (tCons (tVar 2) (tCons (tVar 1) tNil))) σ H2 (fun v H3 => ∃ acc, H3 D = some (.lst acc) ∧ acc.length < sizeLine ∧ Col (RatQ C) D H (upd H3 D (.lst (acc ++ [v]))) ((overQ B ns).take (i + 1))) := fun {σ D H2 i x} h2 h1 hD hx z => by
      obtain ⟨n, hn, rfl⟩ := int_of hx
      have hil := (List.getElem?_eq_some_iff.mp hn).1
      have hq : (overQ B ns)[i]? = some (mkq n B) := by
        unfold overQ
        rw [List.getElem?_map, hn]
        rfl
      refine ⟨_, h2, _, h1, ?_⟩
      intro u du nu ndu neu
      refine ⟨u, du, n, B, rfl, upd_same, fun z => absurd z hB0, fun _ H6 hu kk => ⟨rfl, ?_⟩⟩
      rw [take_snoc hq]
      refine z.push ((RatQ.stb C).x D) hD (Same.made nu ndu kk) hu ?_
      rw [List.length_take, over_len]
      omega
    have fin : ∀ {D : Addr} {H2 : Hp} (hD : H D = none) (z : Col (RatQ C) D H H2 ((overQ B ns).take ns.length)), ∀ x dx, H2 x = none → H2 dx = none → dx ≠ x → spPI C CP [.ref x, .ref D] (upd (upd H2 dx (.own x)) x (.ins CP dx [])) (fun v H3 => v = .non ∧ Q (.ref x) H3) E0 := fun {D H2} hD z => by
      rw [List.take_of_length_le (by rw [over_len]; exact Nat.le_refl _)] at z
      obtain ⟨pa, ea, qa⟩ := z.at_
      refine mkP_ok (.inl ea) ?_ psz hk fun p H' hp s' => k H' p (z.s.trans s') hp
      have : ∀ {pa : List Addr} {qs : List Q2}, Paired (RatQ C H2) pa qs → (∀ q ∈ qs, Lo q) → Paired (MixV C H2) (pa.map V.ref) qs := by
        intro pa qs h
        induction h with
        | nil => exact fun _ => .nil
        | cons a t ih => exact fun l => .cons (.inl ⟨_, rfl, a, l _ (by simp)⟩) (ih fun q hq => l q (List.mem_cons_of_mem _ hq))
      exact this qa lo
    rcases hl with hl | hl
    · refine .inl ⟨_, rfl, l, rfl, ⟨_, SqL.of hl⟩, fun D hD => lc_list (K := K) (a := l) (xs := ns.map V.int) (fun i H2 => Col (RatQ C) D H H2 ((overQ B ns).take i)) (Col.start hD) (fun i H2 _ z => z.s.seq (SqL.of hl)) (fun i x H2 hx z => ⟨rfl, one (by rfl) (by rfl) hD hx z⟩) fun H2 z => ?_⟩
      rw [List.length_map] at z
      exact fin hD z
    · refine .inr ⟨_, rfl, l, rfl, ⟨_, SqT.of hl⟩, fun D hD => lc_tup (K := K) (a := l) (xs := ns.map V.int) (fun i H2 => Col (RatQ C) D H H2 ((overQ B ns).take i)) (Col.start hD) (fun i H2 _ z => .of (z.s _ _ hl)) (fun i x H2 hx z => ⟨rfl, one (by rfl) (by rfl) hD hx z⟩) fun H2 z => ?_⟩
      rw [List.length_map] at z
      exact fin hD z
end
end Ind

set_option Elab.async false
set_option linter.all false
set_option maxRecDepth 100000
set_option maxHeartbeats 4000000
namespace Ind
open PySem PySem.Spec PyProof.Rows L2
/-! ### zip(t, l), t a tuple, l a list -/
def ItzM (K : PySem.W.Frag) (a b : Addr) : It where
  go := fun i H => ∃ (xs ys : List V) (x y : V), SqT K H a xs ∧ SqL K H b ys ∧ xs[i]? = some x ∧ ys[i]? = some y
  yld := fun i H v H' => ∃ T x y, v = .ref T ∧ H T = none ∧ H' = upd H T (.tup [x, y]) ∧ (∀ xs, SqT K H a xs → xs[i]? = some x) ∧ ∀ ys, SqL K H b ys → ys[i]? = some y
  stop := fun i H => ∃ xs ys : List V, SqT K H a xs ∧ SqL K H b ys ∧ i = min xs.length ys.length
/-- how its cells stand at turn i -/
structure ZmAt (z TI TO i1 i2 a b : Addr) (i : Nat) (h : Heap) : Prop where
  hz : IsZip h z TI TO .none
  hI : IsTupOf2 h TI (.ref i1) (.ref i2)
  hO : ∃ x y, IsTupOf2 h TO x y
  s1 : h.IsTupleIter i1 a i
  s2 : h.IsListIter i2 b i
theorem ZmAt.mem {z TI TO i1 i2 a b : Addr} {i : Nat} {h : Heap} (st : ZmAt z TI TO i1 i2 a b i h) (c : Addr) (hc : c ∈ [z, TI, TO, i1, i2]) : ∃ o, h.get? c = some o ∧ ∀ v, o.data ≠ .cell v := by
  obtain ⟨hz, hI, ⟨x, y, hO⟩, ⟨o1, e1, _, d1⟩, ⟨o2, e2, _, d2⟩⟩ := st
  simp only [List.mem_cons, List.not_mem_nil, or_false] at hc
  rcases hc with rfl | rfl | rfl | rfl | rfl
  · exact ⟨_, hz, fun v q => (nomatch q)⟩
  · exact ⟨_, hI, fun v q => (nomatch q)⟩
  · exact ⟨_, hO, fun v q => (nomatch q)⟩
  · exact ⟨o1, e1, fun v q => by rw [d1] at q; exact nomatch q⟩
  · exact ⟨o2, e2, fun v q => by rw [d2] at q; exact nomatch q⟩
theorem zm_sep {z TI TO i1 i2 a b : Addr} (D : ZipApart z TI TO i1 i2 a b) : ZipSep2 z TI TO i1 i2 [i1, a] [i2, b] := by
  refine ⟨D.TIz, D.TOz, D.TITO, D.TIi1, by simp, ?_, ?_, D.TIi2, by simp, ?_, ?_, ?_, ?_⟩
  · simp [D.i1z.symm, D.l1z.symm]
  · simp [D.TOi1, D.l1TO.symm]
  · simp [D.i2z.symm, D.l2z.symm]
  · simp [D.TOi2, D.l2TO.symm]
  · simp [D.i12, D.l2i1.symm]
  · simp [D.i12.symm, D.l1i2.symm]
theorem turn_zipM {P : Program} {w : World} {K : PySem.W.Frag} {elts : List Expr} {kk : Nat} {tpos : Pos} {a b z TI TO i1 i2 : Addr} (D : ZipApart z TI TO i1 i2 a b) :
    Turn P w K (.Tuple elts kk tpos) (ItzM K a b) [z, TI, TO, i1, i2] z (ZmAt z TI TO i1 i2 a b) := by
  refine { mem := by simp, obj := fun i h st c hc => st.mem c hc, keep := ?keep, item := ?item, done := ?done, self := fun A i s Q E st h => wpAny_pyIter_zip st.hz h }
  case keep =>
    rintro i h h' ⟨hz, hI, ⟨x, y, hO⟩, h1, h2⟩ k
    refine ⟨k z (by simp) _ hz, k TI (by simp) _ hI, ⟨x, y, k TO (by simp) _ hO⟩, ?_, ?_⟩
    · exact h1.at fun o q => k i1 (by simp) o q
    · exact h2.at fun o q => k i2 (by simp) o q
  case item =>
    rintro X rfl rfl rfl hc i pins s σ H E I hf st hg
    obtain ⟨hz, hI, ⟨x0, y0, hO⟩, h1, h2⟩ := id st
    obtain ⟨xs, ys, x, y, hqx, hqy, hx, hy⟩ := hg
    obtain ⟨ia, ra, pa, _⟩ := I.tuple hqx
    obtain ⟨ib, rb, pb, _⟩ := I.list hqy
    obtain ⟨u, hu, ru⟩ := ra.get hx
    obtain ⟨v, hv, rw'⟩ := rb.get hy
    have hh : X.A.in1.handled = none := I.ok.hd hc
    have la : i < ia.toArray.size := by
      have := (List.getElem?_eq_some_iff.mp hu).1
      simpa using this
    have lb : i < ib.toArray.size := by
      have := (List.getElem?_eq_some_iff.mp hv).1
      simpa using this
    refine wpAny_pyNext_zipD2_item (zm_sep D) (Draws.tuple hh i1 a D.l1i1 ia.toArray) (Draws.list hh i2 b D.l2i2 ib.toArray) hz hI hO ⟨h1, pa⟩ ⟨h2, pb.isList⟩ la lb ?_
    intro u' v' h' tk e1 e2 z' O' s1' s2' hT hsz hk
    have eu : u' = u := by
      have e1 : ia.toArray[i]? = some u' := e1
      rw [List.getElem?_toArray, hu] at e1
      exact (Option.some.inj e1).symm
    have ev : v' = v := by
      have e2 : ib.toArray[i]? = some v' := e2
      rw [List.getElem?_toArray, hv] at e2
      exact (Option.some.inj e2).symm
    subst eu
    subst ev
    refine ⟨_, rfl, wpAny_letOwnedTupleGo_zip (s := { s with heap := h', toks := tk }) z' fun h2' z2 sb => ?_⟩
    have hzl : z < s.heap.objs.size := Heap.lt_size hz
    have hT2 : IsTupOf2 h2' s.heap.objs.size u' v' := (sb.2 _ (Nat.ne_of_gt hzl)).trans hT
    have new : ObjOk X.prog X.w (upd H s.heap.objs.size (.tup [x, y])) h2' s.heap.objs.size (.tup [x, y]) :=
      ⟨show 2 ≤ sizeLine by decide, [u', v'], .cons ru (.cons rw' .nil), _, hT2, rfl, _, rfl⟩
    have I1 : Inv X pins σ (upd H s.heap.objs.size (.tup [x, y])) { s with heap := h2', toks := tk } := by
      refine I.turnedNew (ch := [z, TI, TO, i1, i2]) (fun c o hb q => ?_) hf (Nat.le_refl _) new
      simp only [List.mem_cons, List.not_mem_nil, or_false, not_or] at hb
      exact (sb.2 c hb.1).trans (hk c o hb.1 hb.2.2.1 hb.2.2.2.1 hb.2.2.2.2 q)
    refine ⟨.ref s.heap.objs.size, _, I1, rfl, ⟨_, x, y, rfl, I.hok.fresh (Nat.le_refl _), rfl, fun l hl => ?_, fun l hl => ?_⟩, ⟨z2, ?_, ⟨u', v', ?_⟩, ?_, ?_⟩, fun c hcm => ?_⟩
    · rw [I.tuple_inj hl hqx]
      exact hx
    · rw [I.list_inj hl hqy]
      exact hy
    · exact (sb.2 _ D.TIz).trans (hk _ _ D.TIz D.TITO D.TIi1 D.TIi2 hI)
    · exact (sb.2 _ D.TOz).trans O'
    · exact s1'.1.at fun o q => (sb.2 _ D.i1z).trans q
    · exact s2'.1.at fun o q => (sb.2 _ D.i2z).trans q
    · obtain ⟨o, ho, _⟩ := st.mem c hcm
      rw [upd_ne (Nat.ne_of_lt (Heap.lt_size ho))]
      exact (hf c hcm).1
  case done =>
    rintro X rfl rfl rfl hc i pins s σ H E I hf st hg
    obtain ⟨hz, hI, ⟨x0, y0, hO⟩, h1, h2⟩ := st
    obtain ⟨xs, ys, hqx, hqy, hend⟩ := hg
    obtain ⟨ia, ra, pa, _⟩ := I.tuple hqx
    obtain ⟨ib, rb, pb, _⟩ := I.list hqy
    have hh : X.A.in1.handled = none := I.ok.hd hc
    have la : ia.toArray.size = xs.length := by rw [List.size_toArray, ← ra.length]
    have lb : ib.toArray.size = ys.length := by rw [List.size_toArray, ← rb.length]
    refine wpAny_pyNext_zipD2_end (zm_sep D) (Draws.tuple hh i1 a D.l1i1 ia.toArray) (Draws.list hh i2 b D.l2i2 ib.toArray) hz hI hO ⟨h1, pa⟩ ⟨h2, pb.isList⟩ (by omega) (by omega) (by omega) ?_
    intro h' tk hk
    refine ⟨rfl, I.turnedL (ch := [z, TI, TO, i1, i2]) (fun c o hb q => ?_) hf⟩
    simp only [List.mem_cons, List.not_mem_nil, or_false, not_or] at hb
    exact hk c o hb.1 hb.2.2.1 hb.2.2.2.1 hb.2.2.2.2 q
def iZipM (K : PySem.W.Frag) (ta : TA) : TI := fun σ H R => ta σ H fun vs H1 => ∃ a b xs ys, vs = [.ref a, .ref b] ∧ SqT K H1 a xs ∧ SqL K H1 b ys ∧ R (ItzM K a b) H1
theorem pi_zipM {X : Cx} {e e2 : Expr} {ta : TA} {p pos tpos : Pos} {elts : List Expr} {kk : Nat} (hg : Gl X "zip") (hm : X.mg "zip" = none) (ha : PA X [e, e2] ta)
    (hs : starEach [e, e2] X.env = (false, eval e X.env) :: starEach [e2] X.env := by rfl) (hpl : (backTo pos (starEach [e2] X.env)).any (·.1) = false := by rfl) :
    PI X (.Tuple elts kk tpos) (.Call (.Name "zip" p) [e, e2] [] pos) (iZipM X.K ta) := by
  constructor
  intro pins s σ H R I h
  refine Call_ (ld_blt I hg hm PyProof.Rows.boot_zip (PyProof.Rows.callWith_type1 (thn (ha.run pos pins s σ H _ I h) ?_) hs hpl))
  rintro us s1 ⟨vs, H1, I1, r1, a, b, xs, ys, rfl, hqx, hqy, q⟩
  rcases r1 with _ | ⟨r, _ | ⟨r', rr⟩⟩
  cases rr
  cases r
  cases r'
  obtain ⟨ia, ra, pa, _⟩ := I1.tuple hqx
  obtain ⟨ib, rb, pb, _⟩ := I1.list hqy
  have ta' : s1.heap.IsTuple a ia.toArray := pa
  obtain ⟨oa, hoa, _⟩ := id ta'
  refine zip_begins2 (begins_tuple a ia.toArray) (begins_list b ib.toArray) ta' pb.isList ?_
  intro h' hz hI hO g1 g2 hsz hk
  refine wpAny_pyIter_zip hz ⟨_, [_, _, _, _, _], _, _, H1, rfl, I1.kept (t' := s1.toks) hk, turn_zipM (PySem.W.ktu_apart s1.heap.objs.size a b (Heap.lt_size hoa) pb.lt), ⟨hz, hI, ⟨_, _, hO⟩, ⟨_, g1, rfl, rfl⟩, ⟨_, g2, rfl, rfl⟩⟩, ?_, q⟩
  intro c hcm
  have hle : s1.heap.objs.size ≤ c := by
    simp only [List.mem_cons, List.not_mem_nil, or_false] at hcm
    rcases hcm with e | e | e | e | e <;> (rw [e]; first | exact Nat.le_refl _ | exact Nat.le_add_right _ _)
  exact I1.fpOk hle (I1.hok.fresh hle)
theorem walk_zipM {K : PySem.W.Frag} {a b : Addr} {xs ys : List V} {n : Nat} (hn : n = min xs.length ys.length) : Walk (ItzM K a b) n (fun H => SqT K H a xs ∧ SqL K H b ys) (YPair (fun i => xs[i]?) (fun i => ys[i]?)) := by
  subst hn
  refine ⟨fun i _ hi q => ?_, fun _ q => ⟨xs, ys, q.1, q.2, rfl⟩, fun i H v H' _ q y => ?_⟩
  · have hm := Nat.lt_min.mp hi
    exact ⟨xs, ys, _, _, q.1, q.2, List.getElem?_eq_getElem hm.1, List.getElem?_eq_getElem hm.2⟩
  · obtain ⟨T, x, y', e1, e2, e3, e4, e5⟩ := y
    exact ⟨T, x, y', e1, e2, e3, (e4 xs q.1), (e5 ys q.2)⟩
end Ind

set_option Elab.async false
set_option linter.all false
set_option maxRecDepth 100000
set_option maxHeartbeats 4000000
namespace Ind
open PySem PySem.Spec PyProof.Rows L2
/-! ### enumerate(t), t a tuple -/
theorem enum_tup {prog : Program} {w : World} {A : Around} {E : Value → Shared → Prop} {s : Shared} {l : Addr} {items : Array Value} {Q : PySem.Fin → Shared → Prop} (ht : s.heap.IsTuple l items) (h : Q (.done (.ret (.ref (s.heap.push { cls := .type "tuple_iterator", data := .fields #[.ref l, .int 0 0] }).objs.size))) { s with heap := (s.heap.push { cls := .type "tuple_iterator", data := .fields #[.ref l, .int 0 0] }).push { cls := .type "enumerate", data := .fields #[.none, .bool false, .ref s.heap.objs.size, rawInt 0, .none, .none] } }) :
    wpAny (model prog w) A (Builtin.«enumerate.__new__» ⟨[.type "enumerate", .ref l], []⟩) Q E s := by
  have sub := PySem.sub_enumerate
  have bg := (begins_tuple l items).iter prog w A
  obtain ⟨hpp, g, d, tk, os⟩ := s
  wp_walk using bg
  refine wpAny_stack fun a _ _ _ => ?_
  wp_walk
  split
  · split <;> wp_walk using bg
    all_goals first | exact ht | skip
    all_goals wp_walk
    all_goals exact h
  · wp_walk using bg
    all_goals first | exact ht | skip
    all_goals wp_walk
    all_goals exact h
theorem call_enum_tup {prog : Program} {w : World} {A : Around} {E : Value → Shared → Prop} {s : Shared} {l : Addr} {items : Array Value} {Q : Value → Shared → Prop} (ht : s.heap.IsTuple l items)
    (h : ∀ h' : Heap, IsEnum h' (s.heap.objs.size + 1) s.heap.objs.size 0 .none → h'.IsTupleIter s.heap.objs.size l 0 → h'.objs.size = s.heap.objs.size + 2 → (∀ (b : Addr) (o : Obj), s.heap.get? b = some o → h'.get? b = some o) → Q (.ref (s.heap.objs.size + 1)) { s with heap := h' }) :
    wpAny (model prog w) A (call (.type "enumerate") [.ref l]) Q E s := by
  refine callType_newIn F.called_enumerate (by decide) (F.typeCall_enumerate_1 _) (F.newCall_enumerate_1 _) ?_ F.entry_enumerate_new (S := fun A R s => s.heap.IsTuple l items ∧ R (.ok (.ret (.ref (s.heap.push { cls := .type "tuple_iterator", data := .fields #[.ref l, .int 0 0] }).objs.size))) { s with heap := (s.heap.push { cls := .type "tuple_iterator", data := .fields #[.ref l, .int 0 0] }).push { cls := .type "enumerate", data := .fields #[.none, .bool false, .ref s.heap.objs.size, rawInt 0, .none, .none] } }) ?_ ?_
  · exact fun obj => F.args_object_init_2 obj (.ref l)
  · intro A R s ⟨h1, h2⟩
    exact enum_tup h1 h2
  · refine ⟨ht, ?_⟩
    have hs : (s.heap.push { cls := .type "tuple_iterator", data := .fields #[.ref l, .int 0 0] }).objs.size = s.heap.objs.size + 1 := Heap.size_push ..
    rw [hs]
    have g1 : ∀ (o : Obj) (b : Addr) (u : Obj), s.heap.get? b = some u → ((s.heap.push { cls := .type "tuple_iterator", data := .fields #[.ref l, .int 0 0] }).push o).get? b = some u := fun o b u e => Heap.get?_push_of_some _ (Heap.get?_push_of_some _ e)
    have e1 : IsEnum ((s.heap.push { cls := .type "tuple_iterator", data := .fields #[.ref l, .int 0 0] }).push { cls := .type "enumerate", data := .fields #[.none, .bool false, .ref s.heap.objs.size, rawInt 0, .none, .none] }) (s.heap.objs.size + 1) s.heap.objs.size 0 .none := by
      show Heap.get? _ _ = _
      rw [← hs]
      exact Heap.get?_push_size _ rfl
    refine ⟨⟨_, e1, rfl⟩, h _ e1 ⟨_, Heap.get?_push_of_some _ (Heap.get?_push_size _ rfl), rfl, rfl⟩ ?_ (g1 _)⟩
    rw [Heap.size_push, hs]

def IteT (K : PySem.W.Frag) (a : Addr) : It where
  go := fun i H => ∃ (xs : List V) (x : V), SqT K H a xs ∧ xs[i]? = some x
  yld := fun i H v H' => ∃ T x, v = .ref T ∧ H T = none ∧ H' = upd H T (.tup [.int (i : Int), x]) ∧ ∀ xs, SqT K H a xs → xs[i]? = some x
  stop := fun i H => ∃ xs : List V, SqT K H a xs ∧ i = xs.length
theorem turn_enumT {P : Program} {w : World} {K : PySem.W.Frag} {elts : List Expr} {kk : Nat} {tpos : Pos} {a e it : Addr} (n1 : e ≠ it) (n2 : e ≠ a) (n3 : a ≠ it) :
    Turn P w K (.Tuple elts kk tpos) (IteT K a) [e, it] e (fun i h => (∃ old, IsEnum h e it (i : Int) old) ∧ h.IsTupleIter it a i) := by
  refine { mem := by simp, obj := ?obj, keep := ?keep, item := ?item, done := ?done, self := fun A i s Q E st h => let ⟨⟨_, he⟩, _⟩ := st; wpAny_pyIter_enum he h }
  case obj =>
    rintro i h ⟨⟨old, he⟩, o1, e1, _, d1⟩ b hb
    simp only [List.mem_cons, List.not_mem_nil, or_false] at hb
    rcases hb with rfl | rfl
    · exact ⟨_, he, fun v q => (nomatch q)⟩
    · exact ⟨o1, e1, fun v q => by rw [d1] at q; exact nomatch q⟩
  case keep =>
    rintro i h h' ⟨⟨old, he⟩, h1⟩ k
    exact ⟨⟨old, k e (by simp) _ he⟩, h1.at fun o q => k it (by simp) o q⟩
  case item =>
    rintro X rfl rfl rfl hc i pins s σ H E I hf st hg
    obtain ⟨⟨old, he⟩, h1⟩ := id st
    obtain ⟨xs, x, hqx, hx⟩ := hg
    obtain ⟨ia, ra, pa, _⟩ := I.tuple hqx
    obtain ⟨u, hu, ru⟩ := ra.get hx
    have hh : X.A.in1.handled = none := I.ok.hd hc
    have la : i < ia.toArray.size := by
      have := (List.getElem?_eq_some_iff.mp hu).1
      simpa using this
    refine wpAny_pyNext_enum_itemD (Draws.tuple hh it a n3 ia.toArray) he ⟨h1, pa⟩ la n1 (by simp [n1, n2]) ?_
    intro u' h' tk e1 O' s1' hT hsz hk
    have eu : u' = u := by
      have e1 : ia.toArray[i]? = some u' := e1
      rw [List.getElem?_toArray, hu] at e1
      exact (Option.some.inj e1).symm
    subst eu
    refine ⟨_, rfl, wpAny_letOwnedTupleGo_enum (s := { s with heap := h', toks := tk + 1 }) O' fun h2' z2 sb => ?_⟩
    have hel : e < s.heap.objs.size := Heap.lt_size he
    have hT2 : h2'.get? s.heap.objs.size = some { cls := .type "tuple", data := .seq #[.int (i : Int) tk, u'] } := (sb.2 _ (Nat.ne_of_gt hel)).trans hT
    have new : ObjOk X.prog X.w (upd H s.heap.objs.size (.tup [.int (i : Int), x])) h2' s.heap.objs.size (.tup [.int (i : Int), x]) :=
      ⟨show 2 ≤ sizeLine by decide, [.int (i : Int) tk, u'], .cons ⟨tk, rfl⟩ (.cons ru .nil), _, hT2, rfl, _, rfl⟩
    have I1 : Inv X pins σ (upd H s.heap.objs.size (.tup [.int (i : Int), x])) { s with heap := h2', toks := tk + 1 } := by
      refine I.turnedNew (ch := [e, it]) (fun c o hb q => ?_) hf (Nat.le_refl _) new
      simp only [List.mem_cons, List.not_mem_nil, or_false, not_or] at hb
      exact (sb.2 c hb.1).trans (hk c o hb.1 hb.2 q)
    refine ⟨.ref s.heap.objs.size, _, I1, rfl, ⟨_, x, rfl, I.hok.fresh (Nat.le_refl _), rfl, fun l hl => ?_⟩, ⟨⟨_, by simpa using z2⟩, ?_⟩, fun c hcm => ?_⟩
    · rw [I.tuple_inj hl hqx]
      exact hx
    · exact s1'.1.at fun o q => (sb.2 _ n1.symm).trans q
    · obtain ⟨o, ho⟩ : ∃ o, s.heap.get? c = some o := by
        simp only [List.mem_cons, List.not_mem_nil, or_false] at hcm
        rcases hcm with rfl | rfl
        · exact ⟨_, he⟩
        · obtain ⟨o1, e1, _⟩ := h1
          exact ⟨o1, e1⟩
      rw [upd_ne (Nat.ne_of_lt (Heap.lt_size ho))]
      exact (hf c hcm).1
  case done =>
    rintro X rfl rfl rfl hc i pins s σ H E I hf st hg
    obtain ⟨⟨old, he⟩, h1⟩ := st
    obtain ⟨xs, hqx, hend⟩ := hg
    obtain ⟨ia, ra, pa, _⟩ := I.tuple hqx
    have hh : X.A.in1.handled = none := I.ok.hd hc
    have la : i = ia.toArray.size := by rw [List.size_toArray, ← ra.length, hend]
    refine wpAny_pyNext_enum_endD (Draws.tuple hh it a n3 ia.toArray) he ⟨by rw [← la]; exact h1, pa⟩ ?_
    intro h' hk
    refine ⟨rfl, I.turnedL (ch := [e, it]) (fun c o hb q => ?_) hf⟩
    simp only [List.mem_cons, List.not_mem_nil, or_false, not_or] at hb
    exact hk c o hb.2 q
def iEnumT (K : PySem.W.Frag) (ta : TA) : TI := fun σ H R => ta σ H fun vs H1 => ∃ a xs, vs = [.ref a] ∧ SqT K H1 a xs ∧ R (IteT K a) H1
theorem pi_enumT {X : Cx} {e : Expr} {ta : TA} {p pos tpos : Pos} {elts : List Expr} {kk : Nat} (hg : Gl X "enumerate") (hm : X.mg "enumerate" = none) (ha : PA X [e] ta)
    (hs : starEach [e] X.env = (false, eval e X.env) :: starEach [] X.env := by rfl) (hpl : (backTo pos (starEach [] X.env)).any (·.1) = false := by rfl) :
    PI X (.Tuple elts kk tpos) (.Call (.Name "enumerate" p) [e] [] pos) (iEnumT X.K ta) := by
  constructor
  intro pins s σ H R I h
  refine Call_ (ld_blt I hg hm PyProof.Rows.boot_enumerate (PyProof.Rows.callWith_type1 (thn (ha.run pos pins s σ H _ I h) ?_) hs hpl))
  rintro us s1 ⟨vs, H1, I1, r1, a, xs, rfl, hqx, q⟩
  rcases r1 with _ | ⟨r, rr⟩
  cases rr
  cases r
  obtain ⟨ia, ra, pa, _⟩ := I1.tuple hqx
  have ta' : s1.heap.IsTuple a ia.toArray := pa
  obtain ⟨oa, hoa, _⟩ := id ta'
  refine call_enum_tup ta' ?_
  intro h' hz h1 hsz hk
  have hl := Heap.lt_size hoa
  refine wpAny_pyIter_enum hz ⟨_, [_, _], _, _, H1, rfl, I1.kept (t' := s1.toks) hk, turn_enumT (Nat.succ_ne_self _) (Nat.ne_of_gt (Nat.lt_succ_of_lt hl)) (Nat.ne_of_lt hl), ⟨⟨_, hz⟩, h1⟩, ?_, q⟩
  intro c hcm
  have hle : s1.heap.objs.size ≤ c := by
    simp only [List.mem_cons, List.not_mem_nil, or_false] at hcm
    rcases hcm with e | e <;> (rw [e]; first | exact Nat.le_refl _ | exact Nat.le_add_right _ _)
  exact I1.fpOk hle (I1.hok.fresh hle)
theorem walk_enumT {K : PySem.W.Frag} {a : Addr} {xs : List V} : Walk (IteT K a) xs.length (fun H => SqT K H a xs) (YPair (fun i => some (.int (i : Int))) (fun i => xs[i]?)) := by
  refine ⟨fun i _ hi q => ⟨xs, _, q, List.getElem?_eq_getElem hi⟩, fun _ q => ⟨xs, q, rfl⟩, fun i H v H' _ q y => ?_⟩
  obtain ⟨T, x, e1, e2, e3, e4⟩ := y
  exact ⟨T, .int (i : Int), x, e1, e2, e3, rfl, e4 xs q⟩
end Ind

set_option Elab.async false
set_option linter.all false
set_option maxRecDepth 100000
set_option maxHeartbeats 4000000
set_option exponentiation.threshold 9000
namespace Ind
open PySem PySem.Spec PyProof.Rows L2
open Builtin.Int (intBits)
/-- row_sum(a, left, b, right) of two tuples -/
def spRS : Sp := fun vs H Q _ => ∃ (p q : Addr) (as bs : List Int) (l r : Int) (k : Nat), vs = [.ref p, .int l, .ref q, .int r] ∧ H p = some (.tup (as.map V.int)) ∧ H q = some (.tup (bs.map V.int)) ∧ as.length ≤ 100 ∧ bs.length ≤ 100 ∧ (∀ n ∈ as, intBits l + intBits n ≤ k) ∧ (∀ n ∈ bs, intBits r + intBits n ≤ k) ∧ k ≤ 60000000 ∧
  ∀ (H' : Hp) (t : Addr) (ns : List Int), Same H H' → H' t = some (.lst (ns.map V.int)) → ns.length = max as.length bs.length → (∀ n ∈ ns, intBits n ≤ k + 1) → (∀ j, ns.getD j 0 = l * as.getD j 0 + r * bs.getD j 0) → Q (.ref t) H'
theorem getD_map {f : Int → Int} (h : f 0 = 0) (ns : List Int) (j : Nat) : (ns.map f).getD j 0 = f (ns.getD j 0) := by
  rw [List.getD_eq_getElem?_getD, List.getElem?_map, List.getD_eq_getElem?_getD]
  cases ns[j]? with
  | none => exact h.symm
  | some n => rfl
theorem getD_set {ns : List Int} {i : Nat} {v : Int} (h : i < ns.length) (j : Nat) : (ns.set i v).getD j 0 = if j = i then v else ns.getD j 0 := by
  rw [List.getD_eq_getElem?_getD, List.getD_eq_getElem?_getD]
  by_cases e : j = i
  · subst e
    rw [if_pos rfl, List.getElem?_set_self h]
    rfl
  · rw [if_neg e, List.getElem?_set_ne (Ne.symm e)]
theorem bits_getD {ns : List Int} {k : Nat} (h : ∀ n ∈ ns, intBits n ≤ k) (j : Nat) : intBits (ns.getD j 0) ≤ k := by
  rw [List.getD_eq_getElem?_getD]
  cases e : ns[j]? with
  | none => exact Nat.le_trans (show intBits 0 ≤ 0 by decide) (Nat.zero_le _)
  | some n => exact h n (List.mem_of_getElem? e)
theorem bits_mulD {ns : List Int} {l : Int} {S : Nat} (h : ∀ n ∈ ns, intBits l + intBits n ≤ S) (j : Nat) : intBits (l * ns.getD j 0) ≤ S := by
  rw [List.getD_eq_getElem?_getD]
  cases e : ns[j]? with
  | none =>
    show intBits (l * 0) ≤ S
    rw [Int.mul_zero]
    exact Nat.le_trans (show intBits 0 ≤ 0 by decide) (Nat.zero_le _)
  | some n => exact Nat.le_trans (PySem.intBits_mul_le (Nat.le_refl _) (Nat.le_refl _)) (h n (List.mem_of_getElem? e))
theorem ixN_of {n k : Nat} (h : k < n) : ixN n ((k : Nat) : Int) = some k := by
  unfold ixN
  rw [if_pos (by omega), if_pos (by omega)]
  all_goals rfl
theorem mem_getD {ns : List Int} {n : Int} (h : n ∈ ns) : ∃ j, j < ns.length ∧ ns.getD j 0 = n := by
  obtain ⟨j, hj, e⟩ := List.getElem_of_mem h
  exact ⟨j, hj, by rw [List.getD_eq_getElem?_getD, List.getElem?_eq_getElem hj, e]; rfl⟩
section
variable {P : Program} {w : World} {K : PySem.W.Frag} {mg : Str → Option Value} {base : Heap} {C Z CP : Addr}
abbrev nRS : List Str := ["a", "left", "b", "right", "found", "k", "n"]
theorem scRS : FnScope nRS ["a", "left", "b", "right"] (defScope sRS) := ⟨rfl, rfl, rfl, by decide +kernel, rfl, by decide +kernel, by decide +kernel⟩
theorem ok_rs {f : Addr} {fd : FuncData} (F : Fun K "row_sum" "row_sum" sRS f fd) (T : TxL K mg) (ge : mg "enumerate" = none) : FnOk P w K mg base CX0 1 f fd ["a", "left", "b", "right"] spRS := by
  refine F.ok scRS (fun vs H Q E h => ?_) (fun cdv A outer s H vs Q E hr h => ?_)
  · obtain ⟨p, q, as, bs, l, r, k, rfl, _⟩ := h
    rfl
  · obtain ⟨p, q, as, bs, l, r, kk, rfl, hp, hq, ha1, hb1, ha, hb, hk, k⟩ := h
    refine ⟨_, C8.pss_cut (ps_if (pt_cmpR op_lt (pe_callB call_len_seq (by rfl) T.len PySem.boot_len (pa_cons (pv 0) pa_nil)) (pe_callB call_len_seq (by rfl) T.len PySem.boot_len (pa_cons (pv 2) pa_nil)) (nomark _))
        (pss_one (ps_asg (pe_tup (pa_cons (pv 2) (pa_cons (pv 3) (pa_cons (pv 0) (pa_cons (pv 1) pa_nil))))) (pg_tup (by rfl) (pgs_cons (pg_name (i := 0) scRS.nd rfl (Or.inl rfl)) (pgs_cons (pg_name (i := 1) scRS.nd rfl (Or.inr rfl)) (pgs_cons (pg_name (i := 2) scRS.nd rfl (Or.inl rfl)) (pgs_cons (pg_name (i := 3) scRS.nd rfl (Or.inl rfl)) pgs_nil))))))) pss_nil)
      (pss_cons (ps_setLc (i := 4) (own := [("n", 6)]) (g := gName 6) (tt := tYes) (te := tOp (rI (fun i j => intBits i + intBits j ≤ 134217728) fun i j => .int (i * j)) (tVar 1) (tVar 6)) rfl scRS.nd rfl rfl rfl (pi_tup (pv 0)) (blkOk_by (N := nRS) (sc := defScope sRS) (by decide +kernel))
          (fun _ _ _ _ _ => pg_name (i := 6) scRS.nd rfl (Or.inl rfl)) (fun _ _ _ _ _ => pts_nil) (fun _ _ _ _ _ => pe_op op_mulB (pv 1) (pv 6)))
      (pss_cons (ps_for PassesOwn.never rfl (pi_enumT (by rfl) ge (pa_cons (pv 2) pa_nil)) (pg_tup (by rfl) (pgs_cons (pg_name (i := 5) scRS.nd rfl (Or.inl rfl)) (pgs_cons (pg_name (i := 6) scRS.nd rfl (Or.inl rfl)) pgs_nil)))
          (pss_one (ps_asg (pe_op op_add (pe_ix ix_list (pv 4) (pv 5) fun _ _ => rfl) (pe_op op_mulB (pv 3) (pv 6))) (pg_sub (pv 4) (pv 5) set_list))))
      (pss_one (ps_ret (pv 4))))), ?_⟩
    refine ⟨fun σ' Ha => ∃ (p q : Addr) (cs ds : List Int) (l' r' : Int), σ' = [some (.ref p), some (.int l'), some (.ref q), some (.int r'), none, none, none] ∧ Same H Ha ∧ Ha p = some (.tup (cs.map V.int)) ∧ Ha q = some (.tup (ds.map V.int)) ∧ cs.length ≤ 100 ∧ ds.length ≤ cs.length ∧ cs.length = max as.length bs.length ∧ (∀ n ∈ cs, intBits l' + intBits n ≤ kk) ∧ (∀ n ∈ ds, intBits r' + intBits n ≤ kk) ∧ ∀ j, l' * cs.getD j 0 + r' * ds.getD j 0 = l * as.getD j 0 + r * bs.getD j 0, ?_, ?_⟩
    · refine ⟨_, rfl, p, _, rfl, .inr (SqT.of hp), _, rfl, q, _, rfl, .inr (SqT.of hq), _, _, rfl, rfl, _, rfl, ite2 (fun c => ?_) (fun c => ?_)⟩
      · have c := of_decide_eq_true c
        rw [List.length_map, List.length_map] at c
        refine ⟨_, rfl, _, rfl, _, rfl, _, rfl, (by show 4 ≤ sizeLine; decide), fun t ht => ?_⟩
        have st := same_upd (o := .tup [V.ref q, V.int r, V.ref p, V.int l]) ht
        refine ⟨t, _, rfl, SqT.of upd_same, rfl, _, _, rfl, _, _, rfl, _, _, rfl, _, _, rfl, rfl, ?_⟩
        exact ⟨q, p, bs, as, r, l, rfl, st, st _ _ hq, st _ _ hp, hb1, by omega, by omega, hb, ha, fun j => Int.add_comm _ _⟩
      · have c : ¬ ((((as.map V.int).length : Nat) : Int) < (((bs.map V.int).length : Nat) : Int)) := fun z => c (decide_eq_true z)
        rw [List.length_map, List.length_map] at c
        exact ⟨p, q, as, bs, l, r, rfl, same_rfl, hp, hq, ha1, by omega, by omega, ha, hb, fun j => rfl⟩
    rintro σ' Ha ⟨p, q, cs, ds, l', r', rfl, sa, hp, hq, hc1, hd1, hmax, hc, hd, heq⟩
    -- found
    refine ⟨_, rfl, p, rfl, ⟨_, SqT.of hp⟩, fun D hD => lc_tup (K := K) (a := p) (xs := cs.map V.int) (fun i H2 => ColI D Ha H2 ((cs.take i).map fun n => l' * n)) (ColI.start hD) (fun i H2 _ z => .of (z.s _ _ hp)) ?_ ?_⟩
    · rintro i x H2 hx z
      obtain ⟨n, hn, rfl⟩ := int_of hx
      have hi := (List.getElem?_eq_some_iff.mp hn).1
      have bn := hc n (List.mem_of_getElem? hn)
      refine ⟨rfl, _, rfl, _, rfl, _, _, rfl, rfl, (by show intBits l' + intBits n ≤ 134217728; omega), ?_⟩
      rw [map_take_snoc hn]
      refine z.push hD same_rfl ?_
      rw [List.length_map, List.length_take]
      omega
    rintro H2 z
    rw [List.length_map, List.take_length] at z
    have hD0 : H D = none := by
      cases e : H D with
      | none => rfl
      | some o =>
        rw [sa _ _ e] at hD
        cases hD
    have hqH2 := z.s _ _ hq
    have qne : q ≠ D := fun e => by
      rw [e, hD] at hq
      cases hq
    refine ⟨_, rfl, q, _, rfl, SqT.of hqH2, for_it (walk_enumT (K := K) (a := q) (xs := ds.map V.int))
      (fun i σ H5 => (∃ v5 v6 : Option V, σ = [some (.ref p), some (.int l'), some (.ref q), some (.int r'), some (.ref D), v5, v6]) ∧ Same H H5 ∧ H5 q = some (.tup (ds.map V.int)) ∧ ∃ ns : List Int, H5 D = some (.lst (ns.map V.int)) ∧ ns.length = cs.length ∧ ∀ j, ns.getD j 0 = l' * cs.getD j 0 + if j < i then r' * ds.getD j 0 else 0)
      ⟨⟨none, none, rfl⟩, sa.trans z.s, hqH2, _, z.at_, by rw [List.length_map], fun j => by rw [getD_map (by omega), if_neg (Nat.not_lt_zero _)]; omega⟩ (fun i σ H5 _ ⟨_, _, e, _⟩ => SqT.of e) ?_ ?_⟩
    · rintro i x σ H5 H6 hi ⟨⟨v5, v6, rfl⟩, s5, eq5, ns, eD, hnl, hns⟩ ⟨T', x1, x2, rfl, hT, rfl, g1, g2⟩
      cases g1
      obtain ⟨n, hn, rfl⟩ := int_of g2
      have hil := (List.getElem?_eq_some_iff.mp hn).1
      have bn := hd n (List.mem_of_getElem? hn)
      have s6 : Same H5 (upd H5 T' (.tup [.int (i : Int), .int n])) := same_upd hT
      have eD6 := s6 _ _ eD
      obtain ⟨m, hm⟩ : ∃ m, ns[i]? = some m := ⟨_, List.getElem?_eq_getElem (by omega)⟩
      refine ⟨T', _, rfl, SqT.of upd_same, rfl, _, _, rfl, _, _, rfl, rfl, ?_⟩
      refine ⟨_, rfl, _, rfl, D, _, _, V.int m, rfl, rfl, SqL.of eD6, atI_of (by rw [List.getElem?_map, hm]; rfl), _, rfl, _, rfl, _, _, rfl, rfl, (by show intBits r' + intBits n ≤ 134217728; omega), _, _, rfl, rfl, ?_⟩
      refine ⟨_, rfl, _, rfl, D, ns.map V.int, (i : Int), i, rfl, rfl, eD6, ixN_of (by rw [List.length_map]; omega), ⟨_, _, rfl⟩, fun b o e => ?_, ?_, ns.set i (m + r' * n), ?_, by rw [List.length_set, hnl], fun j => ?_⟩
      · rw [upd_ne (ne_of_none e hD0)]
        exact s6 _ _ (s5 b o e)
      · rw [upd_ne qne]
        exact s6 _ _ eq5
      · rw [upd_same, List.map_set]
      · rw [getD_set (by omega)]
        have em : ns.getD i 0 = m := by
          rw [List.getD_eq_getElem?_getD, hm]
          rfl
        have en : ds.getD i 0 = n := by
          rw [List.getD_eq_getElem?_getD, hn]
          rfl
        by_cases e : j = i
        · subst e
          rw [if_pos rfl, if_pos (Nat.lt_succ_self _), ← em, hns j, if_neg (Nat.lt_irrefl _), en]
          omega
        · rw [if_neg e, hns j]
          by_cases c : j < i
          · rw [if_pos c, if_pos (by omega)]
          · rw [if_neg c, if_neg (by omega)]
    · rintro σ H5 ⟨⟨v5, v6, rfl⟩, s5, _, ns, eD, hnl, hns⟩
      rw [List.length_map] at hns
      have hform : ∀ j, ns.getD j 0 = l' * cs.getD j 0 + r' * ds.getD j 0 := fun j => by
        rw [hns j]
        by_cases c : j < ds.length
        · rw [if_pos c]
        · rw [if_neg c]
          have : ds.getD j 0 = 0 := by
            rw [List.getD_eq_getElem?_getD, List.getElem?_eq_none (by omega)]
            rfl
          rw [this]
          omega
      refine ⟨_, rfl, k H5 D ns s5 eD (by omega) (fun n hn => ?_) fun j => by rw [hform j, heq j]⟩
      obtain ⟨j, _, e⟩ := mem_getD hn
      rw [← e, hform j]
      have b1 := bits_mulD hc j
      have b2 := bits_mulD hd j
      have := PySem.intBits_add_le b1 b2
      omega
end
end Ind

set_option Elab.async false
set_option linter.all false
set_option maxRecDepth 100000
set_option maxHeartbeats 4000000
set_option exponentiation.threshold 9000
namespace Ind
open PySem PySem.Spec PyProof.Rows L2
open Builtin.Int (intBits)
def TrimI (ms : List Int) : Prop := ∀ m, ms.getLast? = some m → m ≠ 0
/-- trimmed(row) of a list -/
def spTrim : Sp := fun vs H Q _ => ∃ (p : Addr) (ns : List Int), vs = [.ref p] ∧ H p = some (.lst (ns.map V.int)) ∧ ns.length ≤ 1000 ∧
  ∀ (H' : Hp) (t : Addr) (ms : List Int), Same H H' → H' t = some (.lst (ms.map V.int)) → ms.length ≤ ns.length → (∀ n ∈ ms, n ∈ ns) → (∀ j, ms.getD j 0 = ns.getD j 0) → TrimI ms → Q (.ref t) H'
/-- sums of ints -/
def sumI : Nat → (Nat → Int) → Int
  | 0, _ => 0
  | n + 1, f => sumI n f + f n
/-- the product's items, the first i of the left row -/
def cvI (as bs : List Int) (i j : Nat) : Int := sumI i fun t => if t ≤ j then as.getD t 0 * bs.getD (j - t) 0 else 0
theorem cv_succ (as bs : List Int) (i j : Nat) : cvI as bs (i + 1) j = cvI as bs i j + if i ≤ j then as.getD i 0 * bs.getD (j - i) 0 else 0 := rfl
theorem cv_bits {as bs : List Int} {k l : Nat} (ha : ∀ n ∈ as, intBits n ≤ k) (hb : ∀ n ∈ bs, intBits n ≤ l) (j : Nat) : ∀ i, intBits (cvI as bs i j) ≤ k + l + i
  | 0 => Nat.le_trans (show intBits 0 ≤ 0 by decide) (Nat.zero_le _)
  | i + 1 => by
    have ih := cv_bits ha hb j i
    rw [cv_succ]
    have h2 : intBits (if i ≤ j then as.getD i 0 * bs.getD (j - i) 0 else 0) ≤ k + l + i := by
      split
      · have := PySem.intBits_mul_le (bits_getD ha i) (bits_getD hb (j - i))
        omega
      · exact Nat.le_trans (show intBits 0 ≤ 0 by decide) (Nat.zero_le _)
    have := PySem.intBits_add_le ih h2
    omega
/-- row_product of two tuples -/
def spRP : Sp := fun vs H Q _ => ∃ (p q : Addr) (as bs : List Int) (k l : Nat), vs = [.ref p, .ref q] ∧ H p = some (.tup (as.map V.int)) ∧ H q = some (.tup (bs.map V.int)) ∧ as.length ≤ 60 ∧ bs.length ≤ 60 ∧ (∀ n ∈ as, intBits n ≤ k) ∧ (∀ n ∈ bs, intBits n ≤ l) ∧ k + l ≤ 40000000 ∧
  ∀ (H' : Hp) (t : Addr) (ns : List Int), Same H H' → H' t = some (.lst (ns.map V.int)) → ns.length ≤ as.length + bs.length → (∀ n ∈ ns, intBits n ≤ k + l + 100) → (∀ j, ns.getD j 0 = cvI as bs as.length j) → Q (.ref t) H'
/-- row_derivative of a tuple -/
def spRD : Sp := fun vs H Q _ => ∃ (p : Addr) (as : List Int) (k : Nat), vs = [.ref p] ∧ H p = some (.tup (as.map V.int)) ∧ as.length ≤ 100 ∧ (∀ n ∈ as, intBits n ≤ k) ∧ k ≤ 5000000 ∧
  ∀ (H' : Hp) (t : Addr) (ns : List Int), Same H H' → H' t = some (.lst (ns.map V.int)) → ns.length = as.length - 1 → (∀ n ∈ ns, intBits n ≤ k + 7) → (∀ j, ns.getD j 0 = ((j + 1 : Nat) : Int) * as.getD (j + 1) 0) → Q (.ref t) H'
theorem getD_take {ns : List Int} {i : Nat} (h : ∀ j, i ≤ j → ns.getD j 0 = 0) (j : Nat) : (ns.take i).getD j 0 = ns.getD j 0 := by
  rw [List.getD_eq_getElem?_getD, List.getElem?_take]
  by_cases c : j < i
  · rw [if_pos c, List.getD_eq_getElem?_getD]
  · rw [if_neg c, h j (by omega)]
    rfl
section
variable {P : Program} {w : World} {K : PySem.W.Frag} {mg : Str → Option Value} {base : Heap} {C Z CP : Addr}
abbrev nTm : List Str := ["row", "size"]
theorem scTm : FnScope nTm ["row"] (defScope sTr) := ⟨rfl, rfl, rfl, by decide +kernel, rfl, by decide +kernel, by decide +kernel⟩
theorem ok_trim {f : Addr} {fd : FuncData} (F : Fun K "trimmed" "trimmed" sTr f fd) (T : TxL K mg) : FnOk P w K mg base CX0 1 f fd ["row"] spTrim := by
  refine F.ok scTm (fun vs H Q E h => ?_) (fun cdv A outer s H vs Q E hr h => ?_)
  · obtain ⟨p, ns, rfl, _⟩ := h
    rfl
  · obtain ⟨p, ns, rfl, hp, hl, k⟩ := h
    refine ⟨_, pss_cons (ps_set (i := 1) scTm.nd rfl (Or.inl rfl) (pe_callB call_len_seq (by rfl) T.len PySem.boot_len (pa_cons (pv 0) pa_nil)))
      (C8.pss_cut (ps_while PassesOwn.never (PW.pt (pw_and (pt_cmpR op_gt (pv 1) pe_int (nomark _)) (pw_and1 (pt_cmpR op_eq (pe_ix ix_list (pv 0) (pe_op op_sub (pv 1) pe_int) fun _ _ => rfl) pe_int (nomark _)))))
        (pss_one (ps_set (i := 1) scTm.nd rfl (Or.inl rfl) (pe_op op_sub (pv 1) pe_int))))
      (pss_one (ps_ret (pe_slice sl_list (pv 0) po_none (po_some (pv 1)))))), ?_⟩
    refine ⟨_, rfl, p, _, rfl, .inl (SqL.of hp), ?_⟩
    rw [List.length_map]
    refine ⟨fun σ' H' => H' = H ∧ ∃ i : Nat, σ' = [some (.ref p), some (.int (i : Int))] ∧ i ≤ ns.length ∧ (∀ j, i ≤ j → ns.getD j 0 = 0) ∧ (i = 0 ∨ ns.getD (i - 1) 0 ≠ 0), ?_, ?_⟩
    · refine while_by (fun σ' H' => H' = H ∧ ∃ i : Nat, σ' = [some (.ref p), some (.int (i : Int))] ∧ i ≤ ns.length ∧ ∀ j, i ≤ j → ns.getD j 0 = 0) (fun σ _ => match σ[1]? with | some (some (V.int y)) => y.toNat | _ => 0) ⟨rfl, ns.length, rfl, Nat.le_refl _, fun j hj => by rw [List.getD_eq_getElem?_getD, List.getElem?_eq_none hj]; rfl⟩ ?_ ?_
      · rintro σ H' ⟨rfl, i, rfl, hi, hz⟩
        refine ⟨_, rfl, _, _, rfl, rfl, _, rfl, ?_⟩
        rcases Nat.eq_zero_or_pos i with e | hpos
        · subst e
          rw [show decide ((0 : Int) < (((0 : Nat)) : Int)) = false from by decide]
          exact iteF (iteF ⟨rfl, 0, rfl, hi, hz, .inl rfl⟩)
        · obtain ⟨n, rfl⟩ : ∃ n, i = n + 1 := ⟨i - 1, by omega⟩
          obtain ⟨m, hm⟩ : ∃ m, ns[n]? = some m := ⟨_, List.getElem?_eq_getElem (by omega)⟩
          have em : ns.getD n 0 = m := by
            rw [List.getD_eq_getElem?_getD, hm]
            rfl
          have e1 : ((n + 1 : Nat) : Int) - 1 = (n : Int) := by omega
          rw [show decide ((0 : Int) < ((n + 1 : Nat) : Int)) = true from decide_eq_true (by omega)]
          refine iteT ⟨_, rfl, _, rfl, _, _, rfl, rfl, p, _, _, V.int m, rfl, rfl, SqL.of hp, (by rw [e1]; exact atI_of (by rw [List.getElem?_map, hm]; rfl)), rfl, _, rfl, ite2 (fun c => ?_) (fun c => ?_)⟩
          · have hm0 : m = 0 := V.int.inj (of_decide_eq_true c)
            refine ⟨_, rfl, _, _, rfl, rfl, ⟨rfl, n, ?_, by omega, fun j hj => ?_⟩, ?_⟩
            · rw [← e1]
              rfl
            · by_cases e : j = n
              · rw [e, em, hm0]
              · exact hz j (by omega)
            · show (((n + 1 : Nat) : Int) - 1).toNat < ((n + 1 : Nat) : Int).toNat
              omega
          · refine ⟨rfl, n + 1, rfl, hi, hz, .inr ?_⟩
            rw [Nat.add_sub_cancel, em]
            exact fun z => c (decide_eq_true (by rw [z]))
      · rintro σ H' R R' hR ⟨v, e1, i, j, e2, e3, c, e4, h⟩
        refine ⟨v, e1, i, j, e2, e3, c, e4, ?_⟩
        cases c with
        | false => exact hR _ _ h
        | true =>
          obtain ⟨a0, a1, b0, b1, i1, j1, d1, d2, p2, x2, i2, u2, g1, g2, g3, g4, z1, c2, z2, h2⟩ := h
          exact ⟨a0, a1, b0, b1, i1, j1, d1, d2, p2, x2, i2, u2, g1, g2, g3, g4, z1, c2, z2, hR _ _ h2⟩
    rintro σ' H' ⟨rfl, i, rfl, hi, hz, hlast⟩
    refine ⟨_, rfl, _, rfl, _, rfl, p, _, rfl, SqL.of hp, fun t ht => ?_⟩
    have hcut : cutV (ns.map V.int) none (some (i : Int)) = (ns.take i).map V.int := by
      unfold cutV HT.sIx
      simp only [List.length_map]
      rw [if_neg (by omega)]
      show List.take (min (i : Int).toNat ns.length - 0) (List.drop 0 (ns.map V.int)) = _
      rw [Int.toNat_natCast, Nat.min_eq_left hi, Nat.sub_zero, List.drop_zero, List.map_take]
    rw [hcut]
    exact k _ t (ns.take i) (same_upd ht) upd_same (by rw [List.length_take]; omega) (fun n hn => List.mem_of_mem_take hn) (getD_take hz) fun m hm => by
      rcases hlast with e | e
      · rw [e] at hm
        cases hm
      · rw [List.getLast?_take] at hm
        by_cases c : i = 0
        · rw [if_pos c] at hm
          cases hm
        · rw [if_neg c] at hm
          obtain ⟨u, hu⟩ : ∃ u, ns[i - 1]? = some u := ⟨_, List.getElem?_eq_getElem (by omega)⟩
          rw [hu] at hm
          rw [List.getD_eq_getElem?_getD, hu] at e
          have : u = m := by simpa using hm
          rw [← this]
          exact e
abbrev nRD : List Str := ["row", "k"]
end
end Ind

set_option Elab.async false
set_option linter.all false
set_option maxRecDepth 100000
set_option maxHeartbeats 4000000
set_option exponentiation.threshold 9000
namespace Ind
open PySem PySem.Spec PyProof.Rows L2
open Builtin.Int (intBits)
section
variable {P : Program} {w : World} {K : PySem.W.Frag} {mg : Str → Option Value} {base : Heap} {C Z CP : Addr}
abbrev nRP : List Str := ["a", "b", "found", "i", "n", "j", "m", "_"]
theorem scRP : FnScope nRP ["a", "b"] (defScope sRP) := ⟨rfl, rfl, rfl, by decide +kernel, rfl, by decide +kernel, by decide +kernel⟩
theorem ok_rp {f fT : Addr} {fd fdT : FuncData} (F : Fun K "row_product" "row_product" sRP f fd) (T : TxL K mg) (ge : mg "enumerate" = none) (GT : FnOk P w K mg base CX0 1 fT fdT ["row"] spTrim) (kT : PySem.W.keepIn K (.ref fT) = true) (bT : Binds K fdT ["row"] []) (gT : mg "trimmed" = some (.ref fT)) : FnOk P w K mg base CX0 2 f fd ["a", "b"] spRP := by
  refine F.ok scRP (fun vs H Q E h => ?_) (fun cdv A outer s H vs Q E hr h => ?_)
  · obtain ⟨p, q, as, bs, k, l, rfl, _⟩ := h
    rfl
  · obtain ⟨p, q, as, bs, kk, ll, rfl, hp, hq, ha1, hb1, ha, hb, hk, k⟩ := h
    refine ⟨_, pss_cons (ps_setLc (i := 2) (own := [("_", 7)]) (g := gName 7) (tt := tYes) rfl scRP.nd rfl rfl rfl (pi_range1 (by rfl) T.range (pa_cons (pe_op op_sub (pe_op op_add (pe_callB call_len_seq (by rfl) T.len PySem.boot_len (pa_cons (pv 0) pa_nil)) (pe_callB call_len_seq (by rfl) T.len PySem.boot_len (pa_cons (pv 1) pa_nil))) pe_int) pa_nil)) (blkOk_by (N := nRP) (sc := defScope sRP) (by decide +kernel))
          (fun _ _ _ _ _ => pg_name (i := 7) scRP.nd rfl (Or.inl rfl)) (fun _ _ _ _ _ => pts_nil) (fun _ _ _ _ _ => pe_int))
      (pss_cons (ps_for PassesOwn.never rfl (pi_enumT (by rfl) ge (pa_cons (pv 0) pa_nil)) (pg_tup (by rfl) (pgs_cons (pg_name (i := 3) scRP.nd rfl (Or.inl rfl)) (pgs_cons (pg_name (i := 4) scRP.nd rfl (Or.inl rfl)) pgs_nil)))
          (pss_one (ps_if (pt_cmpR op_ne (pv 4) pe_int (nomark _)) (pss_one (ps_for PassesOwn.never rfl (pi_enumT (by rfl) ge (pa_cons (pv 1) pa_nil)) (pg_tup (by rfl) (pgs_cons (pg_name (i := 5) scRP.nd rfl (Or.inl rfl)) (pgs_cons (pg_name (i := 6) scRP.nd rfl (Or.inl rfl)) pgs_nil)))
              (pss_one (ps_asg (pe_op op_add (pe_ix ix_list (pv 2) (pe_op op_add (pv 3) (pv 5)) fun _ _ => rfl) (pe_op op_mulB (pv 4) (pv 6))) (pg_sub (pv 2) (pe_op op_add (pv 3) (pv 5)) set_list))))) pss_nil)))
      (pss_one (ps_ret (pe_call GT hr (by rfl) gT kT bT .nil pass0 (pa_cons (pv 2) pa_nil))))), ?_⟩
    refine ⟨_, rfl, p, _, rfl, .inr (SqT.of hp), _, rfl, q, _, rfl, .inr (SqT.of hq), _, _, rfl, rfl, _, _, rfl, rfl, _, rfl, ?_, ?_, fun D hD => ?_⟩
    · rw [List.length_map, List.length_map]
      omega
    · rw [List.length_map, List.length_map]
      omega
    rw [List.length_map, List.length_map, show ((as.length : Int) + (bs.length : Int) - 1).toNat = as.length + bs.length - 1 by omega]
    refine lc_range (lo := 0) (n := as.length + bs.length - 1) (fun i H2 => ColI D H H2 (List.replicate i 0)) (ColI.start hD) ?_ ?_
    · intro i H2 hi z
      refine ⟨rfl, ?_⟩
      rw [List.replicate_succ']
      refine z.push (n := 0) hD same_rfl ?_
      rw [List.length_replicate]
      omega
    rintro H2 z
    have qne : ∀ {b : Addr} {o : HO}, H b = some o → b ≠ D := fun {b o} e => ne_of_none e hD
    refine ⟨_, rfl, p, _, rfl, SqT.of (z.s _ _ hp), for_it (walk_enumT (K := K) (a := p) (xs := as.map V.int))
      (fun i σ H5 => (∃ v3 v4 v5 v6 : Option V, σ = [some (.ref p), some (.ref q), some (.ref D), v3, v4, v5, v6, none]) ∧ Same H H5 ∧ ∃ ns : List Int, H5 D = some (.lst (ns.map V.int)) ∧ ns.length = as.length + bs.length - 1 ∧ ∀ j, ns.getD j 0 = cvI as bs i j)
      ⟨⟨none, none, none, none, rfl⟩, z.s, _, z.at_, List.length_replicate .., fun j => by
        rw [List.getD_eq_getElem?_getD, List.getElem?_replicate]
        split <;> rfl⟩ (fun i σ H5 _ ⟨_, s5, _⟩ => SqT.of (s5 _ _ hp)) ?_ ?_⟩
    · rintro i x σ H5 H6 hi ⟨⟨v3, v4, v5, v6, rfl⟩, s5, ns, eD, hnl, hns⟩ ⟨T', x1, x2, rfl, hT, rfl, g1, g2⟩
      cases g1
      obtain ⟨n, hn, rfl⟩ := int_of g2
      have hil := (List.getElem?_eq_some_iff.mp hn).1
      have bn := ha n (List.mem_of_getElem? hn)
      have en : as.getD i 0 = n := by
        rw [List.getD_eq_getElem?_getD, hn]
        rfl
      have s6 : Same H5 (upd H5 T' (.tup [.int (i : Int), .int n])) := same_upd hT
      have eD6 := s6 _ _ eD
      have S6 := s5.trans s6
      refine ⟨T', _, rfl, SqT.of upd_same, rfl, _, _, rfl, _, _, rfl, rfl, ?_⟩
      refine ⟨_, rfl, rfl, _, rfl, ?_⟩
      by_cases c0 : n = 0
      · subst c0
        rw [show decide (V.int 0 = V.int 0) = true from decide_eq_true rfl]
        refine iteF ⟨⟨_, _, _, _, rfl⟩, S6, ns, eD6, hnl, fun j => ?_⟩
        rw [cv_succ, hns j, en]
        split <;> omega
      · rw [show decide (V.int n = V.int 0) = false from decide_eq_false (fun z => c0 (V.int.inj z))]
        refine iteT ?_
        refine ⟨_, rfl, q, _, rfl, SqT.of (S6 _ _ hq), for_it (walk_enumT (K := K) (a := q) (xs := bs.map V.int))
          (fun m σ H7 => (∃ v5 v6 : Option V, σ = [some (.ref p), some (.ref q), some (.ref D), some (.int (i : Int)), some (.int n), v5, v6, none]) ∧ Same H H7 ∧ ∃ ns : List Int, H7 D = some (.lst (ns.map V.int)) ∧ ns.length = as.length + bs.length - 1 ∧ ∀ j, ns.getD j 0 = cvI as bs i j + if i ≤ j ∧ j < i + m then n * bs.getD (j - i) 0 else 0)
          ⟨⟨v5, v6, rfl⟩, S6, ns, eD6, hnl, fun j => by rw [hns j, if_neg (by omega)]; omega⟩ (fun m σ H7 _ ⟨_, s7, _⟩ => SqT.of (s7 _ _ hq)) ?_ ?_⟩
        · rintro m x σ H7 H8 hm ⟨⟨v5, v6, rfl⟩, s7, ms, eD7, hml, hms⟩ ⟨T2, x1, x2, rfl, hT2, rfl, g3, g4⟩
          cases g3
          obtain ⟨y, hy, rfl⟩ := int_of g4
          have hml2 := (List.getElem?_eq_some_iff.mp hy).1
          have by_ := hb y (List.mem_of_getElem? hy)
          have ey : bs.getD m 0 = y := by
            rw [List.getD_eq_getElem?_getD, hy]
            rfl
          have s8 : Same H7 (upd H7 T2 (.tup [.int (m : Int), .int y])) := same_upd hT2
          have eD8 := s8 _ _ eD7
          obtain ⟨u, hu⟩ : ∃ u, ms[i + m]? = some u := ⟨_, List.getElem?_eq_getElem (by omega)⟩
          have eu : ms.getD (i + m) 0 = u := by
            rw [List.getD_eq_getElem?_getD, hu]
            rfl
          have eim : (i : Int) + (m : Int) = ((i + m : Nat) : Int) := by omega
          refine ⟨T2, _, rfl, SqT.of upd_same, rfl, _, _, rfl, _, _, rfl, rfl, ?_⟩
          refine ⟨_, rfl, _, rfl, _, rfl, _, _, rfl, rfl, D, _, _, V.int u, rfl, rfl, SqL.of eD8, (by rw [eim]; exact atI_of (by rw [List.getElem?_map, hu]; rfl)), _, rfl, _, rfl, _, _, rfl, rfl, (by show intBits n + intBits y ≤ 134217728; omega), _, _, rfl, rfl, ?_⟩
          refine ⟨_, rfl, _, rfl, _, rfl, _, _, rfl, rfl, D, ms.map V.int, (i : Int) + (m : Int), i + m, rfl, rfl, eD8, (by rw [eim]; exact ixN_of (by rw [List.length_map]; omega)), ⟨_, _, rfl⟩, fun b o e => ?_, ms.set (i + m) (u + n * y), ?_, by rw [List.length_set, hml], fun j => ?_⟩
          · rw [upd_ne (qne e)]
            exact s8 _ _ (s7 b o e)
          · rw [upd_same, List.map_set]
          · rw [getD_set (by omega)]
            by_cases e : j = i + m
            · subst e
              rw [if_pos rfl, if_pos (by omega), ← eu, hms (i + m), if_neg (by omega), show i + m - i = m by omega, ey]
              omega
            · rw [if_neg e, hms j]
              by_cases c : i ≤ j ∧ j < i + m
              · rw [if_pos c, if_pos (by omega)]
              · rw [if_neg c, if_neg (by omega)]
        · rintro σ H7 ⟨⟨v5, v6, rfl⟩, s7, ms, eD7, hml, hms⟩
          rw [List.length_map] at hms
          refine ⟨⟨_, _, _, _, rfl⟩, s7, ms, eD7, hml, fun j => ?_⟩
          rw [hms j, cv_succ, en]
          by_cases c : i ≤ j
          · by_cases c2 : j < i + bs.length
            · rw [if_pos ⟨c, c2⟩, if_pos c]
            · rw [if_neg (by omega), if_pos c]
              have : bs.getD (j - i) 0 = 0 := by
                rw [List.getD_eq_getElem?_getD, List.getElem?_eq_none (by omega)]
                rfl
              rw [this, Int.mul_zero]
          · rw [if_neg (by omega), if_neg c]
    · rintro σ H5 ⟨⟨v3, v4, v5, v6, rfl⟩, s5, ns, eD, hnl, hns⟩
      rw [List.length_map] at hns
      refine ⟨_, rfl, D, ns, rfl, eD, by omega, fun H6 t ms s6 ht hml hmm hmf _ => k H6 t ms (s5.trans s6) ht (by omega) (fun n hn => ?_) fun j => by rw [hmf j, hns j]⟩
      obtain ⟨j, _, e⟩ := mem_getD (hmm n hn)
      rw [← e, hns j]
      have := cv_bits ha hb j as.length
      omega
end
end Ind

set_option Elab.async false
set_option linter.all false
set_option maxRecDepth 100000
set_option maxHeartbeats 4000000
set_option exponentiation.threshold 9000
namespace Ind
open PySem PySem.Spec PyProof.Rows L2
open Builtin.Int (intBits)
abbrev sPAdd : Stmt := inClass (top 34) 1
abbrev sPSub : Stmt := inClass (top 34) 2
abbrev sPMul : Stmt := inClass (top 34) 3
abbrev sPNeg : Stmt := inClass (top 34) 4
/-- what an operation on polynomials promises: sizes, length, items -/
def ResQ (C CP : Addr) (k n : Nat) (f : Fr) (H : Hp) (Q : VK) : Prop := ∀ (H' : Hp) (t : Addr) (qs : List Q2), Same H H' → PolyAt C CP H' t qs → PSz k qs → qs.length ≤ n → (∀ j, rowF qs j = f j) → Q (.ref t) H'
def spPAdd (C CP : Addr) : Sp := fun vs H Q _ => ∃ (p q : Addr) (as bs : List Q2) (k l : Nat), vs = [.ref p, .ref q] ∧ PolyAt C CP H p as ∧ PolyAt C CP H q bs ∧ PSz k as ∧ PSz l bs ∧ k + l ≤ 36000000 ∧ ResQ C CP (k + l + 1) (max as.length bs.length) (fun j => rowF as j + rowF bs j) H Q
def spPSub (C CP : Addr) : Sp := fun vs H Q _ => ∃ (p q : Addr) (as bs : List Q2) (k l : Nat), vs = [.ref p, .ref q] ∧ PolyAt C CP H p as ∧ PolyAt C CP H q bs ∧ PSz k as ∧ PSz l bs ∧ k + l ≤ 36000000 ∧ ResQ C CP (k + l + 1) (max as.length bs.length) (fun j => rowF as j - rowF bs j) H Q
/-- the items of a product, over fractions -/
def cvR (as bs : List Q2) (j : Nat) : Rat := sumTo as.length fun t => if t ≤ j then rowF as t * rowF bs (j - t) else 0
def spPMul (C CP : Addr) : Sp := fun vs H Q _ => ∃ (p q : Addr) (as bs : List Q2) (k l : Nat), vs = [.ref p, .ref q] ∧ PolyAt C CP H p as ∧ PolyAt C CP H q bs ∧ PSz k as ∧ PSz l bs ∧ k + l ≤ 36000000 ∧ as.length ≤ 50 ∧ bs.length ≤ 50 ∧ ResQ C CP (k + l + 100) (as.length + bs.length) (cvR as bs) H Q
def spPNeg (C CP : Addr) : Sp := fun vs H Q _ => ∃ (p : Addr) (as : List Q2) (k : Nat), vs = [.ref p] ∧ PolyAt C CP H p as ∧ PSz k as ∧ k ≤ 40000000 ∧ ResQ C CP k as.length (fun j => -rowF as j) H Q
theorem parts_len2 (B : Int) (qs : List Q2) : (partsOf B qs).length = qs.length := by
  unfold partsOf
  rw [List.length_map]
theorem psz_lcm {k : Nat} {qs : List Q2} (h : PSz k qs) : intBits ((lcmD qs : Nat) : Int) ≤ k ∧ ∀ n ∈ partsOf ((lcmD qs : Nat) : Int) qs, intBits n ≤ k := by
  obtain ⟨lo, _, M, m0, mb, hm⟩ := h
  have hd : ((lcmD qs : Nat) : Int) ∣ M := lcmD_dvd fun q hq => (hm q hq).1
  refine ⟨bits_dvd m0 hd mb, fun n hn => ?_⟩
  unfold partsOf at hn
  obtain ⟨q, hq, rfl⟩ := List.mem_map.mp hn
  refine PySem.intBits_le_of_natAbs ?_ (hm q hq).2
  have hp := (lo q hq).pos
  obtain ⟨c, hc⟩ := dvd_lcmD q hq
  obtain ⟨e, he⟩ := hd
  have h1 : ((lcmD qs : Nat) : Int).fdiv q.2 = c := by
    rw [hc, Int.mul_comm]
    exact Int.mul_fdiv_cancel _ (Int.ne_of_gt hp)
  have h2 : M.fdiv q.2 = c * e := by
    rw [he, hc, Int.mul_assoc, Int.mul_comm q.2]
    exact Int.mul_fdiv_cancel _ (Int.ne_of_gt hp)
  rw [h1, h2, ← Int.mul_assoc, Int.natAbs_mul (q.1 * c)]
  have he0 : e ≠ 0 := fun z => by
    rw [z, Int.mul_zero] at he
    omega
  exact Nat.le_mul_of_pos_right _ (by omega)
theorem num_fr {qs : List Q2} (lo : ∀ q ∈ qs, Lo q) (j : Nat) : (((partsOf ((lcmD qs : Nat) : Int) qs).getD j 0 : Int) : Rat) = (((lcmD qs : Nat) : Int) : Rat) * rowF qs j := by
  have := fr_parts (B := ((lcmD qs : Nat) : Int)) (qs := qs) (by have := lcmD_pos lo; omega) (fun q hq => ⟨(lo q hq).pos, dvd_lcmD q hq⟩) j
  exact this
/-- behind of_numbers -/
theorem res_of {C CP : Addr} {H H1 : Hp} {Q : VK} {k n : Nat} {f : Fr} {B : Int} {ns : List Int} (h : ResQ C CP k n f H Q) (hB : B ≠ 0) (hl : ns.length ≤ 100) (hn : ns.length ≤ n) (hb : intBits B ≤ k) (hbn : ∀ m ∈ ns, intBits m ≤ k) (hf : ∀ j, ((ns.getD j 0 : Int) : Rat) = ((B : Int) : Rat) * f j) (s : Same H H1) :
    ∀ (H' : Hp) (p : Addr), Same H1 H' → PolyAt C CP H' p (trimQ (overQ B ns)) → Q (.ref p) H' := fun H' p s' hp => by
  have ps := over_psz hB hl hb hbn
  have tl := trim_len (overQ B ns)
  rw [over_len] at tl
  refine h H' p _ (s.trans s') hp (psz_sub ps (fun q hq => trim_mem hq) (trim_len _)) (by omega) fun j => ?_
  rw [trim_row, over_row hB, hf]
  have := cst_ne hB
  grind
section
variable {P : Program} {w : World} {K : PySem.W.Frag} {mg : Str → Option Value} {base : Heap} {C Z CP : Addr}
/-- the facts of what the operations call -/
structure TxO (P : Program) (w : World) (K : PySem.W.Frag) (mg : Str → Option Value) (base : Heap) (C CP : Addr) (fN fS fP : Addr) (fdN fdS fdP : FuncData) : Prop where
  gN : mg "of_numbers" = some (.ref fN)
  kN : PySem.W.keepIn K (.ref fN) = true
  bN : Binds K fdN ["numbers", "below"] []
  fnN : FnOk P w K mg base CX0 45 fN fdN ["numbers", "below"] (spOfN C CP)
  gS : mg "row_sum" = some (.ref fS)
  kS : PySem.W.keepIn K (.ref fS) = true
  bS : Binds K fdS ["a", "left", "b", "right"] []
  fnS : FnOk P w K mg base CX0 1 fS fdS ["a", "left", "b", "right"] spRS
  gP : mg "row_product" = some (.ref fP)
  kP : PySem.W.keepIn K (.ref fP) = true
  bP : Binds K fdP ["a", "b"] []
  fnP : FnOk P w K mg base CX0 2 fP fdP ["a", "b"] spRP
  lcm : mg "lcm" = some (.builtin "math.lcm")
abbrev nPA : List Str := ["self", "other", "below", "left", "right"]
theorem scPA : FnScope nPA ["self", "other"] (defScope sPAdd) := ⟨rfl, rfl, rfl, by decide +kernel, rfl, by decide +kernel, by decide +kernel⟩
theorem scPS : FnScope nPA ["self", "other"] (defScope sPSub) := ⟨rfl, rfl, rfl, by decide +kernel, rfl, by decide +kernel, by decide +kernel⟩
/-- the least common multiple of two denominators -/
theorem lcm2 {a b : Nat} (ha : 0 < a) (hb : 0 < b) {k l : Nat} (h1 : intBits ((a : Nat) : Int) ≤ k) (h2 : intBits ((b : Nat) : Int) ≤ l) : 0 < Nat.lcm a b ∧ intBits ((Nat.lcm a b : Nat) : Int) ≤ k + l ∧ ((Nat.lcm a b : Nat) : Int).fdiv ((a : Nat) : Int) * (a : Int) = ((Nat.lcm a b : Nat) : Int) ∧ ((Nat.lcm a b : Nat) : Int).fdiv ((b : Nat) : Int) * (b : Int) = ((Nat.lcm a b : Nat) : Int) ∧
    intBits (((Nat.lcm a b : Nat) : Int).fdiv ((a : Nat) : Int)) ≤ l ∧ intBits (((Nat.lcm a b : Nat) : Int).fdiv ((b : Nat) : Int)) ≤ k := by
  have hp := Nat.lcm_pos ha hb
  have key : ∀ c e : Nat, 0 < c → c ∣ Nat.lcm a b → Nat.lcm a b ≤ c * e → ((Nat.lcm a b : Nat) : Int).fdiv ((c : Nat) : Int) * (c : Int) = ((Nat.lcm a b : Nat) : Int) ∧ (((Nat.lcm a b : Nat) : Int).fdiv ((c : Nat) : Int)).natAbs ≤ ((e : Nat) : Int).natAbs := fun c e hc ⟨d, hd⟩ hle => by
    rw [hd, Int.natCast_mul, Int.mul_comm (c : Int), Int.mul_fdiv_cancel _ (by omega)]
    refine ⟨rfl, ?_⟩
    rw [hd] at hle
    have := Nat.le_of_mul_le_mul_left hle hc
    rw [Int.natAbs_natCast, Int.natAbs_natCast]
    exact this
  have ka := key a b ha (Nat.dvd_lcm_left _ _) (Nat.lcm_le_mul ha hb)
  have kb := key b a hb (Nat.dvd_lcm_right _ _) (by rw [Nat.mul_comm]; exact Nat.lcm_le_mul ha hb)
  refine ⟨hp, ?_, ka.1, kb.1, PySem.intBits_le_of_natAbs ka.2 h2, PySem.intBits_le_of_natAbs kb.2 h1⟩
  have h3 := PySem.intBits_mul_le h1 h2
  refine PySem.intBits_le_of_natAbs ?_ (show intBits ((a : Int) * (b : Int)) ≤ k + l by omega)
  rw [Int.natAbs_mul, Int.natAbs_natCast, Int.natAbs_natCast, Int.natAbs_natCast]
  exact Nat.lcm_le_mul ha hb
theorem ok_padd {f fN fS fP : Addr} {fd fdN fdS fdP : FuncData} (hN : base.NoSeer) (hT : P.given.tree = none) (F : Fun K "__add__" "Poly.__add__" sPAdd f fd) (TP : TxP K mg CP) (O : TxO P w K mg base C CP fN fS fP fdN fdS fdP) : FnOk P w K mg base CX0 46 f fd ["self", "other"] (spPAdd C CP) := by
  refine F.ok scPA (fun vs H Q E h => ?_) (fun cdv A outer s H vs Q E hr h => ?_)
  · obtain ⟨p, q, as, bs, k, l, rfl, _⟩ := h
    rfl
  · obtain ⟨p, q, as, bs, k, m, rfl, ⟨dp, rp, np, ep, _, hnp, _⟩, ⟨dq, rq, nq, eq, _, hnq, _⟩, za, zb, hk, res⟩ := h
    have h1 := hr.mono (show 1 ≤ 45 by decide)
    have h40 := hr.mono (show 40 ≤ 45 by decide)
    refine ⟨_, pss_cons (ps_set (i := 2) scPA.nd rfl (Or.inl rfl) (pe_callBfun (cr_lcmC ⟨hN, hT, ⟨_, _, rfl, rfl, rfl, rfl, rfl⟩, h40⟩) (by rfl) O.lcm (pa_cons (pe_fld (pv 0) rfl) (pa_cons (pe_fld (pv 1) rfl) pa_nil))))
      (pss_cons (ps_set (i := 3) scPA.nd rfl (Or.inl rfl) (pe_op (op_fdivC ⟨hN, hT, ⟨_, _, rfl, rfl, rfl, rfl, rfl⟩, h40⟩) (pv 2) (pe_fld (pv 0) rfl)))
      (pss_cons (ps_set (i := 4) scPA.nd rfl (Or.inl rfl) (pe_op (op_fdivC ⟨hN, hT, ⟨_, _, rfl, rfl, rfl, rfl, rfl⟩, h40⟩) (pv 2) (pe_fld (pv 1) rfl)))
      (pss_one (ps_ret (pe_call O.fnN hr (by rfl) O.gN O.kN O.bN .nil pass0 (pa_cons (pe_call O.fnS h1 (by rfl) O.gS O.kS O.bS .nil pass0 (pa_cons (pe_fld (pv 0) rfl) (pa_cons (pv 3) (pa_cons (pe_fld (pv 1) rfl) (pa_cons (pv 4) pa_nil))))) (pa_cons (pv 2) pa_nil))))))), ?_⟩
    obtain ⟨ba, na⟩ := psz_lcm za
    obtain ⟨bb, nb⟩ := psz_lcm zb
    have pa := lcmD_pos za.1
    have pb := lcmD_pos zb.1
    obtain ⟨hp, hb, hl, hr2, bl, br⟩ := lcm2 pa pb ba bb
    refine ⟨_, rfl, p, CP, dp, _, _, rfl, ep, TP.cl, TP.nB, pf_bel _ _ _, _, rfl, q, CP, dq, _, _, rfl, eq, TP.cl, TP.nB, pf_bel _ _ _, ((lcmD as : Nat) : Int), ((lcmD bs : Nat) : Int), rfl, by omega, by omega, by omega, by omega, ?_⟩
    rw [Int.natAbs_natCast, Int.natAbs_natCast]
    refine ⟨_, rfl, _, rfl, p, CP, dp, _, _, rfl, ep, TP.cl, TP.nB, pf_bel _ _ _, _, _, rfl, rfl, ⟨by omega, by omega⟩, ?_⟩
    refine ⟨_, rfl, _, rfl, q, CP, dq, _, _, rfl, eq, TP.cl, TP.nB, pf_bel _ _ _, _, _, rfl, rfl, ⟨by omega, by omega⟩, ?_⟩
    generalize hL : ((Nat.lcm (lcmD as) (lcmD bs) : Nat) : Int) = L at hb hl hr2 bl br
    obtain ⟨l, el⟩ : ∃ l, L.fdiv ((lcmD as : Nat) : Int) = l := ⟨_, rfl⟩
    obtain ⟨r, er⟩ : ∃ r, L.fdiv ((lcmD bs : Nat) : Int) = r := ⟨_, rfl⟩
    rw [el] at hl bl
    rw [er] at hr2 br
    refine ⟨_, rfl, p, CP, dp, _, _, rfl, ep, TP.cl, TP.nN, pf_num _ _ _, _, rfl, _, rfl, q, CP, dq, _, _, rfl, eq, TP.cl, TP.nN, pf_num _ _ _, _, rfl, ?_⟩
    refine ⟨np, nq, partsOf ((lcmD as : Nat) : Int) as, partsOf ((lcmD bs : Nat) : Int) bs, l, r, k + m, (by show [V.ref np, V.int (L.fdiv ((lcmD as : Nat) : Int)), V.ref nq, V.int (L.fdiv ((lcmD bs : Nat) : Int))] = _; rw [el, er]), hnp, hnq, by rw [parts_len2]; exact za.2.1, by rw [parts_len2]; exact zb.2.1, fun n hn => by have := na n hn; omega, fun n hn => by have := nb n hn; omega, by omega, fun H1 t ns s1 ht hnl hnb hnf => ?_⟩
    rw [parts_len2, parts_len2] at hnl
    have l1 := za.2.1
    have l2 := zb.2.1
    refine ⟨_, rfl, t, ns, L, k + m + 1, rfl, .inl ht, by omega, by omega, by omega, fun n hn => Nat.le_trans (hnb n hn) (by omega), by omega, res_of res (by omega) (by omega) (by omega) (by omega) (fun n hn => Nat.le_trans (hnb n hn) (by omega)) (fun j => ?_) s1⟩
    rw [hnf j, Rat.intCast_add, Rat.intCast_mul, Rat.intCast_mul, num_fr za.1, num_fr zb.1]
    have e1 : ((l : Int) : Rat) * (((lcmD as : Nat) : Int) : Rat) = ((L : Int) : Rat) := by rw [← Rat.intCast_mul, hl]
    have e2 : ((r : Int) : Rat) * (((lcmD bs : Nat) : Int) : Rat) = ((L : Int) : Rat) := by rw [← Rat.intCast_mul, hr2]
    grind
end
end Ind

set_option Elab.async false
set_option linter.all false
set_option maxRecDepth 100000
set_option maxHeartbeats 4000000
set_option exponentiation.threshold 9000
namespace Ind
open PySem PySem.Spec PyProof.Rows L2
open Builtin.Int (intBits)
section
variable {P : Program} {w : World} {K : PySem.W.Frag} {mg : Str → Option Value} {base : Heap} {C Z CP : Addr}
theorem ok_psub {f fN fS fP : Addr} {fd fdN fdS fdP : FuncData} (hN : base.NoSeer) (hT : P.given.tree = none) (F : Fun K "__sub__" "Poly.__sub__" sPSub f fd) (TP : TxP K mg CP) (O : TxO P w K mg base C CP fN fS fP fdN fdS fdP) : FnOk P w K mg base CX0 46 f fd ["self", "other"] (spPSub C CP) := by
  refine F.ok scPS (fun vs H Q E h => ?_) (fun cdv A outer s H vs Q E hr h => ?_)
  · obtain ⟨p, q, as, bs, k, l, rfl, _⟩ := h
    rfl
  · obtain ⟨p, q, as, bs, k, m, rfl, ⟨dp, rp, np, ep, _, hnp, _⟩, ⟨dq, rq, nq, eq, _, hnq, _⟩, za, zb, hk, res⟩ := h
    have h1 := hr.mono (show 1 ≤ 45 by decide)
    have h40 := hr.mono (show 40 ≤ 45 by decide)
    refine ⟨_, pss_cons (ps_set (i := 2) scPS.nd rfl (Or.inl rfl) (pe_callBfun (cr_lcmC ⟨hN, hT, ⟨_, _, rfl, rfl, rfl, rfl, rfl⟩, h40⟩) (by rfl) O.lcm (pa_cons (pe_fld (pv 0) rfl) (pa_cons (pe_fld (pv 1) rfl) pa_nil))))
      (pss_cons (ps_set (i := 3) scPS.nd rfl (Or.inl rfl) (pe_op (op_fdivC ⟨hN, hT, ⟨_, _, rfl, rfl, rfl, rfl, rfl⟩, h40⟩) (pv 2) (pe_fld (pv 0) rfl)))
      (pss_cons (ps_set (i := 4) scPS.nd rfl (Or.inl rfl) (pe_op (op_fdivC ⟨hN, hT, ⟨_, _, rfl, rfl, rfl, rfl, rfl⟩, h40⟩) (pv 2) (pe_fld (pv 1) rfl)))
      (pss_one (ps_ret (pe_call O.fnN hr (by rfl) O.gN O.kN O.bN .nil pass0 (pa_cons (pe_call O.fnS h1 (by rfl) O.gS O.kS O.bS .nil pass0 (pa_cons (pe_fld (pv 0) rfl) (pa_cons (pv 3) (pa_cons (pe_fld (pv 1) rfl) (pa_cons (pe_un un_neg (pv 4)) pa_nil))))) (pa_cons (pv 2) pa_nil))))))), ?_⟩
    obtain ⟨ba, na⟩ := psz_lcm za
    obtain ⟨bb, nb⟩ := psz_lcm zb
    have pa := lcmD_pos za.1
    have pb := lcmD_pos zb.1
    obtain ⟨hp, hb, hl, hr2, bl, br⟩ := lcm2 pa pb ba bb
    refine ⟨_, rfl, p, CP, dp, _, _, rfl, ep, TP.cl, TP.nB, pf_bel _ _ _, _, rfl, q, CP, dq, _, _, rfl, eq, TP.cl, TP.nB, pf_bel _ _ _, ((lcmD as : Nat) : Int), ((lcmD bs : Nat) : Int), rfl, by omega, by omega, by omega, by omega, ?_⟩
    rw [Int.natAbs_natCast, Int.natAbs_natCast]
    refine ⟨_, rfl, _, rfl, p, CP, dp, _, _, rfl, ep, TP.cl, TP.nB, pf_bel _ _ _, _, _, rfl, rfl, ⟨by omega, by omega⟩, ?_⟩
    refine ⟨_, rfl, _, rfl, q, CP, dq, _, _, rfl, eq, TP.cl, TP.nB, pf_bel _ _ _, _, _, rfl, rfl, ⟨by omega, by omega⟩, ?_⟩
    generalize hL : ((Nat.lcm (lcmD as) (lcmD bs) : Nat) : Int) = L at hb hl hr2 bl br
    obtain ⟨l, el⟩ : ∃ l, L.fdiv ((lcmD as : Nat) : Int) = l := ⟨_, rfl⟩
    obtain ⟨r, er⟩ : ∃ r, L.fdiv ((lcmD bs : Nat) : Int) = r := ⟨_, rfl⟩
    rw [el] at hl bl
    rw [er] at hr2 br
    refine ⟨_, rfl, p, CP, dp, _, _, rfl, ep, TP.cl, TP.nN, pf_num _ _ _, _, rfl, _, rfl, q, CP, dq, _, _, rfl, eq, TP.cl, TP.nN, pf_num _ _ _, _, rfl, _, rfl, ?_⟩
    refine ⟨np, nq, partsOf ((lcmD as : Nat) : Int) as, partsOf ((lcmD bs : Nat) : Int) bs, l, -r, k + m, (by show [V.ref np, V.int (L.fdiv ((lcmD as : Nat) : Int)), V.ref nq, V.int (-(L.fdiv ((lcmD bs : Nat) : Int)))] = _; rw [el, er]), hnp, hnq, by rw [parts_len2]; exact za.2.1, by rw [parts_len2]; exact zb.2.1, fun n hn => by have := na n hn; omega, fun n hn => by have := nb n hn; have := bits_neg br; omega, by omega, fun H1 t ns s1 ht hnl hnb hnf => ?_⟩
    rw [parts_len2, parts_len2] at hnl
    have l1 := za.2.1
    have l2 := zb.2.1
    refine ⟨_, rfl, t, ns, L, k + m + 1, rfl, .inl ht, by omega, by omega, by omega, fun n hn => Nat.le_trans (hnb n hn) (by omega), by omega, res_of res (by omega) (by omega) (by omega) (by omega) (fun n hn => Nat.le_trans (hnb n hn) (by omega)) (fun j => ?_) s1⟩
    rw [hnf j, Rat.intCast_add, Rat.intCast_mul, Rat.intCast_mul, Rat.intCast_neg, num_fr za.1, num_fr zb.1]
    have e1 : ((l : Int) : Rat) * (((lcmD as : Nat) : Int) : Rat) = ((L : Int) : Rat) := by rw [← Rat.intCast_mul, hl]
    have e2 : ((r : Int) : Rat) * (((lcmD bs : Nat) : Int) : Rat) = ((L : Int) : Rat) := by rw [← Rat.intCast_mul, hr2]
    grind

abbrev nPM : List Str := ["self", "other"]
theorem scPM : FnScope nPM ["self", "other"] (defScope sPMul) := ⟨rfl, rfl, rfl, by decide +kernel, rfl, by decide +kernel, by decide +kernel⟩
theorem cv_fr {as bs : List Q2} (la : ∀ q ∈ as, Lo q) (lb : ∀ q ∈ bs, Lo q) (j : Nat) : ∀ i, ((cvI (partsOf ((lcmD as : Nat) : Int) as) (partsOf ((lcmD bs : Nat) : Int) bs) i j : Int) : Rat) = ((((lcmD as : Nat) : Int) * ((lcmD bs : Nat) : Int) : Int) : Rat) * sumTo i fun t => if t ≤ j then rowF as t * rowF bs (j - t) else 0
  | 0 => by
    show ((0 : Int) : Rat) = _ * 0
    grind
  | i + 1 => by
    have ih := cv_fr la lb j i
    rw [cv_succ, Rat.intCast_add, ih]
    show _ = _ * (sumTo i _ + (if i ≤ j then rowF as i * rowF bs (j - i) else 0))
    by_cases c : i ≤ j
    · rw [if_pos c, if_pos c, Rat.intCast_mul, Rat.intCast_mul, num_fr la, num_fr lb]
      grind
    · rw [if_neg c, if_neg c]
      grind
theorem ok_pmul {f fN fS fP : Addr} {fd fdN fdS fdP : FuncData} (hN : base.NoSeer) (hT : P.given.tree = none) (F : Fun K "__mul__" "Poly.__mul__" sPMul f fd) (TP : TxP K mg CP) (O : TxO P w K mg base C CP fN fS fP fdN fdS fdP) : FnOk P w K mg base CX0 46 f fd ["self", "other"] (spPMul C CP) := by
  refine F.ok scPM (fun vs H Q E h => ?_) (fun cdv A outer s H vs Q E hr h => ?_)
  · obtain ⟨p, q, as, bs, k, l, rfl, _⟩ := h
    rfl
  · obtain ⟨p, q, as, bs, k, m, rfl, ⟨dp, rp, np, ep, _, hnp, _⟩, ⟨dq, rq, nq, eq, _, hnq, _⟩, za, zb, hk, l1, l2, res⟩ := h
    have h2 := hr.mono (show 2 ≤ 45 by decide)
    refine ⟨_, pss_one (ps_ret (pe_call O.fnN hr (by rfl) O.gN O.kN O.bN .nil pass0 (pa_cons (pe_call O.fnP h2 (by rfl) O.gP O.kP O.bP .nil pass0 (pa_cons (pe_fld (pv 0) rfl) (pa_cons (pe_fld (pv 1) rfl) pa_nil))) (pa_cons (pe_op op_mulB (pe_fld (pv 0) rfl) (pe_fld (pv 1) rfl)) pa_nil)))), ?_⟩
    obtain ⟨ba, na⟩ := psz_lcm za
    obtain ⟨bb, nb⟩ := psz_lcm zb
    have pa := lcmD_pos za.1
    have pb := lcmD_pos zb.1
    refine ⟨_, rfl, p, CP, dp, _, _, rfl, ep, TP.cl, TP.nN, pf_num _ _ _, _, rfl, q, CP, dq, _, _, rfl, eq, TP.cl, TP.nN, pf_num _ _ _, ?_⟩
    refine ⟨np, nq, partsOf ((lcmD as : Nat) : Int) as, partsOf ((lcmD bs : Nat) : Int) bs, k, m, rfl, hnp, hnq, by rw [parts_len2]; omega, by rw [parts_len2]; omega, na, nb, by omega, fun H1 t ns s1 ht hnl hnb hnf => ?_⟩
    rw [parts_len2, parts_len2] at hnl
    rw [parts_len2] at hnf
    have bm := PySem.intBits_mul_le ba bb
    refine ⟨_, rfl, p, CP, dp, _, _, rfl, s1 _ _ ep, TP.cl, TP.nB, pf_bel _ _ _, _, rfl, q, CP, dq, _, _, rfl, s1 _ _ eq, TP.cl, TP.nB, pf_bel _ _ _, _, _, rfl, rfl, (by show intBits _ + intBits _ ≤ 134217728; omega), ?_⟩
    have hne : ((lcmD as : Nat) : Int) * ((lcmD bs : Nat) : Int) ≠ 0 := Int.mul_ne_zero (by omega) (by omega)
    exact ⟨t, ns, _, k + m + 100, rfl, .inl ht, hne, by omega, by omega, hnb, by omega, res_of res hne (by omega) hnl (by omega) hnb (fun j => by
      rw [hnf j, cv_fr za.1 zb.1]
      rfl) s1⟩
abbrev nPN : List Str := ["self", "n"]
theorem scPN : FnScope nPN ["self"] (defScope sPNeg) := ⟨rfl, rfl, rfl, by decide +kernel, rfl, by decide +kernel, by decide +kernel⟩
theorem ok_pneg {f fN fS fP : Addr} {fd fdN fdS fdP : FuncData} (hN : base.NoSeer) (hT : P.given.tree = none) (F : Fun K "__neg__" "Poly.__neg__" sPNeg f fd) (TP : TxP K mg CP) (O : TxO P w K mg base C CP fN fS fP fdN fdS fdP) : FnOk P w K mg base CX0 46 f fd ["self"] (spPNeg C CP) := by
  refine F.ok scPN (fun vs H Q E h => ?_) (fun cdv A outer s H vs Q E hr h => ?_)
  · obtain ⟨p, as, k, rfl, _⟩ := h
    rfl
  · obtain ⟨p, as, k, rfl, ⟨dp, rp, np, ep, _, hnp, _⟩, za, hk, res⟩ := h
    refine ⟨_, pss_one (ps_ret (pe_call O.fnN hr (by rfl) O.gN O.kN O.bN .nil pass0 (pa_cons (pe_lc (own := [("n", 1)]) (g := gName 1) (tt := tYes) (te := tUn (rU fun i => .int (-i)) (tVar 1)) rfl scPN.nd (pi_tup (pe_fld (pv 0) rfl)) (blkOk_by (N := nPN) (sc := defScope sPNeg) (by decide +kernel))
          (fun _ _ _ _ _ => pg_name (i := 1) scPN.nd rfl (Or.inl rfl)) (fun _ _ _ _ _ => pts_nil) (fun _ _ _ _ _ => pe_un un_neg (pv 1))) (pa_cons (pe_fld (pv 0) rfl) pa_nil)))), ?_⟩
    obtain ⟨ba, na⟩ := psz_lcm za
    have pa := lcmD_pos za.1
    have l1 := za.2.1
    refine ⟨_, rfl, p, CP, dp, _, _, rfl, ep, TP.cl, TP.nN, pf_num _ _ _, np, rfl, ⟨_, SqT.of hnp⟩, fun D hD => lc_tup (K := K) (a := np) (xs := (partsOf ((lcmD as : Nat) : Int) as).map V.int) (fun i H2 => ColI D H H2 (((partsOf ((lcmD as : Nat) : Int) as).take i).map fun n => -n)) (ColI.start hD) (fun i H2 _ z => .of (z.s _ _ hnp)) ?_ ?_⟩
    · rintro i x H2 hx z
      obtain ⟨n, hn, rfl⟩ := int_of hx
      have hi := (List.getElem?_eq_some_iff.mp hn).1
      rw [parts_len2] at hi
      refine ⟨rfl, _, rfl, _, rfl, ?_⟩
      rw [map_take_snoc hn]
      refine z.push hD same_rfl ?_
      rw [List.length_map, List.length_take, parts_len2]
      omega
    rintro H2 z
    rw [List.length_map, List.take_length] at z
    have hbn : ∀ m ∈ (partsOf ((lcmD as : Nat) : Int) as).map fun n => -n, intBits m ≤ k := fun m hm => by
      obtain ⟨n, hn, rfl⟩ := List.mem_map.mp hm
      exact bits_neg (na n hn)
    refine ⟨_, rfl, p, CP, dp, _, _, rfl, z.s _ _ ep, TP.cl, TP.nB, pf_bel _ _ _, ?_⟩
    refine ⟨D, _, _, k, rfl, .inl z.at_, by omega, by rw [List.length_map, parts_len2]; omega, ba, hbn, hk, res_of res (by omega) (by rw [List.length_map, parts_len2]; omega) (by rw [List.length_map, parts_len2]; exact Nat.le_refl _) ba hbn (fun j => ?_) z.s⟩
    rw [getD_map (by rfl), Rat.intCast_neg, num_fr za.1]
    grind
end
end Ind

set_option Elab.async false
set_option linter.all false
namespace Ind
/-! ### rows as power series -/
def cv (f g : Fr) : Fr := fun j => sumTo (j + 1) fun t => f t * g (j - t)
def tl (f : Fr) : Fr := fun j => f (j + 1)
def one1 : Fr := fun j => if j = 0 then 1 else 0
theorem sumTo_front (f : Fr) : ∀ n, sumTo (n + 1) f = f 0 + sumTo n fun t => f (t + 1)
  | 0 => by
    show (0 : Rat) + f 0 = f 0 + 0
    grind
  | n + 1 => by
    have ih := sumTo_front f n
    show sumTo (n + 1) f + f (n + 1) = f 0 + (sumTo n (fun t => f (t + 1)) + f (n + 1))
    rw [ih]
    grind
theorem cv_z (f g : Fr) : cv f g 0 = f 0 * g 0 := by
  show (0 : Rat) + f 0 * g (0 - 0) = _
  grind
theorem cv_s (f g : Fr) (n : Nat) : cv f g (n + 1) = f 0 * g (n + 1) + cv (tl f) g n := by
  unfold cv
  rw [sumTo_front]
  congr 1
  exact sumTo_congr fun t _ => by
    show f (t + 1) * g (n + 1 - (t + 1)) = f (t + 1) * g (n - t)
    rw [Nat.add_sub_add_right]
theorem cv_r (f g : Fr) (n : Nat) : cv f g (n + 1) = cv f (tl g) n + f (n + 1) * g 0 := by
  show sumTo (n + 1) _ + f (n + 1) * g (n + 1 - (n + 1)) = _
  rw [Nat.sub_self]
  congr 1
  exact sumTo_congr fun t h => by
    show f t * g (n + 1 - t) = f t * g (n - t + 1)
    rw [show n + 1 - t = n - t + 1 by omega]
theorem cv_comm (f g : Fr) : ∀ n, cv f g n = cv g f n := by
  intro n
  induction n generalizing f g with
  | zero =>
    rw [cv_z, cv_z]
    grind
  | succ n ih =>
    rw [cv_s, cv_r g f, ih]
    grind
theorem cv_lin (a : Rat) (f g h : Fr) (n : Nat) : cv (fun j => a * f j + g j) h n = a * cv f h n + cv g h n := by
  unfold cv
  have := sumTo_lin a 1 (n + 1) (fun t => f t * h (n - t)) (fun t => g t * h (n - t))
  rw [show a * sumTo (n + 1) (fun t => f t * h (n - t)) + sumTo (n + 1) (fun t => g t * h (n - t)) = a * sumTo (n + 1) (fun t => f t * h (n - t)) + 1 * sumTo (n + 1) (fun t => g t * h (n - t)) by grind, ← this]
  exact sumTo_congr fun t _ => by grind
theorem cv_assoc (f g h : Fr) : ∀ n, cv (cv f g) h n = cv f (cv g h) n := by
  intro n
  induction n generalizing f with
  | zero =>
    rw [cv_z, cv_z, cv_z, cv_z]
    grind
  | succ n ih =>
    rw [cv_s, cv_s f, cv_s g h, cv_z, ← ih (tl f)]
    have e : tl (cv f g) = fun j => f 0 * tl g j + cv (tl f) g j := by
      funext j
      show cv f g (j + 1) = _
      rw [cv_s]
      rfl
    rw [e, cv_lin]
    grind
theorem cv_one (f : Fr) : ∀ n, cv one1 f n = f n
  | 0 => by
    rw [cv_z]
    show (1 : Rat) * f 0 = _
    grind
  | n + 1 => by
    rw [cv_s]
    have : cv (tl one1) f n = 0 := by
      unfold cv
      rw [sumTo_congr (g := fun _ => 0) fun t _ => by
        show (if t + 1 = 0 then (1 : Rat) else 0) * _ = 0
        rw [if_neg (by omega)]
        grind]
      exact sumTo_zero _
    rw [this]
    show (1 : Rat) * f (n + 1) + 0 = _
    grind
/-- powers -/
def pw (f : Fr) : Nat → Fr
  | 0 => one1
  | k + 1 => cv (pw f k) f
theorem pw_one (f : Fr) : pw f 1 = f := funext fun n => cv_one f n
theorem pw_add (f : Fr) (a : Nat) : ∀ b, cv (pw f a) (pw f b) = pw f (a + b)
  | 0 => funext fun n => by
    show cv (pw f a) one1 n = pw f a n
    rw [cv_comm, cv_one]
  | b + 1 => funext fun n => by
    show cv (pw f a) (cv (pw f b) f) n = cv (pw f (a + b)) f n
    rw [← cv_assoc, pw_add f a b]
theorem sumTo_tail (f : Fr) {m : Nat} : ∀ {n : Nat}, m ≤ n → (∀ j, m ≤ j → f j = 0) → sumTo n f = sumTo m f
  | 0, h, _ => by
    have : m = 0 := by omega
    rw [this]
  | n + 1, h, z => by
    rcases Nat.lt_or_ge n m with c | c
    · rw [show m = n + 1 by omega]
    · show sumTo n f + f n = _
      rw [sumTo_tail f c z, z n c]
      grind
theorem cvR_cv (as bs : List Q2) (j : Nat) : cvR as bs j = cv (rowF as) (rowF bs) j := by
  unfold cvR cv
  have e1 : ∀ m, j + 1 ≤ m → sumTo m (fun t => if t ≤ j then rowF as t * rowF bs (j - t) else 0) = sumTo (j + 1) fun t => rowF as t * rowF bs (j - t) := fun m hm => by
    rw [sumTo_tail (m := j + 1) _ hm fun t ht => if_neg (by omega)]
    exact sumTo_congr fun t ht => if_pos (by omega)
  have e2 : ∀ m, as.length ≤ m → sumTo m (fun t => if t ≤ j then rowF as t * rowF bs (j - t) else 0) = sumTo as.length (fun t => if t ≤ j then rowF as t * rowF bs (j - t) else 0) := fun m hm =>
    sumTo_tail _ hm fun t ht => by
      rw [rowF_out ht]
      split <;> grind
  rw [← e2 (max as.length (j + 1)) (Nat.le_max_left _ _), e1 _ (Nat.le_max_right _ _)]
end Ind

set_option Elab.async false
set_option linter.all false
set_option maxRecDepth 100000
set_option maxHeartbeats 4000000
namespace Ind
open PySem PySem.Spec PyProof.Rows L2
section
variable {X : Cx} {CX : CXT} {n : Nat} {C f : Addr} {fd : FuncData} {ps : List Str} {sp : Sp} {E : XK}
/-- an own def that stands for an operator -/
structure OwnOp (X : Cx) (CX : CXT) (n : Nat) (C f : Addr) (m : Str) (fd : FuncData) (ps : List Str) (sp : Sp) (E : XK) : Prop where
  fn : FnOk X.prog X.w X.K X.mg X.base CX n f fd ps sp
  at_ : PySem.W.findIn X.K (.ref C) m = some (some (.ref f))
  isf : PySem.W.isFn X.K (.ref f) = true
  b : Binds X.K fd ps []
  px : Passes CX X E
  first : PySem.W.selfFirst X.K C = true
def rBinO (C : Addr) (sp : Sp) (E : XK) : R2 := fun x y H Q => ∃ a dx fs b dy gs, x = .ref a ∧ y = .ref b ∧ H a = some (.ins C dx fs) ∧ H b = some (.ins C dy gs) ∧ sp [x, y] H Q E
theorem op_binO {op : Operator} {m : Str} (hm : PySem.dunder op.info.2 = m) (G : OwnOp X CX n C f m fd ps sp E) (hr : Room n X.A) : OpR X (binaryOp op) (rBinO C sp E) := by
  intro pins s σ H x y v u Q I rx ry h
  obtain ⟨a, dx, fs, b, dy, gs, rfl, rfl, ha, hb, q⟩ := h
  cases (show v = Value.ref a from rx)
  cases (show u = Value.ref b from ry)
  obtain ⟨mA, O, _⟩ := ins_get I.hok ha
  obtain ⟨od, J, _⟩ := O.look
  obtain ⟨mB, O2, _⟩ := ins_get I.hok hb
  obtain ⟨od2, J2, _⟩ := O2.look
  obtain ⟨mm, hF⟩ := I.fr
  refine PySem.W.binop_K hF I.ok.mod.kin J J2.type G.first (by rw [hm]; exact G.at_) G.isf ?_
  refine wpAny_mono (run_fn (us := [.ref a, .ref b]) (vs := [.ref a, .ref b]) (dvs := []) G.fn hr G.b .nil G.px I (.cons rfl (.cons rfl .nil)) q) (fun w s' z => ?_) fun _ _ e => e
  obtain ⟨z', H', I', rz, qz⟩ := z
  have fin : EP X pins σ Q w s' := ⟨z', H', I', rz, qz⟩
  cases z' with
  | non => cases rz; exact fin
  | bl _ => cases rz; exact fin
  | int _ => obtain ⟨_, rfl⟩ := rz; exact fin
  | str _ => obtain ⟨_, rfl⟩ := rz; exact fin
  | byt _ => obtain ⟨_, rfl⟩ := rz; exact fin
  | flt _ => obtain ⟨_, rfl⟩ := rz; exact fin
  | ref _ => cases rz; exact fin
  | ty _ => cases rz; exact fin
def rNegO (C : Addr) (sp : Sp) (E : XK) : V → Hp → VK → Prop := fun x H Q => ∃ a dx fs, x = .ref a ∧ H a = some (.ins C dx fs) ∧ sp [x] H Q E
theorem un_negO (G : OwnOp X CX n C f "__neg__" fd ps sp E) (hr : Room n X.A) : UnR X (unaryOp .USub) (rNegO C sp E) := by
  intro pins s σ H x v Q I rx h
  obtain ⟨a, dx, fs, rfl, ha, q⟩ := h
  cases (show v = Value.ref a from rx)
  obtain ⟨mA, O, _⟩ := ins_get I.hok ha
  obtain ⟨od, J, _⟩ := O.look
  obtain ⟨mm, hF⟩ := I.fr
  exact PySem.W.ksp_neg hF I.ok.mod.kin J G.at_ G.isf (run_fn (us := [.ref a]) (vs := [.ref a]) (dvs := []) G.fn hr G.b .nil G.px I (.cons rfl .nil) q)
end
/-! ### a method whose error goes to a clause that looks at the slots -/
section
variable {X : Cx} {CX : CXT} {k : Nat} {C f : Addr} {m : Str} {fd : FuncData} {ps : List Str} {sp : Sp} {E : L2.St → XK} {o e : Expr} {es : List Expr} {ta : TE} {t : TA} {apos pos : Pos} {pl : Sem Bool}
def tMethS (C : Addr) (m : Str) (sp : Sp) (E : L2.St → XK) (ta : TE) (t : TA) : TE := fun σ H Q =>
  ta σ H fun x H1 => ∃ a dx fs, x = .ref a ∧ H1 a = some (.ins C dx fs) ∧ fs.lookup m = none ∧ t σ H1 fun vs H2 => sp (x :: vs) H2 Q (E σ)
theorem pe_methS0 (ho : PE X o ta) (c : Cls X.K C) (hm : Meth X.K C m f) (F : FnOk X.prog X.w X.K X.mg X.base CX k f fd ps sp) (hr : Room k X.A) (hb : Binds X.K fd ps []) (hx : ∀ σ, PassesAt CX X σ (E σ))
    (hv : eval (.Call (.Attribute o m apos) [] [] pos) X.env =
      (do let ov ← eval o X.env; standAt apos.atName; let (g, first) ← holding [ov] (getMethod ov m pl); callWith pos g first (backTo pos (starEach [] X.env)) (backToKw pos (keywordEach [] X.env))) := by rfl) :
    PE X (.Call (.Attribute o m apos) [] [] pos) (tMethS C m sp E ta tNil) := by
  constructor
  intro pins s σ H Q I h
  refine PySem.W.methodCall_KW (pl := pl) (thn (ho.run pins s σ H _ I h) fun u s1 z => ?_) hv
  obtain ⟨x, H1, I1, rx, a, dx, fs, rfl, ea, l, q⟩ := z
  cases (show u = Value.ref a from rx)
  exact getmeth_ok I1 ea c hm l (PySem.W.callWith_K0 (first := [.ref a]) I1.kIn hm.kp (run_fnS (us := [.ref a]) (vs := [.ref a]) F hr hb (hx σ) I1 (.cons rfl .nil) q))
theorem pe_methS1 (ho : PE X o ta) (c : Cls X.K C) (hm : Meth X.K C m f) (F : FnOk X.prog X.w X.K X.mg X.base CX k f fd ps sp) (hr : Room k X.A) (hb : Binds X.K fd ps []) (hx : ∀ σ, PassesAt CX X σ (E σ)) (ha : PA X (e :: es) t)
    (hst : starEach (e :: es) X.env = (false, eval e X.env) :: starEach es X.env := by rfl) (hpl : (backTo pos (starEach es X.env)).any (·.1) = false := by rfl)
    (hv : eval (.Call (.Attribute o m apos) (e :: es) [] pos) X.env =
      (do let ov ← eval o X.env; standAt apos.atName; let (g, first) ← holding [ov] (getMethod ov m pl); callWith pos g first (backTo pos (starEach (e :: es) X.env)) (backToKw pos (keywordEach [] X.env))) := by rfl) :
    PE X (.Call (.Attribute o m apos) (e :: es) [] pos) (tMethS C m sp E ta t) := by
  constructor
  intro pins s σ H Q I h
  refine PySem.W.methodCall_KW (pl := pl) (thn (ho.run pins s σ H _ I h) fun u s1 z => ?_) hv
  obtain ⟨x, H1, I1, rx, a, dx, fs, rfl, ea, l, q⟩ := z
  cases (show u = Value.ref a from rx)
  refine getmeth_ok I1 ea c hm l (PySem.W.callWith_K (first := [.ref a]) (h₀ := X.base) I.ok.mod.kin hm.kp (thn (ha.run pos pins s1 σ H1 _ I1 q) fun us s2 z2 => ?_) hst hpl)
  obtain ⟨vs, H2, I2, r, q2⟩ := z2
  exact ⟨I2.kIn, run_fnS (us := .ref a :: us) (vs := .ref a :: vs) F hr hb (hx σ) I2 (.cons rfl r) q2⟩
end
/-- an error that a def lets out goes on to whoever called it -/
theorem pass_on {X : Cx} {E : XK} (hs : X.stack = X.env :: X.outer) (hf : X.env.frame = some X.env.locals) (hex : X.ex = []) (t : Takes X (fun cls d _ H => E cls d H)) : Passes (L2.CX X.prog X.w) X E := passes_call t fun _ _ _ _ h => h
/-! ### lcm of small ints -/
def rLcm : List V → Hp → VK → Prop := fun vs H Q => ∃ a b : Int, vs = [.int a, .int b] ∧ (0 < a ∧ a < 2 ^ 60) ∧ (0 < b ∧ b < 2 ^ 60) ∧ Q (.int ((Nat.lcm a.natAbs b.natAbs : Nat) : Int)) H
theorem cr_lcm {X : Cx} : CallR X (.builtin "math.lcm") rLcm := by
  intro pins s σ H vs us Q I r h
  obtain ⟨a, b, rfl, ha, hb, q⟩ := h
  obtain ⟨t, u, rfl⟩ := Vals.int2 r
  have e : Nat.lcm 1 a.natAbs = a.natAbs := Nat.lcm_one_left _
  have hn : a.natAbs < 2 ^ 60 := by omega
  have hm : b.natAbs < 2 ^ 60 := by omega
  refine PySem.W.mg_lcm (by omega) (by omega) ?_ ?_
  · rw [e]
    have hp : 0 < Nat.lcm a.natAbs b.natAbs := Nat.lcm_pos (by omega) (by omega)
    have hle : Nat.lcm a.natAbs b.natAbs ≤ a.natAbs * b.natAbs := Nat.lcm_le_mul (by omega) (by omega)
    have hlt : a.natAbs * b.natAbs < 2 ^ 120 := Nat.lt_of_lt_of_le (Nat.mul_lt_mul'' hn hm) (by decide)
    have h2 : ((Nat.lcm a.natAbs b.natAbs : Nat) : Int).natAbs < 2 ^ 120 := by
      show Nat.lcm a.natAbs b.natAbs < 2 ^ 120
      omega
    have h3 := PySem.Flt.log2_lt_of (k := 120) (by decide) h2
    exact Nat.lt_of_lt_of_le h3 (by decide)
  · rw [e]
    exact ⟨.int _, H, I.tok _, ⟨_, rfl⟩, q⟩
end Ind

set_option Elab.async false
set_option linter.all false
namespace Ind
/-! ### division with remainder: one quotient, one remainder; multiplicities -/
/-- nothing from n on -/
def Fs (f : Fr) (n : Nat) : Prop := ∀ j, n ≤ j → f j = 0
theorem Fs.mono {f : Fr} {m n : Nat} (h : Fs f m) (l : m ≤ n) : Fs f n := fun j hj => h j (Nat.le_trans l hj)
theorem sumTo_only {f : Fr} {n : Nat} : ∀ {N : Nat}, n < N → (∀ t, t < N → t ≠ n → f t = 0) → sumTo N f = f n
  | 0, h, _ => absurd h (Nat.not_lt_zero _)
  | N + 1, h, z => by
    show sumTo N f + f N = f n
    by_cases e : n = N
    · subst e
      rw [sumTo_congr (g := fun _ => 0) fun j hj => z j (by omega) (by omega), sumTo_zero]
      grind
    · rw [sumTo_only (by omega) fun t ht hn => z t (by omega) hn, z N (by omega) (fun q => e q.symm)]
      grind
theorem cv_out {u b : Fr} {m n : Nat} (hu : Fs u n) (hb : Fs b m) : Fs (cv u b) (n + m) := fun j hj => by
  unfold cv
  rw [sumTo_congr (g := fun _ => 0) fun t _ => by
    by_cases c : n ≤ t
    · rw [hu t c]
      grind
    · rw [hb (j - t) (by omega)]
      grind]
  exact sumTo_zero _
theorem cv_top {u b : Fr} {m n : Nat} (hu : Fs u (n + 1)) (hb : Fs b (m + 1)) : cv u b (n + m) = u n * b m := by
  unfold cv
  rw [sumTo_only (n := n) (by omega) fun t _ hn => ?_]
  · rw [show n + m - n = m by omega]
  · by_cases c : n < t
    · rw [hu t c]
      grind
    · rw [hb (n + m - t) (by omega)]
      grind
theorem cv_zl (b : Fr) (j : Nat) : cv (fun _ => 0) b j = 0 := by
  unfold cv
  rw [sumTo_congr (g := fun _ => 0) fun t _ => by grind]
  exact sumTo_zero _
theorem uniq0 {u b : Fr} {m : Nat} (hb : Fs b (m + 1)) (h0 : b m ≠ 0) : ∀ N, Fs u N → (∀ j, m ≤ j → cv u b j = 0) → ∀ j, u j = 0
  | 0, hu, _ => fun j => hu j (Nat.zero_le _)
  | N + 1, hu, h => by
    have h1 := h (N + m) (by omega)
    rw [cv_top hu hb] at h1
    have h2 : u N = 0 := by
      rcases Rat.mul_eq_zero.mp h1 with e | e
      · exact e
      · exact absurd e h0
    refine uniq0 hb h0 N (fun j hj => ?_) h
    by_cases e : j = N
    · rw [e, h2]
    · exact hu j (by omega)
theorem div_uniq {s r s' r' b : Fr} {m N : Nat} (hb : Fs b (m + 1)) (h0 : b m ≠ 0) (hs : Fs s N) (hs' : Fs s' N) (hr : Fs r m) (hr' : Fs r' m) (h : ∀ j, cv s b j + r j = cv s' b j + r' j) : (∀ j, s j = s' j) ∧ ∀ j, r j = r' j := by
  have key : ∀ j, (fun j => (-1 : Rat) * s' j + s j) j = 0 := uniq0 hb h0 N (fun j hj => by
    show (-1 : Rat) * s' j + s j = 0
    rw [hs j hj, hs' j hj]
    grind) fun j hj => by
    rw [cv_lin]
    have := h j
    rw [hr j hj, hr' j hj] at this
    grind
  have e : ∀ j, s j = s' j := fun j => by
    have := key j
    grind
  refine ⟨e, fun j => ?_⟩
  have := h j
  rw [funext e] at this
  grind
theorem cancel {u v b : Fr} {m N : Nat} (hb : Fs b (m + 1)) (h0 : b m ≠ 0) (hu : Fs u N) (hv : Fs v N) (h : ∀ j, cv u b j = cv v b j) : ∀ j, u j = v j :=
  (div_uniq (r := fun _ => 0) (r' := fun _ => 0) hb h0 hu hv (fun _ _ => rfl) (fun _ _ => rfl) fun j => by rw [h j]).1
theorem fs_one : Fs one1 1 := fun j hj => by
  show (if j = 0 then (1 : Rat) else 0) = 0
  rw [if_neg (by omega)]
theorem fs_pw {b : Fr} {m : Nat} (hb : Fs b m) : ∀ k, ∃ n, Fs (pw b k) n
  | 0 => ⟨1, fs_one⟩
  | k + 1 => by
    obtain ⟨n, h⟩ := fs_pw hb k
    exact ⟨n + m, cv_out h hb⟩
theorem pw_swap (b p : Fr) (k : Nat) : cv (pw b (k + 1)) p = cv (cv (pw b k) p) b := funext fun j => by
  show cv (cv (pw b k) b) p j = _
  rw [cv_assoc, cv_assoc, funext (cv_comm b p)]
theorem cancel_pw {b p y : Fr} {m : Nat} (hb : Fs b (m + 1)) (h0 : b m ≠ 0) {n : Nat} (hp : Fs p n) (hy : Fs y n) : ∀ k, (∀ j, cv (pw b k) p j = cv (pw b k) y j) → ∀ j, p j = y j
  | 0, h => fun j => by
    have := h j
    rw [show pw b 0 = one1 from rfl, cv_one, cv_one] at this
    exact this
  | k + 1, h => by
    obtain ⟨t, ht⟩ := fs_pw hb k
    refine cancel_pw hb h0 hp hy k (cancel hb h0 (cv_out ht hp) (cv_out ht hy) fun j => ?_)
    rw [← pw_swap, ← pw_swap]
    exact h j
/-- b does not divide p -/
def Nd (b p : Fr) : Prop := ∀ (x : Fr) (N : Nat), Fs x N → ¬ ∀ j, cv x b j = p j
theorem nd_of {s r p b : Fr} {m N : Nat} (hb : Fs b (m + 1)) (h0 : b m ≠ 0) (hs : Fs s N) (hr : Fs r m) (h : ∀ j, p j = cv s b j + r j) {i : Nat} (hi : r i ≠ 0) : Nd b p := fun x M hx z => by
  have := (div_uniq (s := s) (r := r) (s' := x) (r' := fun _ => 0) (N := max N M) hb h0 (hs.mono (Nat.le_max_left _ _)) (hx.mono (Nat.le_max_right _ _)) hr (fun _ _ => rfl) fun j => by
    rw [← h j, z j]
    grind).2 i
  exact hi this
theorem mult_le {b p c : Fr} {m : Nat} (hb : Fs b (m + 1)) (h0 : b m ≠ 0) {n : Nat} (hp : Fs p n) (hc : Fs c n) (np : Nd b p) {k l : Nat} (h : ∀ j, cv (pw b k) p j = cv (pw b l) c j) : l ≤ k := by
  apply Nat.le_of_not_lt
  intro hl
  obtain ⟨e, rfl⟩ : ∃ e, l = k + (e + 1) := ⟨l - k - 1, by omega⟩
  obtain ⟨t, ht⟩ := fs_pw hb e
  obtain ⟨t2, ht2⟩ := fs_pw hb (e + 1)
  have key := cancel_pw (p := p) (y := cv (pw b (e + 1)) c) hb h0 (n := max n (t2 + n)) (hp.mono (Nat.le_max_left _ _)) ((cv_out ht2 hc).mono (Nat.le_max_right _ _)) k fun j => by
    rw [← cv_assoc, pw_add]
    exact h j
  exact np (cv (pw b e) c) _ (cv_out ht hc) fun j => by
    rw [key j, pw_swap]
theorem mult_eq {b p c : Fr} {m : Nat} (hb : Fs b (m + 1)) (h0 : b m ≠ 0) {n : Nat} (hp : Fs p n) (hc : Fs c n) (np : Nd b p) (nc : Nd b c) {k l : Nat} (h : ∀ j, cv (pw b k) p j = cv (pw b l) c j) : k = l :=
  Nat.le_antisymm (mult_le hb h0 hc hp nc fun j => (h j).symm) (mult_le hb h0 hp hc np h)
end Ind

set_option Elab.async false
set_option linter.all false
set_option maxRecDepth 100000
set_option maxHeartbeats 4000000
namespace Ind
open PySem PySem.Spec PyProof.Rows L2
open Builtin.Int (intBits)
/-! ### one step of a division of rows -/
theorem cv_delta (b : Fr) (s : Rat) (a j : Nat) : cv (fun t => if t = a then s else 0) b j = if a ≤ j then s * b (j - a) else 0 := by
  unfold cv
  by_cases c : a ≤ j
  · rw [if_pos c, sumTo_only (n := a) (by omega) fun t _ hn => by
      show (if t = a then s else 0) * _ = 0
      rw [if_neg hn]
      grind]
    show (if a = a then s else 0) * _ = _
    rw [if_pos rfl]
  · rw [if_neg c, sumTo_congr (g := fun _ => 0) fun t ht => by
      show (if t = a then s else 0) * _ = 0
      rw [if_neg (by omega)]
      grind]
    exact sumTo_zero _
theorem ld_step {A b R Q R' Q' : Fr} {c s : Rat} {a : Nat} (h : ∀ j, c * A j = cv Q b j + R j) (hq : ∀ j, Q' j = Q j + if j = a then s else 0) (hr : ∀ j, R' j = R j - if a ≤ j then s * b (j - a) else 0) (j : Nat) : c * A j = cv Q' b j + R' j := by
  have e : Q' = fun t => (1 : Rat) * (fun t => if t = a then s else 0) t + Q t := funext fun t => by
    rw [hq t]
    grind
  rw [hr j, e, cv_lin, cv_delta, h j]
  grind
theorem ld_scale {A b R Q R' Q' : Fr} {c c' f : Rat} (h : ∀ j, c * A j = cv Q b j + R j) (hc : c' = c * f) (hq : ∀ j, Q' j = f * Q j) (hr : ∀ j, R' j = f * R j) (j : Nat) : c' * A j = cv Q' b j + R' j := by
  have e : Q' = fun t => f * Q t + (fun _ => 0) t := funext fun t => by
    rw [hq t]
    grind
  rw [hr j, e, cv_lin, cv_zl, hc]
  have := h j
  grind
theorem ld_num {x l : Int} {m : Nat} (hl : l ≠ 0) (hm : intBits l ≤ m) : ∃ f s : Int, ((l.natAbs : Nat) : Int).fdiv ((Nat.gcd x.natAbs l.natAbs : Nat) : Int) = f ∧ 0 < f ∧ intBits f ≤ m ∧ (f * x).fdiv l = s ∧ s * l = f * x ∧ s.natAbs ≤ x.natAbs ∧ 0 < Nat.gcd x.natAbs l.natAbs ∧ intBits ((Nat.gcd x.natAbs l.natAbs : Nat) : Int) ≤ m := by
  have hg : 0 < Nat.gcd x.natAbs l.natAbs := Nat.gcd_pos_of_pos_right _ (by omega)
  obtain ⟨l', el⟩ := Nat.gcd_dvd_right x.natAbs l.natAbs
  obtain ⟨x', ex⟩ := Nat.gcd_dvd_left x.natAbs l.natAbs
  generalize Nat.gcd x.natAbs l.natAbs = g at hg el ex ⊢
  have hf : ((l.natAbs : Nat) : Int).fdiv ((g : Nat) : Int) = (l' : Int) := by
    rw [el, Int.natCast_mul, Int.mul_comm (g : Int), Int.mul_fdiv_cancel _ (by omega)]
  have hl' : 0 < l' := by
    rcases Nat.eq_zero_or_pos l' with e | e
    · rw [e, Nat.mul_zero] at el
      omega
    · exact e
  have d : l ∣ (l' : Int) * x := by
    refine Int.natAbs_dvd_natAbs.mp ⟨x', ?_⟩
    rw [Int.natAbs_mul, Int.natAbs_natCast, ex, el]
    rw [Nat.mul_comm g l', Nat.mul_assoc]
  obtain ⟨s, hs⟩ := d
  refine ⟨(l' : Int), s, hf, by omega, ?_, ?_, ?_, ?_, hg, ?_⟩
  · refine PySem.intBits_le_of_natAbs (y := l) ?_ hm
    rw [Int.natAbs_natCast, el]
    exact Nat.le_mul_of_pos_left _ hg
  · rw [hs, Int.mul_comm l, Int.mul_fdiv_cancel _ hl]
  · rw [hs, Int.mul_comm]
  · have h1 : l.natAbs * s.natAbs = l' * x.natAbs := by
      rw [← Int.natAbs_mul, ← hs, Int.natAbs_mul, Int.natAbs_natCast]
    have h2 : g * (l' * s.natAbs) = g * (l' * x') := by
      rw [← Nat.mul_assoc, ← el, h1, ex]
      rw [← Nat.mul_assoc, ← Nat.mul_assoc, Nat.mul_comm l' g]
    have h3 := Nat.eq_of_mul_eq_mul_left hl' (Nat.eq_of_mul_eq_mul_left hg h2)
    rw [h3, ex]
    exact Nat.le_mul_of_pos_left _ hg
  · refine PySem.intBits_le_of_natAbs (y := l) ?_ hm
    rw [Int.natAbs_natCast, el]
    exact Nat.le_mul_of_pos_right _ hl'
theorem bits_sub {x y : Int} {m n : Nat} (h1 : intBits x ≤ m) (h2 : intBits y ≤ n) : intBits (x - y) ≤ max m n + 1 := by
  rw [Int.sub_eq_add_neg]
  exact PySem.intBits_add_le h1 (PySem.intBits_neg_le h2)
abbrev sLd : Stmt := top 19
def spLd : Sp := fun vs H Q _ => ∃ (p q : Addr) (as bs : List Int) (m k d : Nat), vs = [.ref p, .ref q] ∧ IntsAt H p as ∧ IntsAt H q bs ∧ bs.length = m + 1 ∧ bs.getD m 0 ≠ 0 ∧ as.length ≤ 60 ∧ bs.length ≤ 60 ∧
  (∀ n ∈ as, intBits n ≤ k) ∧ (∀ n ∈ bs, intBits n ≤ d) ∧ k + (as.length - m) * (d + 1) + d ≤ 60000000 ∧
  ∀ (H' : Hp) (t lq lr : Addr) (qs rs : List Int) (c : Int), Same H H' → H' t = some (.tup [.ref lq, .ref lr, .int c]) → H' lq = some (.lst (qs.map V.int)) → H' lr = some (.lst (rs.map V.int)) → 0 < c → qs.length = as.length - m → rs.length ≤ m →
    (∀ n ∈ qs, intBits n ≤ k + (as.length - m) * (d + 1)) → (∀ n ∈ rs, intBits n ≤ k + (as.length - m) * (d + 1)) → intBits c ≤ 1 + (as.length - m) * d → (∀ j, ((c : Int) : Rat) * fr as j = cv (fr qs) (fr bs) j + fr rs j) → TrimI rs → Q (.ref t) H'
end Ind

set_option Elab.async false
set_option linter.all false
set_option maxRecDepth 100000
set_option maxHeartbeats 4000000
set_option exponentiation.threshold 9000
namespace Ind
open PySem PySem.Spec PyProof.Rows L2
open Builtin.Int (intBits)
section
variable {P : Program} {w : World} {K : PySem.W.Frag} {mg : Str → Option Value} {base : Heap} {C Z CP : Addr}
abbrev nLd : List Str := ["a", "b", "rest", "quotient", "scale", "last", "at", "factor", "share", "k", "_", "n"]
theorem scLd : FnScope nLd ["a", "b"] (defScope sLd) := ⟨rfl, rfl, rfl, by decide +kernel, rfl, by decide +kernel, by decide +kernel⟩
theorem last_at {ns : List Int} {x : Int} {n : Nat} (hl : ns.length = n + 1) (h : ns.getD n 0 = x) : atI (ns.map V.int) (-1) = some (V.int x) := by
  obtain ⟨u, hu⟩ : ∃ u, ns[n]? = some u := ⟨_, List.getElem?_eq_getElem (by omega)⟩
  have eu : u = x := by
    rw [List.getD_eq_getElem?_getD, hu] at h
    exact h
  subst eu
  have e : ns = ns.take n ++ [u] := by
    rw [← take_snoc hu, List.take_of_length_le (by omega)]
  rw [e, List.map_append]
  exact atI_last _ _
theorem fresh_back {H H' : Hp} {G : Addr} (s : Same H H') (h : H' G = none) : H G = none := by
  cases e : H G with
  | none => rfl
  | some o =>
    rw [s _ _ e] at h
    cases h
theorem rep_at (L t : Nat) : (List.replicate L (0 : Int)).getD t 0 = 0 := by
  rw [List.getD_eq_getElem?_getD, List.getElem?_replicate]
  split <;> rfl
theorem drop_at (ns : List Int) (j : Nat) : (ns.dropLast).getD j 0 = if j + 1 < ns.length then ns.getD j 0 else 0 := by
  rw [List.getD_eq_getElem?_getD, List.getD_eq_getElem?_getD, List.getElem?_dropLast]
  by_cases c : j < ns.length - 1
  · rw [if_pos c, if_pos (by omega)]
  · rw [if_neg c, if_neg (by omega)]
    rfl
theorem ok_ld {f fT : Addr} {fd fdT : FuncData} (hN : base.NoSeer) (hT : P.given.tree = none) (F : Fun K "long_division" "long_division" sLd f fd) (T : TxL K mg) (TP : TxP K mg CP) (gg : mg "gcd" = some (.builtin "math.gcd")) (GT : FnOk P w K mg base CX0 1 fT fdT ["row"] spTrim) (kT : PySem.W.keepIn K (.ref fT) = true) (bT : Binds K fdT ["row"] []) (gT : mg "trimmed" = some (.ref fT)) : FnOk P w K mg base CX0 41 f fd ["a", "b"] spLd := by
  refine F.ok scLd (fun vs H Q E h => ?_) (fun cdv A outer s0 H vs Q E hr h => ?_)
  · obtain ⟨p, q, as, bs, m, k, d, rfl, _⟩ := h
    rfl
  · obtain ⟨p, q, as, bs, m, kk, d, rfl, hp, hq, hbl, hb0, ha1, hb1, ha, hb, hkd, k⟩ := h
    have h40 := hr.mono (show 40 ≤ 40 by decide)
    have h1 := hr.mono (show 1 ≤ 40 by decide)
    refine ⟨_, pss_cons (ps_set (i := 2) scLd.nd rfl (Or.inl rfl) (pe_callTy call_list_of (by rfl) TP.list (by decide +kernel) (pa_cons (pv 0) pa_nil)))
      (pss_cons (ps_setLc (i := 3) (own := [("_", 10)]) (g := gName 10) (tt := tYes) rfl scLd.nd rfl rfl rfl (pi_range1 (by rfl) T.range (pa_cons (pe_op op_add (pe_op op_sub (pe_callB call_len_seq (by rfl) T.len PySem.boot_len (pa_cons (pv 0) pa_nil)) (pe_callB call_len_seq (by rfl) T.len PySem.boot_len (pa_cons (pv 1) pa_nil))) pe_int) pa_nil)) (blkOk_by (N := nLd) (sc := defScope sLd) (by decide +kernel))
          (fun _ _ _ _ _ => pg_name (i := 10) scLd.nd rfl (Or.inl rfl)) (fun _ _ _ _ _ => pts_nil) (fun _ _ _ _ _ => pe_int))
      (pss_cons (ps_set (i := 4) scLd.nd rfl (Or.inl rfl) pe_int)
      (pss_cons (ps_set (i := 5) scLd.nd rfl (Or.inl rfl) (pe_ix ix_seq (pv 1) (pe_un un_neg pe_int) fun _ _ => rfl))
      (pss_cons (ps_for PassesOwn.never rfl (pi_range3 (by rfl) T.range (pa_cons (pe_op op_sub (pe_callB call_len_seq (by rfl) T.len PySem.boot_len (pa_cons (pv 0) pa_nil)) (pe_callB call_len_seq (by rfl) T.len PySem.boot_len (pa_cons (pv 1) pa_nil))) (pa_cons (pe_un un_neg pe_int) (pa_cons (pe_un un_neg pe_int) pa_nil)))) (pg_name (i := 6) scLd.nd rfl (Or.inl rfl))
        (pss_cons (ps_set (i := 7) scLd.nd rfl (Or.inr rfl) (pe_op (op_fdivC ⟨hN, hT, ⟨_, _, rfl, rfl, rfl, rfl, rfl⟩, h40⟩) (pe_callB call_abs (by rfl) T.abs (by decide +kernel) (pa_cons (pv 5) pa_nil)) (pe_callBfun cr_gcd (by rfl) gg (pa_cons (pe_ix ix_list (pv 2) (pe_un un_neg pe_int) fun _ _ => rfl) (pa_cons (pv 5) pa_nil)))))
        (C8.pss_cut (ps_if (pt_cmpR op_ne (pv 7) pe_int (nomark _))
            (pss_cons (ps_setLc (i := 2) (own := [("n", 11)]) (g := gName 11) (tt := tYes) rfl scLd.nd rfl rfl rfl (pi_list (pv 2)) (blkOk_by (N := nLd) (sc := defScope sLd) (by decide +kernel))
              (fun _ _ _ _ _ => pg_name (i := 11) scLd.nd rfl (Or.inl rfl)) (fun _ _ _ _ _ => pts_nil) (fun _ _ _ _ _ => pe_op op_mulB (pv 7) (pv 11)))
            (pss_cons (ps_setLc (i := 3) (own := [("n", 11)]) (g := gName 11) (tt := tYes) rfl scLd.nd rfl rfl rfl (pi_list (pv 3)) (blkOk_by (N := nLd) (sc := defScope sLd) (by decide +kernel))
              (fun _ _ _ _ _ => pg_name (i := 11) scLd.nd rfl (Or.inl rfl)) (fun _ _ _ _ _ => pts_nil) (fun _ _ _ _ _ => pe_op op_mulB (pv 7) (pv 11)))
            (pss_one (ps_set (i := 4) scLd.nd rfl (Or.inl rfl) (pe_op op_mulB (pv 4) (pv 7)))))) pss_nil)
        (pss_cons (ps_set (i := 8) scLd.nd rfl (Or.inl rfl) (pe_op (op_fdivC ⟨hN, hT, ⟨_, _, rfl, rfl, rfl, rfl, rfl⟩, h40⟩) (pe_ix ix_list (pv 2) (pe_un un_neg pe_int) fun _ _ => rfl) (pv 5)))
        (pss_cons (ps_asg (pv 8) (pg_sub (pv 3) (pv 6) set_list))
        (C8.pss_cut (ps_if (pt_cmpR op_ne (pv 8) pe_int (nomark _)) (pss_one (ps_for PassesOwn.never rfl (pi_range1 (by rfl) T.range (pa_cons (pe_op op_sub (pe_callB call_len_seq (by rfl) T.len PySem.boot_len (pa_cons (pv 1) pa_nil)) pe_int) pa_nil)) (pg_name (i := 9) scLd.nd rfl (Or.inl rfl))
            (pss_one (ps_asg (pe_op op_sub (pe_ix ix_list (pv 2) (pe_op op_add (pv 6) (pv 9)) fun _ _ => rfl) (pe_op op_mulB (pv 8) (pe_ix ix_seq (pv 1) (pv 9) fun _ _ => rfl))) (pg_sub (pv 2) (pe_op op_add (pv 6) (pv 9)) set_list))))) pss_nil)
        (pss_one (ps_expr (pe_bm0 PySem.F.plainAttrs_list PySem.F.slot_list_pop PySem.F.type_list_pop mt_pop (pv 2))))))))))
      (pss_one (ps_ret (pe_tup (pa_cons (pv 3) (pa_cons (pe_call GT h1 (by rfl) gT kT bT .nil pass0 (pa_cons (pv 2) pa_nil)) (pa_cons (pv 4) pa_nil)))))))))), ?_⟩
    obtain ⟨l, el⟩ : ∃ l, bs.getD m 0 = l := ⟨_, rfl⟩
    rw [el] at hb0
    have bl : intBits l ≤ d := by rw [← el]; exact bits_getD hb m
    refine ⟨_, rfl, p, _, rfl, hp.sq, fun D1 hD1 => ?_⟩
    have sD1 : Same H (upd H D1 (.lst (as.map V.int))) := same_upd hD1
    refine ⟨_, rfl, p, _, rfl, (hp.same sD1).sq, _, rfl, q, _, rfl, (hq.same sD1).sq, _, _, rfl, rfl, _, _, rfl, rfl, _, rfl, ?_, ?_, fun D2 hD2 => ?_⟩
    · rw [List.length_map, List.length_map]
      omega
    · rw [List.length_map, List.length_map]
      omega
    rw [List.length_map, List.length_map, show ((as.length : Int) - (bs.length : Int) + 1).toNat = as.length - m by omega]
    obtain ⟨L, hL⟩ : ∃ L, as.length - m = L := ⟨_, rfl⟩
    rw [hL] at k hkd ⊢
    refine lc_range (lo := 0) (n := L) (fun i H2 => ColI D2 (upd H D1 (.lst (as.map V.int))) H2 (List.replicate i 0)) (ColI.start hD2) ?_ ?_
    · intro i H2 hi z
      refine ⟨rfl, ?_⟩
      rw [List.replicate_succ']
      refine z.push (n := 0) hD2 same_rfl ?_
      rw [List.length_replicate]
      omega
    rintro H2 z
    have hD2H : H D2 = none := fresh_back sD1 hD2
    have nD : D1 ≠ D2 := ne_of_none upd_same hD2
    have hp2 := (hp.same sD1).same z.s
    have hq2 := (hq.same sD1).same z.s
    refine ⟨_, rfl, _, rfl, q, _, _, V.int l, rfl, rfl, hq2.sq, last_at hbl el, ?_⟩
    refine ⟨_, rfl, p, _, rfl, hp2.sq, _, rfl, q, _, rfl, hq2.sq, _, _, rfl, rfl, _, rfl, _, rfl, _, _, _, _, rfl, RgC.neg (by rw [List.length_map, List.length_map]; omega) (by rw [List.length_map, List.length_map]; omega) (by decide) (by decide), ?_⟩
    rw [List.length_map, List.length_map, show ((as.length : Int) - (bs.length : Int) - -1).toNat = L by omega]
    refine for_it (walk_rangeC (lo := (as.length : Int) - (bs.length : Int)) (c := -1) (n := L))
      (fun i σ H5 => ∃ (E1 E2 : Addr) (rs qs : List Int) (c : Int) (v6 v7 v8 v9 : Option V), σ = [some (.ref p), some (.ref q), some (.ref E1), some (.ref E2), some (.int c), some (.int l), v6, v7, v8, v9, none, none] ∧ Same H H5 ∧ H E1 = none ∧ H E2 = none ∧ E1 ≠ E2 ∧
        H5 E1 = some (.lst (rs.map V.int)) ∧ H5 E2 = some (.lst (qs.map V.int)) ∧ rs.length = as.length - i ∧ qs.length = L ∧ (∀ n ∈ rs, intBits n ≤ kk + i * (d + 1)) ∧ (∀ n ∈ qs, intBits n ≤ kk + i * (d + 1)) ∧ 0 < c ∧ intBits c ≤ 1 + i * d ∧ (∀ t, t < L - i → qs.getD t 0 = 0) ∧
        ∀ j, ((c : Int) : Rat) * fr as j = cv (fr qs) (fr bs) j + fr rs j)
      ⟨D1, D2, as, List.replicate L 0, 1, none, none, none, none, rfl, sD1.trans z.s, hD1, hD2H, nD, z.s _ _ upd_same, z.at_, by omega, List.length_replicate .., fun n hn => Nat.le_trans (ha n hn) (Nat.le_add_right _ _), fun n hn => by
        rw [List.eq_of_mem_replicate hn]
        exact Nat.zero_le _, by decide, Nat.le_trans (show intBits 1 ≤ 1 by decide) (Nat.le_add_right _ _), fun t _ => rep_at L t, fun j => by
        rw [show fr (List.replicate L 0) = fun _ => 0 from funext fun t => by
          unfold fr
          rw [rep_at]
          rfl, cv_zl]
        show (1 : Rat) * _ = _
        grind⟩ (fun i σ H5 _ _ => trivial) ?_ ?_
    · rintro i x0 σ H0 H5 hi ⟨E1, E2, rs, qs, c, v6, v7, v8, v9, rfl, s5, f1, f2, nE, e1, e2, hrl, hql, hrb, hqb, hc0, hcb, hqz, hid⟩ y
      obtain ⟨rfl, ey⟩ := y
      obtain ⟨a, ea⟩ : ∃ a : Nat, L = a + 1 + i := ⟨L - 1 - i, by omega⟩
      have eat : (as.length : Int) - (bs.length : Int) + (i : Nat) * (-1) = ((a : Nat) : Int) := by omega
      have hrl' : rs.length = a + m + 1 := by omega
      obtain ⟨x, ex⟩ : ∃ x, rs.getD (a + m) 0 = x := ⟨_, rfl⟩
      have bx : intBits x ≤ kk + i * (d + 1) := by rw [← ex]; exact bits_getD hrb _
      obtain ⟨f, s, ef, hf0, hfb, es, hsl, hsx, hg0, hgb⟩ := ld_num (x := x) hb0 bl
      have hi60 : (i + 1) * (d + 1) ≤ L * (d + 1) := Nat.mul_le_mul_right _ (by omega)
      have hi62 : (i + 1) * (d + 1) = i * (d + 1) + (d + 1) := by rw [Nat.add_mul _ 1, Nat.one_mul]
      have hi61 : i * d ≤ i * (d + 1) := Nat.mul_le_mul_left _ (Nat.le_succ d)
      generalize hR : kk + i * (d + 1) = R at hrb hqb bx
      have bs_ : intBits s ≤ R := PySem.intBits_le_of_natAbs hsx bx
      have ey2 : x0 = V.int ((a : Nat) : Int) := ey.trans (by show V.int _ = _; rw [eat])
      subst ey2
      refine ⟨_, rfl, _, rfl, _, rfl, _, rfl, E1, _, _, V.int x, rfl, rfl, SqL.of e1, last_at hrl' ex, _, rfl, _, _, rfl, _, _, rfl, rfl, ⟨by omega, by omega⟩, ?_⟩
      dsimp only
      rw [abs_nat, ef]
      refine ⟨fun σ' H6 => ∃ (E1 E2 : Addr) (rs1 qs1 : List Int) (c1 : Int), σ' = [some (.ref p), some (.ref q), some (.ref E1), some (.ref E2), some (.int c1), some (.int l), some (.int (a : Int)), some (.int f), v8, v9, none, none] ∧ Same H H6 ∧ H E1 = none ∧ H E2 = none ∧ E1 ≠ E2 ∧
        H6 E1 = some (.lst (rs1.map V.int)) ∧ H6 E2 = some (.lst (qs1.map V.int)) ∧ rs1.length = a + m + 1 ∧ qs1.length = L ∧ (∀ n ∈ rs1, intBits n ≤ R + d) ∧ (∀ n ∈ qs1, intBits n ≤ R + d) ∧ 0 < c1 ∧ intBits c1 ≤ 1 + i * d + d ∧ (∀ t, t < L - i → qs1.getD t 0 = 0) ∧
        (∀ j, ((c1 : Int) : Rat) * fr as j = cv (fr qs1) (fr bs) j + fr rs1 j) ∧ rs1.getD (a + m) 0 = f * x, ?_, ?_⟩
      · refine ⟨_, rfl, rfl, _, rfl, ?_⟩
        by_cases cf : f = 1
        · rw [show decide (V.int f = V.int 1) = true from decide_eq_true (by rw [cf])]
          refine iteF ⟨E1, E2, rs, qs, c, rfl, s5, f1, f2, nE, e1, e2, hrl', hql, fun n hn => Nat.le_trans (hrb n hn) (Nat.le_add_right _ _), fun n hn => Nat.le_trans (hqb n hn) (Nat.le_add_right _ _), hc0, by omega, hqz, hid, ?_⟩
          rw [ex, cf]
          omega
        · rw [show decide (V.int f = V.int 1) = false from decide_eq_false (fun z => cf (V.int.inj z))]
          refine iteT ?_
          have mapb : ∀ {ns : List Int}, (∀ n ∈ ns, intBits n ≤ R) → ∀ u ∈ ns.map (fun n => f * n), intBits u ≤ R + d := fun {ns} h u hu => by
            obtain ⟨n, hn, rfl⟩ := List.mem_map.mp hu
            have := PySem.intBits_mul_le hfb (h n hn)
            omega
          refine ⟨_, rfl, E1, rfl, ⟨_, SqL.of e1⟩, fun G1 hG1 => lc_list (K := K) (a := E1) (xs := rs.map V.int) (fun t H6 => ColI G1 H5 H6 ((rs.take t).map fun n => f * n)) (ColI.start hG1) (fun t H6 _ z => z.s.seq (SqL.of e1)) ?_ ?_⟩
          · rintro t y H6 hy z
            obtain ⟨n, hn, rfl⟩ := int_of hy
            have hi := (List.getElem?_eq_some_iff.mp hn).1
            have bn := hrb n (List.mem_of_getElem? hn)
            refine ⟨rfl, _, rfl, _, rfl, _, _, rfl, rfl, (by show intBits f + intBits n ≤ 134217728; omega), ?_⟩
            rw [map_take_snoc hn]
            refine z.push hG1 same_rfl ?_
            rw [List.length_map, List.length_take]
            omega
          rintro H6 z1
          rw [List.length_map, List.take_length] at z1
          have e26 := z1.s _ _ e2
          refine ⟨_, rfl, E2, rfl, ⟨_, SqL.of e26⟩, fun G2 hG2 => lc_list (K := K) (a := E2) (xs := qs.map V.int) (fun t H7 => ColI G2 H6 H7 ((qs.take t).map fun n => f * n)) (ColI.start hG2) (fun t H7 _ z => z.s.seq (SqL.of e26)) ?_ ?_⟩
          · rintro t y H7 hy z
            obtain ⟨n, hn, rfl⟩ := int_of hy
            have hi := (List.getElem?_eq_some_iff.mp hn).1
            have bn := hqb n (List.mem_of_getElem? hn)
            refine ⟨rfl, _, rfl, _, rfl, _, _, rfl, rfl, (by show intBits f + intBits n ≤ 134217728; omega), ?_⟩
            rw [map_take_snoc hn]
            refine z.push hG2 same_rfl ?_
            rw [List.length_map, List.length_take]
            omega
          rintro H7 z2
          rw [List.length_map, List.take_length] at z2
          have bc := PySem.intBits_mul_le hcb hfb
          refine ⟨_, rfl, _, rfl, _, _, rfl, rfl, (by show intBits c + intBits f ≤ 134217728; omega), ?_⟩
          have fG1 : H G1 = none := fresh_back s5 hG1
          have fG2 : H G2 = none := fresh_back (s5.trans z1.s) hG2
          refine ⟨G1, G2, _, _, c * f, rfl, (s5.trans z1.s).trans z2.s, fG1, fG2, ne_of_none z1.at_ hG2, z2.s _ _ z1.at_, z2.at_, by rw [List.length_map]; exact hrl', by rw [List.length_map]; exact hql, mapb hrb, mapb hqb, Int.mul_pos hc0 hf0, bc, fun t ht => ?_, ?_, ?_⟩
          · rw [getD_map (f := fun n => f * n) (by omega), hqz t ht]
            omega
          · exact ld_scale hid (f := ((f : Int) : Rat)) (by rw [Rat.intCast_mul]) (fun j => by
              unfold fr
              rw [getD_map (f := fun n => f * n) (by omega), Rat.intCast_mul]) (fun j => by
              unfold fr
              rw [getD_map (f := fun n => f * n) (by omega), Rat.intCast_mul])
          · rw [getD_map (f := fun n => f * n) (by omega), ex]
      clear hid hrb hqb e1 e2 f1 f2 nE hql hqz hcb hc0 s5 ex hrl hrl'
      rintro σ' H6 ⟨E1, E2, rs1, qs1, c1, rfl, s6, f1, f2, nE, e1, e2, hrl, hql, hrb, hqb, hc0, hcb, hqz, hid, hx⟩
      refine ⟨_, rfl, _, rfl, E1, _, _, V.int (f * x), rfl, rfl, SqL.of e1, last_at hrl hx, _, rfl, _, _, rfl, rfl, ⟨hb0, by omega⟩, ?_⟩
      dsimp only
      rw [es]
      refine ⟨_, rfl, _, rfl, _, rfl, E2, qs1.map V.int, _, a, rfl, rfl, e2, ixN_of (by rw [List.length_map]; omega), ?_⟩
      have hq0 : qs1.getD a 0 = 0 := hqz a (by omega)
      have s7 : Same H (upd H6 E2 (.lst ((qs1.map V.int).set a (V.int s)))) := fun b o e => by
        rw [upd_ne (ne_of_none e f2)]
        exact s6 b o e
      have e17 : (upd H6 E2 (.lst ((qs1.map V.int).set a (V.int s)))) E1 = some (.lst (rs1.map V.int)) := by
        rw [upd_ne nE]
        exact e1
      have e27 : (upd H6 E2 (.lst ((qs1.map V.int).set a (V.int s)))) E2 = some (.lst ((qs1.set a s).map V.int)) := by
        rw [upd_same, List.map_set]
      generalize (upd H6 E2 (.lst ((qs1.map V.int).set a (V.int s)))) = H7 at s7 e17 e27 ⊢
      refine ⟨fun σ' H8 => ∃ (v9 : Option V) (rs2 : List Int), σ' = [some (.ref p), some (.ref q), some (.ref E1), some (.ref E2), some (.int c1), some (.int l), some (.int (a : Int)), some (.int f), some (.int s), v9, none, none] ∧ Same H H8 ∧
        H8 E1 = some (.lst (rs2.map V.int)) ∧ H8 E2 = some (.lst ((qs1.set a s).map V.int)) ∧ rs2.length = a + m + 1 ∧ ∀ j, rs2.getD j 0 = rs1.getD j 0 - if a ≤ j ∧ j < a + m then s * bs.getD (j - a) 0 else 0, ?_, ?_⟩
      · refine ⟨_, rfl, rfl, _, rfl, ?_⟩
        by_cases cs : s = 0
        · rw [show decide (V.int s = V.int 0) = true from decide_eq_true (by rw [cs])]
          refine iteF ⟨v9, rs1, rfl, s7, e17, e27, hrl, fun j => ?_⟩
          rw [cs]
          split <;> omega
        · rw [show decide (V.int s = V.int 0) = false from decide_eq_false (fun z => cs (V.int.inj z))]
          refine iteT ?_
          refine ⟨_, rfl, q, _, rfl, (hq.same s7).sq, _, _, rfl, rfl, _, rfl, (by rw [List.length_map]; omega), (by rw [List.length_map]; omega), ?_⟩
          rw [List.length_map, show ((bs.length : Int) - 1).toNat = m by omega]
          refine for_it (walk_range (lo := 0) (n := m))
            (fun t σ H8 => ∃ (v9 : Option V) (ms : List Int), σ = [some (.ref p), some (.ref q), some (.ref E1), some (.ref E2), some (.int c1), some (.int l), some (.int (a : Int)), some (.int f), some (.int s), v9, none, none] ∧ Same H H8 ∧
              H8 E1 = some (.lst (ms.map V.int)) ∧ H8 E2 = some (.lst ((qs1.set a s).map V.int)) ∧ ms.length = a + m + 1 ∧ ∀ j, ms.getD j 0 = rs1.getD j 0 - if a ≤ j ∧ j < a + t then s * bs.getD (j - a) 0 else 0)
            ⟨v9, rs1, rfl, s7, e17, e27, hrl, fun j => by rw [if_neg (by omega)]; omega⟩ (fun t σ H8 _ _ => trivial) ?_ ?_
          · rintro t y σ H0 H8 ht ⟨v9', ms, rfl, s8, e18, e28, hml, hms⟩ yy
            obtain ⟨rfl, rfl⟩ := yy
            obtain ⟨u, hu⟩ : ∃ u, ms[a + t]? = some u := ⟨_, List.getElem?_eq_getElem (by omega)⟩
            have eu : ms.getD (a + t) 0 = u := by
              rw [List.getD_eq_getElem?_getD, hu]
              rfl
            obtain ⟨v, hv⟩ : ∃ v, bs[t]? = some v := ⟨_, List.getElem?_eq_getElem (by omega)⟩
            have ev : bs.getD t 0 = v := by
              rw [List.getD_eq_getElem?_getD, hv]
              rfl
            have bv := hb v (List.mem_of_getElem? hv)
            have eat2 : ((a : Nat) : Int) + (0 + (t : Int)) = ((a + t : Nat) : Int) := by omega
            refine ⟨_, rfl, _, rfl, _, rfl, _, _, rfl, rfl, E1, _, _, V.int u, rfl, rfl, SqL.of e18, (by rw [eat2]; exact atI_of (by rw [List.getElem?_map, hu]; rfl)), _, rfl, _, rfl, _, rfl, q, _, _, V.int v, rfl, rfl, (hq.same s8).sq, (by rw [Int.zero_add]; exact atI_of (by rw [List.getElem?_map, hv]; rfl)), _, _, rfl, rfl, (by show intBits s + intBits v ≤ 134217728; omega), _, _, rfl, rfl, ?_⟩
            refine ⟨_, rfl, _, rfl, _, rfl, _, _, rfl, rfl, E1, ms.map V.int, _, a + t, rfl, rfl, e18, (by rw [eat2]; exact ixN_of (by rw [List.length_map]; omega)), some (.int (0 + (t : Int))), ms.set (a + t) (u - s * v), rfl, fun b o e => ?_, by rw [upd_same, List.map_set], by rw [upd_ne nE.symm]; exact e28, by rw [List.length_set]; exact hml, fun j => ?_⟩
            · rw [upd_ne (ne_of_none e f1)]
              exact s8 b o e
            · rw [getD_set (by omega)]
              by_cases e : j = a + t
              · subst e
                rw [if_pos rfl, if_pos (by omega), ← eu, hms, if_neg (by omega), show a + t - a = t by omega, ev]
                omega
              · rw [if_neg e, hms j]
                by_cases c : a ≤ j ∧ j < a + t
                · rw [if_pos c, if_pos (by omega)]
                · rw [if_neg c, if_neg (by omega)]
          · rintro σ H8 ⟨v9', ms, rfl, s8, e18, e28, hml, hms⟩
            exact ⟨v9', ms, rfl, s8, e18, e28, hml, hms⟩
      rintro σ' H8 ⟨v9', rs2, rfl, s8, e18, e28, h2l, h2⟩
      obtain ⟨u, hu⟩ : ∃ u, rs2[a + m]? = some u := ⟨_, List.getElem?_eq_getElem (by omega)⟩
      refine ⟨_, rfl, .inl ⟨rfl, _, SqL.of e18⟩, E1, _, V.int u, rfl, rfl, e18, ?_, ?_⟩
      · rw [List.length_map, h2l, Nat.add_sub_cancel, List.getElem?_map, hu]
        rfl
      have hdl : ∀ j, (rs2.dropLast).getD j 0 = if j < a + m then rs2.getD j 0 else 0 := fun j => by
        rw [drop_at, h2l]
        by_cases c : j < a + m
        · rw [if_pos c, if_pos (by omega)]
        · rw [if_neg c, if_neg (by omega)]
      have step1 : (i + 1) * (d + 1) = i * (d + 1) + (d + 1) := by rw [Nat.add_mul _ 1, Nat.one_mul]
      have step2 : (i + 1) * d = i * d + d := by rw [Nat.add_mul _ 1, Nat.one_mul]
      refine ⟨E1, E2, rs2.dropLast, qs1.set a s, c1, _, _, _, v9', rfl, fun b o e => ?_, f1, f2, nE, by rw [upd_same, ← List.map_dropLast], by rw [upd_ne nE.symm]; exact e28, by rw [List.length_dropLast]; omega, by rw [List.length_set]; exact hql, fun n hn => ?_, fun n hn => ?_, hc0, by omega, fun t ht => ?_, ?_⟩
      · rw [upd_ne (ne_of_none e f1)]
        exact s8 b o e
      · obtain ⟨j, _, e⟩ := mem_getD hn
        rw [← e, hdl]
        split
        · rw [h2]
          have q1 := bits_getD hrb j
          by_cases c : a ≤ j ∧ j < a + m
          · rw [if_pos c]
            have q2 := PySem.intBits_mul_le bs_ (bits_getD hb (j - a))
            have := bits_sub q1 q2
            omega
          · rw [if_neg c, Int.sub_zero]
            omega
        · exact Nat.zero_le _
      · rcases List.mem_or_eq_of_mem_set hn with h | h
        · have := hqb n h
          omega
        · rw [h]
          omega
      · rw [getD_set (by omega), if_neg (by omega)]
        exact hqz t (by omega)
      · refine ld_step (a := a) (s := ((s : Int) : Rat)) hid (fun j => ?_) fun j => ?_
        · unfold fr
          rw [getD_set (by omega)]
          by_cases c : j = a
          · subst c
            rw [if_pos rfl, if_pos rfl, hq0]
            show _ = (0 : Rat) + _
            grind
          · rw [if_neg c, if_neg c]
            grind
        · unfold fr
          rw [hdl]
          by_cases c : j < a + m
          · rw [if_pos c, h2, Rat.intCast_sub]
            by_cases c2 : a ≤ j
            · rw [if_pos ⟨c2, c⟩, if_pos c2, Rat.intCast_mul]
            · rw [if_neg (by omega), if_neg c2]
              rfl
          · rw [if_neg c, if_pos (by omega)]
            by_cases c3 : j = a + m
            · subst c3
              rw [hx, show a + m - a = m by omega, el, ← hsl, Rat.intCast_mul]
              show (0 : Rat) = _
              grind
            · rw [show rs1.getD j 0 = 0 by
                rw [List.getD_eq_getElem?_getD, List.getElem?_eq_none (by omega)]
                rfl, show bs.getD (j - a) 0 = 0 by
                rw [List.getD_eq_getElem?_getD, List.getElem?_eq_none (by omega)]
                rfl]
              show (0 : Rat) = 0 - _ * 0
              grind
    · rintro σ H5 ⟨E1, E2, rs, qs, c, v6, v7, v8, v9, rfl, s5, f1, f2, nE, e1, e2, hrl, hql, hrb, hqb, hc0, hcb, hqz, hid⟩
      refine ⟨_, rfl, _, rfl, E1, rs, rfl, e1, by omega, fun H6 t ms s6 ht hml hmm hmf hmt => ?_⟩
      refine ⟨_, rfl, (by show 3 ≤ sizeLine; decide), fun t2 ht2 => ?_⟩
      have s7 := same_upd (o := .tup [V.ref E2, V.ref t, V.int c]) ht2
      refine k _ t2 E2 t qs ms c ((s5.trans s6).trans s7) upd_same (s7 _ _ (s6 _ _ e2)) (s7 _ _ ht) hc0 hql (by omega) hqb (fun n hn => hrb n (hmm n hn)) hcb (fun j => ?_) hmt
      rw [hid j]
      unfold fr
      rw [hmf]
end
end Ind

set_option Elab.async false
set_option linter.all false
set_option maxRecDepth 100000
set_option maxHeartbeats 4000000
namespace Ind
open PySem PySem.Spec PyProof.Rows L2
/-! ### an own operator whose error goes to a clause that looks at the slots -/
section
variable {X : Cx} {CX : CXT} {n : Nat} {C f : Addr} {fd : FuncData} {ps : List Str} {sp : Sp} {E : L2.St → XK} {a b : Expr} {ta tb : TE} {pos : Pos}
structure OwnOpS (X : Cx) (CX : CXT) (n : Nat) (C f : Addr) (m : Str) (fd : FuncData) (ps : List Str) (sp : Sp) (E : L2.St → XK) : Prop where
  fn : FnOk X.prog X.w X.K X.mg X.base CX n f fd ps sp
  at_ : PySem.W.findIn X.K (.ref C) m = some (some (.ref f))
  isf : PySem.W.isFn X.K (.ref f) = true
  b : Binds X.K fd ps []
  px : ∀ σ, PassesAt CX X σ (E σ)
  first : PySem.W.selfFirst X.K C = true
def tBinS (C : Addr) (sp : Sp) (E : L2.St → XK) (ta tb : TE) : TE := fun σ H Q => ta σ H fun x H1 => tb σ H1 fun y H2 => rBinO C sp (E σ) x y H2 Q
theorem pe_binS {op : Operator} {m : Str} (hm : PySem.dunder op.info.2 = m) (G : OwnOpS X CX n C f m fd ps sp E) (hr : Room n X.A) (ha : PE X a ta) (hb : PE X b tb) : PE X (.BinOp a op b pos) (tBinS C sp E ta tb) := by
  refine ⟨fun pins s σ H Q I h => ?_⟩
  refine wpAny_BinOp (binT ha hb I h fun v u s2 x y H2 I2 rx ry q => ?_)
  obtain ⟨a, dx, fs, b, dy, gs, rfl, rfl, ha, hb, q⟩ := q
  cases (show v = Value.ref a from rx)
  cases (show u = Value.ref b from ry)
  obtain ⟨mA, O, _⟩ := ins_get I2.hok ha
  obtain ⟨od, J, _⟩ := O.look
  obtain ⟨mB, O2, _⟩ := ins_get I2.hok hb
  obtain ⟨od2, J2, _⟩ := O2.look
  obtain ⟨mm, hF⟩ := I2.fr
  refine PySem.W.binop_K hF I2.ok.mod.kin J J2.type G.first (by rw [hm]; exact G.at_) G.isf ?_
  refine wpAny_mono (run_fnS (us := [.ref a, .ref b]) (vs := [.ref a, .ref b]) G.fn hr G.b (G.px σ) I2 (.cons rfl (.cons rfl .nil)) q) (fun w s' z => ?_) fun _ _ e => e
  obtain ⟨z', H', I', rz, qz⟩ := z
  have fin : EP X pins σ Q w s' := ⟨z', H', I', rz, qz⟩
  cases z' with
  | non => cases rz; exact fin
  | bl _ => cases rz; exact fin
  | int _ => obtain ⟨_, rfl⟩ := rz; exact fin
  | str _ => obtain ⟨_, rfl⟩ := rz; exact fin
  | byt _ => obtain ⟨_, rfl⟩ := rz; exact fin
  | flt _ => obtain ⟨_, rfl⟩ := rz; exact fin
  | ref _ => cases rz; exact fin
  | ty _ => cases rz; exact fin
end
end Ind

set_option Elab.async false
set_option linter.all false
set_option maxRecDepth 100000
set_option maxHeartbeats 4000000
set_option exponentiation.threshold 9000
namespace Ind
open PySem PySem.Spec PyProof.Rows L2
open Builtin.Int (intBits)
abbrev sPDg : Stmt := inClass (top 34) 10
abbrev sPIz : Stmt := inClass (top 34) 11
abbrev sPDb : Stmt := inClass (top 34) 23
abbrev sPFd : Stmt := inClass (top 34) 5
abbrev sPMd : Stmt := inClass (top 34) 6
abbrev sPEq : Stmt := inClass (top 34) 7
abbrev sPDs : Stmt := inClass (top 34) 21
def spPDg (C CP : Addr) : Sp := fun vs H Q _ => ∃ (p : Addr) (as : List Q2), vs = [.ref p] ∧ PolyAt C CP H p as ∧ Q (.int ((as.length : Int) - 1)) H
def spPIz (C CP : Addr) : Sp := fun vs H Q _ => ∃ (p : Addr) (as : List Q2), vs = [.ref p] ∧ PolyAt C CP H p as ∧ Q (.bl (decide (as.length = 0))) H
section
variable {P : Program} {w : World} {K : PySem.W.Frag} {mg : Str → Option Value} {base : Heap} {C Z CP : Addr}
abbrev nSf : List Str := ["self"]
theorem scPDg : FnScope nSf ["self"] (defScope sPDg) := ⟨rfl, rfl, rfl, by decide +kernel, rfl, by decide +kernel, by decide +kernel⟩
theorem scPIz : FnScope nSf ["self"] (defScope sPIz) := ⟨rfl, rfl, rfl, by decide +kernel, rfl, by decide +kernel, by decide +kernel⟩
theorem paired_len {α β : Type} {F : α → β → Prop} : ∀ {xs : List α} {ys : List β}, Paired F xs ys → xs.length = ys.length
  | _, _, .nil => rfl
  | _, _, .cons _ t => congrArg Nat.succ (paired_len t)
theorem ok_pdg {f : Addr} {fd : FuncData} (F : Fun K "degree" "Poly.degree" sPDg f fd) (T : TxL K mg) (TP : TxP K mg CP) : FnOk P w K mg base CX0 1 f fd ["self"] (spPDg C CP) := by
  refine F.ok scPDg (fun vs H Q E h => ?_) (fun cdv A outer s H vs Q E hr h => ?_)
  · obtain ⟨p, as, rfl, _⟩ := h
    rfl
  · obtain ⟨p, as, rfl, ⟨dp, rp, np, ep, ⟨pa, era, qa⟩, hnp, _⟩, k⟩ := h
    refine ⟨_, pss_one (ps_ret (pe_op op_sub (pe_callB call_len_seq (by rfl) T.len PySem.boot_len (pa_cons (pe_fld (pv 0) rfl) pa_nil)) pe_int)), ?_⟩
    refine ⟨_, rfl, p, CP, dp, _, _, rfl, ep, TP.cl, TP.nR, pf_row _ _ _, rp, _, rfl, .inr (SqT.of era), _, _, rfl, rfl, ?_⟩
    rw [List.length_map, paired_len qa]
    exact k
theorem ok_piz {f : Addr} {fd : FuncData} (F : Fun K "is_zero" "Poly.is_zero" sPIz f fd) (T : TxL K mg) (TP : TxP K mg CP) : FnOk P w K mg base CX0 1 f fd ["self"] (spPIz C CP) := by
  refine F.ok scPIz (fun vs H Q E h => ?_) (fun cdv A outer s H vs Q E hr h => ?_)
  · obtain ⟨p, as, rfl, _⟩ := h
    rfl
  · obtain ⟨p, as, rfl, ⟨dp, rp, np, ep, ⟨pa, era, qa⟩, hnp, _⟩, k⟩ := h
    refine ⟨_, pss_one (ps_ret (pe_cmpR op_eq (pe_callB call_len_seq (by rfl) T.len PySem.boot_len (pa_cons (pe_fld (pv 0) rfl) pa_nil)) pe_int (nomark _))), ?_⟩
    refine ⟨_, rfl, p, CP, dp, _, _, rfl, ep, TP.cl, TP.nR, pf_row _ _ _, rp, _, rfl, .inr (SqT.of era), rfl, ?_⟩
    rw [List.length_map, paired_len qa]
    rw [show decide (V.int ((as.length : Nat) : Int) = V.int 0) = decide (as.length = 0) by
      by_cases e : as.length = 0
      · rw [e]; rfl
      · rw [decide_eq_false e, decide_eq_false (fun z => e (by have := V.int.inj z; omega))]]
    exact k
end
end Ind

set_option Elab.async false
set_option linter.all false
set_option maxRecDepth 100000
set_option maxHeartbeats 4000000
set_option exponentiation.threshold 9000
namespace Ind
open PySem PySem.Spec PyProof.Rows L2
open Builtin.Int (intBits)
theorem PolyAt.trim {C CP : Addr} {H : Hp} {p : Addr} {qs : List Q2} (h : PolyAt C CP H p qs) : Trim qs := let ⟨_, _, _, _, _, _, t⟩ := h; t
theorem cv_sc (a : Rat) (f h : Fr) (n : Nat) : cv (fun j => a * f j) h n = a * cv f h n := by
  have e : (fun j => a * f j) = fun j => a * f j + (fun _ => 0) j := funext fun j => by grind
  rw [e, cv_lin, cv_zl]
  grind
theorem cv_scr (a : Rat) (f h : Fr) (n : Nat) : cv f (fun j => a * h j) n = a * cv f h n := by
  rw [cv_comm, cv_sc, cv_comm]
theorem trim_top {bs : List Q2} {m : Nat} (ht : Trim bs) (lo : ∀ q ∈ bs, Lo q) (h : bs.length = m + 1) : rowF bs m ≠ 0 := by
  obtain ⟨q, hq⟩ : ∃ q, bs[m]? = some q := ⟨_, List.getElem?_eq_getElem (by omega)⟩
  have e : bs.getLast? = some q := by
    rw [List.getLast?_eq_getElem?, h]
    exact hq
  unfold rowF
  rw [getD_q hq]
  exact rv_ne (lo q (List.mem_of_getElem? hq)) (ht q e)
/-- the size of what a division gives -/
def gDv (k d L : Nat) : Nat := k + L * (d + 1) + d + 1
def gDr (k d L : Nat) : Nat := k + L * (d + 1) + 1
def spPDb (C Z CP : Addr) : Sp := fun vs H Q E => ∃ (p q : Addr) (as bs : List Q2), vs = [.ref p, .ref q] ∧ PolyAt C CP H p as ∧ PolyAt C CP H q bs ∧ (bs = [] → E (.ref Z) none H) ∧
  (bs ≠ [] → ∃ k d : Nat, PSz k as ∧ PSz d bs ∧ as.length ≤ 60 ∧ bs.length ≤ 60 ∧ gDv k d (as.length + 1 - bs.length) ≤ 40000000 ∧
    ∀ (H' : Hp) (t u v : Addr) (qs rs : List Q2), Same H H' → H' t = some (.tup [.ref u, .ref v]) → PolyAt C CP H' u qs → PolyAt C CP H' v rs → PSz (gDv k d (as.length + 1 - bs.length)) qs → PSz (gDr k d (as.length + 1 - bs.length)) rs →
      qs.length ≤ as.length + 1 - bs.length → rs.length < bs.length → (∀ j, rowF as j = cv (rowF qs) (rowF bs) j + rowF rs j) → Q (.ref t) H')
section
variable {P : Program} {w : World} {K : PySem.W.Frag} {mg : Str → Option Value} {base : Heap} {C Z CP : Addr}
abbrev nPDb : List Str := ["self", "other", "quotient", "rest", "scale", "below", "n"]
theorem scPDb : FnScope nPDb ["self", "other"] (defScope sPDb) := ⟨rfl, rfl, rfl, by decide +kernel, rfl, by decide +kernel, by decide +kernel⟩
theorem ok_pdb {f fIz fL fN fS fP : Addr} {fd fdIz fdL fdN fdS fdP : FuncData} (F : Fun K "divided_by" "Poly.divided_by" sPDb f fd) (R : TxR K mg C Z) (TP : TxP K mg CP) (O : TxO P w K mg base C CP fN fS fP fdN fdS fdP)
    (GI : FnOk P w K mg base CX0 1 fIz fdIz ["self"] (spPIz C CP)) (bI : Binds K fdIz ["self"] []) (mI : Meth K CP "is_zero" fIz)
    (GL : FnOk P w K mg base CX0 41 fL fdL ["a", "b"] spLd) (kL : PySem.W.keepIn K (.ref fL) = true) (bL : Binds K fdL ["a", "b"] []) (gL : mg "long_division" = some (.ref fL)) : FnOk P w K mg base (L2.CX P w) 46 f fd ["self", "other"] (spPDb C Z CP) := by
  refine F.okX scPDb (fun vs H Q E h => ?_) (fun cdv A outer s H vs Q E hr h => ?_)
  · obtain ⟨p, q, as, bs, rfl, _⟩ := h
    rfl
  · obtain ⟨p, q, as, bs, rfl, hpa, hpb, kz, res⟩ := h
    have h1 := hr.mono (show 1 ≤ 45 by decide)
    have h2 := hr.mono (show 41 ≤ 45 by decide)
    refine ⟨_, pss_cons (ps_if (pt_val (pe_meth0 (pv 1) TP.cl mI GI h1 bI .nil pass0)) (pss_one (ps_raise rfl (takes_of rfl rfl rfl rfl) (pmk_own PySem.F.excBase_ValueError R.xZ R.gZ R.kZ (raises_own R.bZ R.tZ) rfl))) pss_nil)
      (pss_cons (ps_asg (pe_call GL h2 (by rfl) gL kL bL .nil pass0 (pa_cons (pe_fld (pv 0) rfl) (pa_cons (pe_fld (pv 1) rfl) pa_nil))) (pg_tup (by rfl) (pgs_cons (pg_name (i := 2) scPDb.nd rfl (Or.inl rfl)) (pgs_cons (pg_name (i := 3) scPDb.nd rfl (Or.inl rfl)) (pgs_cons (pg_name (i := 4) scPDb.nd rfl (Or.inl rfl)) pgs_nil)))))
      (pss_cons (ps_set (i := 5) scPDb.nd rfl (Or.inl rfl) (pe_op op_mulB (pv 4) (pe_fld (pv 0) rfl)))
      (pss_one (ps_ret (pe_tup (pa_cons (pe_call O.fnN hr (by rfl) O.gN O.kN O.bN .nil pass0 (pa_cons (pe_lc (own := [("n", 6)]) (g := gName 6) (tt := tYes) (te := tOp (rI (fun i j => intBits i + intBits j ≤ 134217728) fun i j => .int (i * j)) (tVar 6) (tFld K (tVar 1) "_below")) rfl scPDb.nd (pi_list (pv 2)) (blkOk_by (N := nPDb) (sc := defScope sPDb) (by decide +kernel))
          (fun _ _ _ _ _ => pg_name (i := 6) scPDb.nd rfl (Or.inl rfl)) (fun _ _ _ _ _ => pts_nil) (fun _ _ _ _ _ => pe_op op_mulB (pv 6) (pe_fld (pv 1) rfl))) (pa_cons (pv 5) pa_nil))) (pa_cons (pe_call O.fnN hr (by rfl) O.gN O.kN O.bN .nil pass0 (pa_cons (pv 3) (pa_cons (pv 5) pa_nil))) pa_nil))))))), ?_⟩
    have hpa' := hpa
    have hpb' := hpb
    obtain ⟨dp, rp, np, ep, _, hnp, _⟩ := hpa'
    obtain ⟨dq, rq, nq, eq, _, hnq, htb⟩ := hpb'
    refine ⟨_, rfl, q, dq, _, rfl, eq, by rfl, q, bs, rfl, hpb, _, rfl, ite2 (fun c => ?_) (fun c => ?_)⟩
    · exact kz (List.length_eq_zero_iff.mp (of_decide_eq_true c))
    have c : ¬ bs.length = 0 := fun z => c (decide_eq_true z)
    obtain ⟨m, hm⟩ : ∃ m, bs.length = m + 1 := ⟨bs.length - 1, by omega⟩
    obtain ⟨k, d, za, zb, la, lb, hk, res⟩ := res fun e => c (by rw [e]; rfl)
    obtain ⟨ba, na⟩ := psz_lcm za
    obtain ⟨bb, nb⟩ := psz_lcm zb
    have pa := lcmD_pos za.1
    have pb := lcmD_pos zb.1
    have topb := trim_top htb zb.1 hm
    have hBa := cst_ne (show ((lcmD as : Nat) : Int) ≠ 0 by omega)
    have hBb := cst_ne (show ((lcmD bs : Nat) : Int) ≠ 0 by omega)
    have eL : as.length - m = as.length + 1 - bs.length := by omega
    obtain ⟨L, hL⟩ : ∃ L, as.length + 1 - bs.length = L := ⟨_, rfl⟩
    rw [hL] at hk res eL
    have hk' := hk
    unfold gDv at hk'
    refine ⟨_, rfl, p, CP, dp, _, _, rfl, ep, TP.cl, TP.nN, pf_num _ _ _, _, rfl, q, CP, dq, _, _, rfl, eq, TP.cl, TP.nN, pf_num _ _ _, ?_⟩
    refine ⟨np, nq, partsOf ((lcmD as : Nat) : Int) as, partsOf ((lcmD bs : Nat) : Int) bs, m, k, d, rfl, .inr hnp, .inr hnq, by rw [parts_len2]; exact hm, fun z => ?_, by rw [parts_len2]; exact la, by rw [parts_len2]; exact lb, na, nb, by rw [parts_len2, eL]; omega, fun H1 t lq lr qs rs cc s1 ht hlq hlr hc0 hql hrl hqb hrb hcb hid _ => ?_⟩
    · have e := num_fr zb.1 m
      rw [z] at e
      have : (((lcmD bs : Nat) : Int) : Rat) * rowF bs m = 0 := e.symm
      rcases Rat.mul_eq_zero.mp this with e | e
      · exact hBb e
      · exact topb e
    rw [parts_len2, eL] at hql hqb hrb hcb
    refine ⟨t, _, rfl, SqT.of ht, rfl, _, _, rfl, _, _, rfl, _, _, rfl, rfl, ?_⟩
    have ep1 := s1 _ _ ep
    have eq1 := s1 _ _ eq
    have hLd : L * (d + 1) = L * d + L := by rw [Nat.mul_add, Nat.mul_one]
    have hB0 : cc * ((lcmD as : Nat) : Int) ≠ 0 := Int.mul_ne_zero (by omega) (by omega)
    have bB := PySem.intBits_mul_le hcb ba
    refine ⟨_, rfl, _, rfl, p, CP, dp, _, _, rfl, ep1, TP.cl, TP.nB, pf_bel _ _ _, _, _, rfl, rfl, (by show intBits cc + intBits _ ≤ 134217728; omega), ?_⟩
    refine ⟨_, rfl, lq, rfl, ⟨_, SqL.of hlq⟩, fun D hD => lc_list (K := K) (a := lq) (xs := qs.map V.int) (fun i H2 => ColI D H1 H2 ((qs.take i).map fun n => n * ((lcmD bs : Nat) : Int))) (ColI.start hD) (fun i H2 _ z => z.s.seq (SqL.of hlq)) ?_ ?_⟩
    · rintro i x H2 hx z
      obtain ⟨n, hn, rfl⟩ := int_of hx
      have hi := (List.getElem?_eq_some_iff.mp hn).1
      have bn := hqb n (List.mem_of_getElem? hn)
      refine ⟨rfl, _, rfl, _, rfl, q, CP, dq, _, _, rfl, z.s _ _ eq1, TP.cl, TP.nB, pf_bel _ _ _, _, _, rfl, rfl, (by show intBits n + intBits _ ≤ 134217728; omega), ?_⟩
      rw [map_take_snoc hn]
      refine z.push hD same_rfl ?_
      rw [List.length_map, List.length_take]
      omega
    rintro H2 z
    rw [List.length_map, List.take_length] at z
    have hbn : ∀ u ∈ qs.map fun n => n * ((lcmD bs : Nat) : Int), intBits u ≤ gDv k d L := fun u hu => by
      obtain ⟨n, hn, rfl⟩ := List.mem_map.mp hu
      have := PySem.intBits_mul_le (hqb n hn) bb
      unfold gDv
      omega
    have hbr : ∀ u ∈ rs, intBits u ≤ gDv k d L := fun u hu => by
      have := hrb u hu
      unfold gDv
      omega
    have hbB : intBits (cc * ((lcmD as : Nat) : Int)) ≤ gDv k d L := by
      unfold gDv
      omega
    refine ⟨_, rfl, D, _, _, gDv k d L, rfl, .inl z.at_, hB0, by rw [List.length_map]; omega, hbB, hbn, hk, fun H3 u s3 hu => ?_⟩
    have hlr3 := s3 _ _ (z.s _ _ hlr)
    refine ⟨_, rfl, _, rfl, lr, rs, _, gDv k d L, rfl, .inl hlr3, hB0, by omega, hbB, hbr, hk, fun H4 v s4 hv => ?_⟩
    refine ⟨(by show 2 ≤ sizeLine; decide), fun t2 ht2 => ?_⟩
    have s5 := same_upd (o := .tup [V.ref u, V.ref v]) ht2
    have q1 := over_psz hB0 (ns := qs.map fun n => n * ((lcmD bs : Nat) : Int)) (by rw [List.length_map]; omega) hbB hbn
    have hbr2 : ∀ u ∈ rs, intBits u ≤ gDr k d L := fun u hu => by
      have := hrb u hu
      unfold gDr
      omega
    have hbB2 : intBits (cc * ((lcmD as : Nat) : Int)) ≤ gDr k d L := by
      unfold gDr
      omega
    have q2 := over_psz hB0 (ns := rs) (by omega) hbB2 hbr2
    have l1 := trim_len (overQ (cc * ((lcmD as : Nat) : Int)) (qs.map fun n => n * ((lcmD bs : Nat) : Int)))
    have l2 := trim_len (overQ (cc * ((lcmD as : Nat) : Int)) rs)
    rw [over_len, List.length_map] at l1
    rw [over_len] at l2
    refine res _ t2 u v _ _ ((((s1.trans z.s).trans s3).trans s4).trans s5) upd_same ((PolyAt.stb C CP).same (s4.trans s5) hu) ((PolyAt.stb C CP).same s5 hv) (psz_sub q1 (fun q hq => trim_mem hq) (trim_len _)) (psz_sub q2 (fun q hq => trim_mem hq) (trim_len _)) (by omega) (by omega) fun j => ?_
    have hcc := cst_ne (show cc ≠ 0 by omega)
    have e1 : rowF (trimQ (overQ (cc * ((lcmD as : Nat) : Int)) (qs.map fun n => n * ((lcmD bs : Nat) : Int)))) = fun t => ((((lcmD bs : Nat) : Int) : Rat) / (((cc * ((lcmD as : Nat) : Int) : Int)) : Rat)) * fr qs t := funext fun t => by
      rw [trim_row, over_row hB0, getD_map (f := fun n => n * ((lcmD bs : Nat) : Int)) (by omega), Rat.intCast_mul]
      show _ = _ * ((qs.getD t 0 : Int) : Rat)
      have := cst_ne hB0
      grind
    have e2 : fr (partsOf ((lcmD bs : Nat) : Int) bs) = fun t => (((lcmD bs : Nat) : Int) : Rat) * rowF bs t := funext fun t => num_fr zb.1 t
    have e3 := hid j
    rw [e2, cv_scr] at e3
    rw [show fr (partsOf ((lcmD as : Nat) : Int) as) j = (((lcmD as : Nat) : Int) : Rat) * rowF as j from num_fr za.1 j] at e3
    rw [e1, cv_sc, trim_row, over_row hB0]
    have e4 : fr rs j = ((rs.getD j 0 : Int) : Rat) := rfl
    rw [e4] at e3
    rw [Rat.intCast_mul]
    generalize cv (fr qs) (rowF bs) j = X at e3 ⊢
    generalize ((rs.getD j 0 : Int) : Rat) = Y at e3 ⊢
    generalize ((cc : Int) : Rat) = c1 at e3 hcc ⊢
    generalize (((lcmD as : Nat) : Int) : Rat) = a1 at e3 hBa ⊢
    generalize (((lcmD bs : Nat) : Int) : Rat) = b1 at e3 hBb ⊢
    have : rowF as j = (b1 * X + Y) / (c1 * a1) := by
      rw [← e3]
      grind
    rw [this]
    grind
end
end Ind

set_option Elab.async false
set_option linter.all false
set_option maxRecDepth 100000
set_option maxHeartbeats 4000000
set_option exponentiation.threshold 9000
namespace Ind
open PySem PySem.Spec PyProof.Rows L2
open Builtin.Int (intBits)
/-- sizes at which a division is told -/
structure DvSz (k d : Nat) (as bs : List Q2) : Prop where
  a : PSz k as
  b : PSz d bs
  la : as.length ≤ 60
  lb : bs.length ≤ 60
  le : gDv k d (as.length + 1 - bs.length) ≤ 40000000
/-- quotient and remainder -/
structure DvOk (k d : Nat) (as bs qs rs : List Q2) : Prop where
  q : PSz (gDv k d (as.length + 1 - bs.length)) qs
  r : PSz (gDr k d (as.length + 1 - bs.length)) rs
  tq : Trim qs
  tr : Trim rs
  lq : qs.length ≤ as.length + 1 - bs.length
  lr : rs.length < bs.length
  id : ∀ j, rowF as j = cv (rowF qs) (rowF bs) j + rowF rs j
def spDv2 (C Z CP : Addr) : Sp := fun vs H Q E => ∃ (p q : Addr) (as bs : List Q2), vs = [.ref p, .ref q] ∧ PolyAt C CP H p as ∧ PolyAt C CP H q bs ∧ (bs = [] → E (.ref Z) none H) ∧
  (bs ≠ [] → ∃ k d : Nat, DvSz k d as bs ∧ ∀ (H' : Hp) (t u v : Addr) (qs rs : List Q2), Same H H' → H' t = some (.tup [.ref u, .ref v]) → PolyAt C CP H' u qs → PolyAt C CP H' v rs → DvOk k d as bs qs rs → Q (.ref t) H')
def spFd (C Z CP : Addr) : Sp := fun vs H Q E => ∃ (p q : Addr) (as bs : List Q2), vs = [.ref p, .ref q] ∧ PolyAt C CP H p as ∧ PolyAt C CP H q bs ∧ (bs = [] → E (.ref Z) none H) ∧
  (bs ≠ [] → ∃ k d : Nat, DvSz k d as bs ∧ ∀ (H' : Hp) (u : Addr) (qs rs : List Q2), Same H H' → PolyAt C CP H' u qs → DvOk k d as bs qs rs → Q (.ref u) H')
def spMd (C Z CP : Addr) : Sp := fun vs H Q E => ∃ (p q : Addr) (as bs : List Q2), vs = [.ref p, .ref q] ∧ PolyAt C CP H p as ∧ PolyAt C CP H q bs ∧ (bs = [] → E (.ref Z) none H) ∧
  (bs ≠ [] → ∃ k d : Nat, DvSz k d as bs ∧ ∀ (H' : Hp) (u : Addr) (qs rs : List Q2), Same H H' → PolyAt C CP H' u rs → DvOk k d as bs qs rs → Q (.ref u) H')
def spDs (C CP : Addr) : Sp := fun vs H Q _ => ∃ (p q : Addr) (as bs : List Q2), vs = [.ref p, .ref q] ∧ PolyAt C CP H p bs ∧ PolyAt C CP H q as ∧ (bs = [] → Q (.bl (decide (as.length = 0))) H) ∧
  (bs ≠ [] → ∃ k d : Nat, DvSz k d as bs ∧ ∀ (H' : Hp) (qs rs : List Q2), Same H H' → DvOk k d as bs qs rs → Q (.bl (decide (rs.length = 0))) H')
def spEqP (C CP : Addr) : Sp := fun vs H Q _ => ∃ (p q : Addr) (as : List Q2), vs = [.ref p, .ref q] ∧ PolyAt C CP H p as ∧ PolyAt C CP H q as ∧ Q (.bl true) H
def iD (n : Int) : PyData := .int n
theorem dp_ints {K : PySem.W.Frag} {H : Hp} : ∀ ns : List Int, DpAll K H (ns.map V.int) (ns.map iD)
  | [] => .nil
  | n :: ns => .cons (.int n) (dp_ints ns)
theorem iDs_lay : ∀ ns : List Int, PyData.canLayAll0 (ns.map iD) = true
  | [] => by simp [PyData.canLayAll0]
  | n :: ns => by simp [PyData.canLayAll0, iDs_lay ns, iD, PyData.canLay0]
theorem iDs_depth : ∀ ns : List Int, PyData.depthAll (ns.map iD) ≤ 1
  | [] => by simp [PyData.depthAll]
  | n :: ns => by
    have := iDs_depth ns
    simp only [List.map_cons, PyData.depthAll, iD, PyData.depth]
    omega
theorem shape_ints (ns : List Int) : SeqAt.shaped (.tuple (ns.map iD)) = true := by
  have := iDs_depth ns
  show ((PyData.tuple (ns.map iD)).canLay0 && decide ((PyData.tuple (ns.map iD)).depth ≤ 64)) = true
  rw [Bool.and_eq_true]
  exact ⟨by simp only [PyData.canLay0]; exact iDs_lay ns, decide_eq_true (by simp only [PyData.depth]; omega)⟩
section
variable {P : Program} {w : World} {K : PySem.W.Frag} {mg : Str → Option Value} {base : Heap} {C Z CP : Addr}
theorem dv2 {f : Addr} {fd : FuncData} (h : FnOk P w K mg base (L2.CX P w) 46 f fd ["self", "other"] (spPDb C Z CP)) : FnOk P w K mg base (L2.CX P w) 46 f fd ["self", "other"] (spDv2 C Z CP) :=
  h.imp fun vs H Q E ⟨p, q, as, bs, e, ha, hb, kz, k⟩ => ⟨p, q, as, bs, e, ha, hb, kz, fun c => let ⟨k1, d, z, r⟩ := k c; ⟨k1, d, z.a, z.b, z.la, z.lb, z.le, fun H' t u v qs rs s ht hu hv q1 q2 q3 q4 q5 => r H' t u v qs rs s ht hu hv ⟨q1, q2, hu.trim, hv.trim, q3, q4, q5⟩⟩⟩
abbrev nSO : List Str := ["self", "other"]
theorem scFd : FnScope nSO ["self", "other"] (defScope sPFd) := ⟨rfl, rfl, rfl, by decide +kernel, rfl, by decide +kernel, by decide +kernel⟩
theorem scMd : FnScope nSO ["self", "other"] (defScope sPMd) := ⟨rfl, rfl, rfl, by decide +kernel, rfl, by decide +kernel, by decide +kernel⟩
theorem ok_fd {f fD : Addr} {fd fdD : FuncData} (F : Fun K "__floordiv__" "Poly.__floordiv__" sPFd f fd) (TP : TxP K mg CP) (GD : FnOk P w K mg base (L2.CX P w) 46 fD fdD ["self", "other"] (spDv2 C Z CP)) (bD : Binds K fdD ["self", "other"] []) (mD : Meth K CP "divided_by" fD) : FnOk P w K mg base (L2.CX P w) 47 f fd ["self", "other"] (spFd C Z CP) := by
  refine F.okX scFd (fun vs H Q E h => ?_) (fun cdv A outer s H vs Q E hr h => ?_)
  · obtain ⟨p, q, as, bs, rfl, _⟩ := h
    rfl
  · obtain ⟨p, q, as, bs, rfl, hpa, hpb, kz, res⟩ := h
    refine ⟨_, pss_one (ps_ret (pe_ix ix_tup (pe_meth (E := E) (pv 0) TP.cl mD GD hr bD .nil (passes_call (takes_of rfl rfl rfl rfl) fun _ _ _ _ h => h) (pa_cons (pv 1) pa_nil)) pe_int fun _ _ => rfl)), ?_⟩
    have hpa' := hpa
    obtain ⟨dp, rp, np, ep, _⟩ := hpa'
    refine ⟨_, rfl, p, dp, _, rfl, ep, by rfl, _, rfl, p, q, as, bs, rfl, hpa, hpb, kz, fun c => ?_⟩
    obtain ⟨k, d, z, r⟩ := res c
    exact ⟨k, d, z, fun H' t u v qs rs s ht hu hv ok => ⟨t, _, _, V.ref u, rfl, rfl, SqT.of ht, atI_of (k := 0) rfl, r H' u qs rs s hu ok⟩⟩
theorem ok_md {f fD : Addr} {fd fdD : FuncData} (F : Fun K "__mod__" "Poly.__mod__" sPMd f fd) (TP : TxP K mg CP) (GD : FnOk P w K mg base (L2.CX P w) 46 fD fdD ["self", "other"] (spDv2 C Z CP)) (bD : Binds K fdD ["self", "other"] []) (mD : Meth K CP "divided_by" fD) : FnOk P w K mg base (L2.CX P w) 47 f fd ["self", "other"] (spMd C Z CP) := by
  refine F.okX scMd (fun vs H Q E h => ?_) (fun cdv A outer s H vs Q E hr h => ?_)
  · obtain ⟨p, q, as, bs, rfl, _⟩ := h
    rfl
  · obtain ⟨p, q, as, bs, rfl, hpa, hpb, kz, res⟩ := h
    refine ⟨_, pss_one (ps_ret (pe_ix ix_tup (pe_meth (E := E) (pv 0) TP.cl mD GD hr bD .nil (passes_call (takes_of rfl rfl rfl rfl) fun _ _ _ _ h => h) (pa_cons (pv 1) pa_nil)) pe_int fun _ _ => rfl)), ?_⟩
    have hpa' := hpa
    obtain ⟨dp, rp, np, ep, _⟩ := hpa'
    refine ⟨_, rfl, p, dp, _, rfl, ep, by rfl, _, rfl, p, q, as, bs, rfl, hpa, hpb, kz, fun c => ?_⟩
    obtain ⟨k, d, z, r⟩ := res c
    exact ⟨k, d, z, fun H' t u v qs rs s ht hu hv ok => ⟨t, _, _, V.ref v, rfl, rfl, SqT.of ht, atI_of (k := 1) rfl, r H' v qs rs s hv ok⟩⟩
/-- an own operator that may raise, where it stands -/
structure OwnR (P : Program) (w : World) (K : PySem.W.Frag) (mg : Str → Option Value) (base : Heap) (CP : Addr) (m : Str) (sp : Sp) (f : Addr) (fd : FuncData) : Prop where
  fn : FnOk P w K mg base (L2.CX P w) 47 f fd ["self", "other"] sp
  at_ : PySem.W.findIn K (.ref CP) m = some (some (.ref f))
  isf : PySem.W.isFn K (.ref f) = true
  b : Binds K fd ["self", "other"] []
  first : PySem.W.selfFirst K CP = true
abbrev nSQ : List Str := ["self", "q"]
theorem scDs : FnScope nSQ ["self", "q"] (defScope sPDs) := ⟨rfl, rfl, rfl, by decide +kernel, rfl, by decide +kernel, by decide +kernel⟩
theorem ok_ds {f fIz fM : Addr} {fd fdIz fdM : FuncData} (F : Fun K "divides" "Poly.divides" sPDs f fd) (TP : TxP K mg CP)
    (GI : FnOk P w K mg base CX0 1 fIz fdIz ["self"] (spPIz C CP)) (bI : Binds K fdIz ["self"] []) (mI : Meth K CP "is_zero" fIz) (OM : OwnR P w K mg base CP "__mod__" (spMd C Z CP) fM fdM) : FnOk P w K mg base CX0 48 f fd ["self", "q"] (spDs C CP) := by
  refine F.ok scDs (fun vs H Q E h => ?_) (fun cdv A outer s H vs Q E hr h => ?_)
  · obtain ⟨p, q, as, bs, rfl, _⟩ := h
    rfl
  · obtain ⟨p, q, as, bs, rfl, hpb, hpa, kz, res⟩ := h
    have h1 := hr.mono (show 1 ≤ 47 by decide)
    refine ⟨_, pss_cons (ps_if (pt_val (pe_meth0 (pv 0) TP.cl mI GI h1 bI .nil pass0)) (pss_one (ps_ret (pe_meth0 (pv 1) TP.cl mI GI h1 bI .nil pass0))) pss_nil)
      (pss_one (ps_ret (pe_meth0 (pe_op (op_binO (E := E0) (m := "__mod__") (by rfl) ⟨OM.fn, OM.at_, OM.isf, OM.b, passL, OM.first⟩ hr) (pv 1) (pv 0)) TP.cl mI GI h1 bI .nil pass0))), ?_⟩
    have hpa' := hpa
    have hpb' := hpb
    obtain ⟨da, _, _, ea, _⟩ := hpa'
    obtain ⟨db, _, _, eb, _⟩ := hpb'
    refine ⟨_, rfl, p, db, _, rfl, eb, by rfl, p, bs, rfl, hpb, _, rfl, ite2 (fun c => ?_) (fun c => ?_)⟩
    · exact ⟨_, rfl, q, da, _, rfl, ea, by rfl, q, as, rfl, hpa, kz (List.length_eq_zero_iff.mp (of_decide_eq_true c))⟩
    have c : bs ≠ [] := fun z => c (decide_eq_true (by rw [z]; rfl))
    obtain ⟨k, d, z, r⟩ := res c
    refine ⟨_, rfl, _, rfl, q, da, _, p, db, _, rfl, rfl, ea, eb, q, p, as, bs, rfl, hpa, hpb, fun z => absurd z c, fun _ => ⟨k, d, z, fun H' u qs rs s hu ok => ?_⟩⟩
    have hu' := hu
    obtain ⟨du, _, _, eu, _⟩ := hu'
    exact ⟨u, du, _, rfl, eu, by rfl, u, rs, rfl, hu, r H' qs rs s ok⟩
theorem scEqP : FnScope nSO ["self", "other"] (defScope sPEq) := ⟨rfl, rfl, rfl, by decide +kernel, rfl, by decide +kernel, by decide +kernel⟩
theorem ok_eqp {f : Addr} {fd : FuncData} (F : Fun K "__eq__" "Poly.__eq__" sPEq f fd) (T : TxL K mg) (TP : TxP K mg CP) (I : TxI K CP) : FnOk P w K mg base CX0 1 f fd ["self", "other"] (spEqP C CP) := by
  refine F.ok scEqP (fun vs H Q E h => ?_) (fun cdv A outer s H vs Q E hr h => ?_)
  · obtain ⟨p, q, as, rfl, _⟩ := h
    rfl
  · obtain ⟨p, q, as, rfl, ⟨dp, rp, np, ep, _, hnp, _⟩, ⟨dq, rq, nq, eq, _, hnq, _⟩, k⟩ := h
    refine ⟨_, pss_one (ps_ret (pe_and (pe_callB call_isi (by rfl) T.isinstance boot_isi (pa_cons (pv 1) (pa_cons (pe_glob (v := .ref CP) rfl TP.mgP rfl) pa_nil)))
      (pe_and (pe_cmpR (op_eqD hr.units) (pe_fld (pv 0) rfl) (pe_fld (pv 1) rfl) (nomark _)) (pe_one (pe_cmpR op_eq (pe_fld (pv 0) rfl) (pe_fld (pv 1) rfl) (nomark _)))))), ?_⟩
    refine ⟨_, rfl, _, _, _, _, true, rfl, ClsV.own CP, .base (.ins eq TP.cl I.ha I.hn I.ht I.hm), I.kC, true, rfl, iteT ?_⟩
    refine ⟨_, rfl, p, CP, dp, _, _, rfl, ep, TP.cl, TP.nN, pf_num _ _ _, _, rfl, q, CP, dq, _, _, rfl, eq, TP.cl, TP.nN, pf_num _ _ _, .tuple ((partsOf ((lcmD as : Nat) : Int) as).map iD), .tuple ((partsOf ((lcmD as : Nat) : Int) as).map iD), .tup (SqT.of hnp) (dp_ints _), .tup (SqT.of hnq) (dp_ints _), shape_ints _, shape_ints _, _, rfl, ?_⟩
    rw [SeqAt.eqv_refl _ (SeqAt.canLay_of_shaped (shape_ints _))]
    refine iteT ⟨_, rfl, p, CP, dp, _, _, rfl, ep, TP.cl, TP.nB, pf_bel _ _ _, _, rfl, q, CP, dq, _, _, rfl, eq, TP.cl, TP.nB, pf_bel _ _ _, rfl, ?_⟩
    rw [show decide (V.int ((lcmD as : Nat) : Int) = V.int ((lcmD as : Nat) : Int)) = true from decide_eq_true rfl]
    exact k
end
end Ind

set_option Elab.async false
set_option linter.all false
set_option maxRecDepth 100000
set_option maxHeartbeats 4000000
namespace Ind
open PySem PySem.Spec PyProof.Rows L2
open Builtin.Int (intBits)
abbrev sRat : Stmt := top 99
abbrev sAdd : Stmt := top 99
abbrev sMul : Stmt := top 99
/-- sizes far below the most -/
def Bd (x : Int) : Prop := intBits x ≤ 30000000
theorem bd2 {x y : Int} (h1 : Bd x) (h2 : Bd y) : intBits x + intBits y ≤ 134217728 := by
  unfold Bd at h1 h2
  omega
def PairAt (H : Hp) (p : Addr) (a b : Int) : Prop := H p = some (.tup [.int a, .int b])
theorem PairAt.same {H H' : Hp} {p : Addr} {a b : Int} (x : PairAt H p a b) (s : Same H H') : PairAt H' p a b := s _ _ x
def spRatT : Sp := fun vs H Q _ => ∃ n d : Int, vs = [.int n, .int d] ∧ d ≠ 0 ∧ ∀ (H' : Hp) (t : Addr), Same H H' → PairAt H' t (nN n d) (nD n d) → Q (.ref t) H'
def spAddT : Sp := fun vs H Q _ => ∃ (p q : Addr) (a b c d : Int), vs = [.ref p, .ref q] ∧ PairAt H p a b ∧ PairAt H q c d ∧ b ≠ 0 ∧ d ≠ 0 ∧ Bd a ∧ Bd b ∧ Bd c ∧ Bd d ∧
  ∀ (H' : Hp) (t : Addr), Same H H' → PairAt H' t (nN (a * d + c * b) (b * d)) (nD (a * d + c * b) (b * d)) → Q (.ref t) H'
def spMulT : Sp := fun vs H Q _ => ∃ (p q : Addr) (a b c d : Int), vs = [.ref p, .ref q] ∧ PairAt H p a b ∧ PairAt H q c d ∧ b ≠ 0 ∧ d ≠ 0 ∧ Bd a ∧ Bd b ∧ Bd c ∧ Bd d ∧
  ∀ (H' : Hp) (t : Addr), Same H H' → PairAt H' t (nN (a * c) (b * d)) (nD (a * c) (b * d)) → Q (.ref t) H'
section
variable {P : Program} {w : World} {K : PySem.W.Frag} {mg : Str → Option Value} {base : Heap} {C Z : Addr}
end
end Ind

set_option Elab.async false
set_option linter.all false
set_option maxRecDepth 100000
set_option maxHeartbeats 4000000
set_option exponentiation.threshold 9000
namespace Ind
open PySem PySem.Spec PyProof.Rows L2
open Builtin.Int (intBits)
abbrev sSm : Stmt := top 99
/-! ### the law's sums and products over pairs -/
def Bg (q : Q2) : Prop := Bd q.1 ∧ Bd q.2
theorem Bq.bg {m : Nat} {q : Q2} (h : Bq m q) (l : m ≤ 30000000) : Bg q := ⟨Nat.le_trans h.1 l, Nat.le_trans h.2 l⟩
def spRatQ : Sp := fun vs H Q _ => ∃ n d : Int, vs = [.int n, .int d] ∧ d ≠ 0 ∧ ∀ (H' : Hp) (t : Addr), Same H H' → PairQ H' t (mkq n d) → Q (.ref t) H'
def spAddQ : Sp := fun vs H Q _ => ∃ (p r : Addr) (a b : Q2), vs = [.ref p, .ref r] ∧ PairQ H p a ∧ PairQ H r b ∧ a.2 ≠ 0 ∧ b.2 ≠ 0 ∧ Bg a ∧ Bg b ∧ ∀ (H' : Hp) (t : Addr), Same H H' → PairQ H' t (addq a b) → Q (.ref t) H'
def spMulQ : Sp := fun vs H Q _ => ∃ (p r : Addr) (a b : Q2), vs = [.ref p, .ref r] ∧ PairQ H p a ∧ PairQ H r b ∧ a.2 ≠ 0 ∧ b.2 ≠ 0 ∧ Bg a ∧ Bg b ∧ ∀ (H' : Hp) (t : Addr), Same H H' → PairQ H' t (mulq a b) → Q (.ref t) H'
/-- data of pairs -/
def pD (q : Q2) : PyData := .tuple [.int q.1, .int q.2]
theorem dp_pair {K : PySem.W.Frag} {H : Hp} {p : Addr} {q : Q2} (h : PairQ H p q) : Dp K H (.ref p) (pD q) := .tup (SqT.of h) (.cons (.int _) (.cons (.int _) .nil))
theorem dp_all {β : Type} {K : PySem.W.Frag} {H : Hp} {F : FH β} {D : β → PyData} (hF : ∀ p b, F H p b → Dp K H (.ref p) (D b)) : ∀ {ps : List Addr} {bs : List β}, Paired (F H) ps bs → DpAll K H (ps.map V.ref) (bs.map D)
  | _, _, .nil => .nil
  | _, _, .cons a t => .cons (hF _ _ a) (dp_all hF t)
theorem pDs_lay : ∀ qs : List Q2, PyData.canLayAll0 (qs.map pD) = true
  | [] => by simp [PyData.canLayAll0]
  | q :: qs => by simp [PyData.canLayAll0, pDs_lay qs, pD, PyData.canLay0]
theorem pDs_depth : ∀ qs : List Q2, PyData.depthAll (qs.map pD) ≤ 1
  | [] => by simp [PyData.depthAll]
  | q :: qs => by
    have := pDs_depth qs
    simp only [List.map_cons, PyData.depthAll, pD, PyData.depth]
    omega
theorem shape_of {d : PyData} (h1 : d.canLay0 = true) (h2 : d.depth ≤ 64) : SeqAt.shaped d = true := by
  show (d.canLay0 && decide (d.depth ≤ 64)) = true
  rw [Bool.and_eq_true]
  exact ⟨h1, decide_eq_true h2⟩
theorem shape_list (qs : List Q2) : SeqAt.shaped (.list (qs.map pD)) = true := by
  have := pDs_depth qs
  exact shape_of (by simp only [PyData.canLay0]; exact pDs_lay qs) (by simp only [PyData.depth]; omega)
theorem shape_tup (qs : List Q2) : SeqAt.shaped (.tuple (qs.map pD)) = true := by
  have := pDs_depth qs
  exact shape_of (by simp only [PyData.canLay0]; exact pDs_lay qs) (by simp only [PyData.depth]; omega)
theorem shape_pair (q : Q2) : SeqAt.shaped (pD q) = true := shape_of (by simp [pD, PyData.canLay0, PyData.canLayAll0]) (by simp [pD, PyData.depth, PyData.depthAll])
theorem eqv_shape {d : PyData} (h : SeqAt.shaped d = true) : PyData.eqv d d = true := SeqAt.eqv_refl d (SeqAt.canLay_of_shaped h)
theorem none_in : ∀ qs : List Q2, ((qs.map pD).any fun z => PyData.eqv z .none) = false
  | [] => rfl
  | q :: qs => by
    rw [List.map_cons, List.any_cons, none_in qs]
    rfl
def spPairs (C : Addr) : Sp := fun vs H Q _ => ∃ (p : Addr) (qs : List Q2) (n : Nat), vs = [.ref p, .int (n : Int)] ∧ Tp (RatQ C) H p qs ∧ qs.length = n ∧ (∀ q ∈ qs, Lo q) ∧ n ≤ 100 ∧ ∀ (H' : Hp) (t : Addr), Same H H' → Tp PairQ H' t qs → Q (.ref t) H'
/-- a list or a tuple of pairs -/
def PLT : FH (List Q2) := fun H p qs => Ls PairQ H p qs ∨ Tp PairQ H p qs
theorem PLT.same {H H' : Hp} {p : Addr} {qs : List Q2} (s : Same H H') (x : PLT H p qs) : PLT H' p qs := x.imp (Ls.same PairQ.stb s) (VecP.stb.same s)
def spRts (C : Addr) : Sp := fun vs H Q _ => ∃ (p : Addr) (qs : List Q2), vs = [.ref p] ∧ PLT H p qs ∧ (∀ q ∈ qs, Lo q) ∧ qs.length ≤ 100 ∧ ∀ (H' : Hp) (t : Addr), Same H H' → Tp (RatQ C) H' t qs → Q (.ref t) H'
/-- a small number -/
structure Sm (q : Q2) : Prop where
  lo : Lo q
  bq : Bq 4 q
  dv : q.2 ∣ 60
def smq (n d : Int) : Q2 := mkq (n.fmod 19 - 9) (d.fmod 5 + 1)
theorem small_dvd {e : Int} (h : 0 < e) (h2 : e ≤ 5) : e ∣ 60 := by
  rcases (show e = 1 ∨ e = 2 ∨ e = 3 ∨ e = 4 ∨ e = 5 by omega) with rfl | rfl | rfl | rfl | rfl <;> decide
theorem sm_mk (n d : Int) : Sm (smq n d) := by
  have h1 := fmod_in (x := n) (b := 19) (by decide)
  have h2 := fmod_in (x := d) (b := 5) (by decide)
  have hd : d.fmod 5 + 1 ≠ 0 := by omega
  refine ⟨lo_mk hd, bq_mk (PySem.intBits_le_iff.mpr (by omega)) (PySem.intBits_le_iff.mpr (by omega)), ?_⟩
  have h3 := nD_pos (n := n.fmod 19 - 9) hd
  have e := nD_mul (n := n.fmod 19 - 9) hd
  have h4 : nD (n.fmod 19 - 9) (d.fmod 5 + 1) ∣ d.fmod 5 + 1 := ⟨_, e⟩
  have h5 := Int.le_of_dvd (by omega) h4
  exact small_dvd h3 (by show nD _ _ ≤ 5; omega)
def spSm : Sp := fun vs H Q _ => ∃ n d : Int, vs = [.int n, .int d] ∧ ∀ (H' : Hp) (t : Addr), Same H H' → PairQ H' t (smq n d) → Q (.ref t) H'
section
variable {P : Program} {w : World} {K : PySem.W.Frag} {mg : Str → Option Value} {base : Heap} {C Z CM : Addr}
theorem ratQ {f : Addr} {fd : FuncData} (h : FnOk P w K mg base CX0 41 f fd ["n", "d"] spRatT) : FnOk P w K mg base CX0 41 f fd ["n", "d"] spRatQ :=
  h.imp fun vs H Q E ⟨n, d, e, hd, k⟩ => ⟨n, d, e, hd, fun H' t s z => k H' t s z⟩
theorem addQ {f : Addr} {fd : FuncData} (h : FnOk P w K mg base CX0 42 f fd ["a", "b"] spAddT) : FnOk P w K mg base CX0 42 f fd ["a", "b"] spAddQ :=
  h.imp fun vs H Q E ⟨p, r, a, b, e, h1, h2, h3, h4, h5, h6, k⟩ => ⟨p, r, a.1, a.2, b.1, b.2, e, h1, h2, h3, h4, h5.1, h5.2, h6.1, h6.2, fun H' t s z => k H' t s z⟩
theorem mulQ {f : Addr} {fd : FuncData} (h : FnOk P w K mg base CX0 42 f fd ["a", "b"] spMulT) : FnOk P w K mg base CX0 42 f fd ["a", "b"] spMulQ :=
  h.imp fun vs H Q E ⟨p, r, a, b, e, h1, h2, h3, h4, h5, h6, k⟩ => ⟨p, r, a.1, a.2, b.1, b.2, e, h1, h2, h3, h4, h5.1, h5.2, h6.1, h6.2, fun H' t s z => k H' t s z⟩
end
end Ind

set_option Elab.async false
set_option linter.all false
set_option maxRecDepth 100000
set_option maxHeartbeats 4000000
set_option exponentiation.threshold 9000
namespace Ind
open PySem PySem.Spec PyProof.Rows L2
open Builtin.Int (intBits)
theorem psz_mono {k m : Nat} {qs : List Q2} (h : PSz k qs) (hk : k ≤ m) : PSz m qs := by
  obtain ⟨lo, l, M, m0, mb, hm⟩ := h
  exact ⟨lo, l, M, m0, Nat.le_trans mb hk, fun q hq => ⟨(hm q hq).1, Nat.le_trans (hm q hq).2 hk⟩⟩
theorem fs_row (qs : List Q2) : Fs (rowF qs) qs.length := fun j hj => rowF_out hj
/-- a number whose M-fold is an int of at most B -/
def Mq (M : Int) (B : Nat) (q : Q2) : Prop := Lo q ∧ ∃ z : Int, ((z : Int) : Rat) = ((M : Int) : Rat) * rv q ∧ z.natAbs ≤ B
theorem mq_parts {M z : Int} {q : Q2} (lo : Lo q) (h : ((z : Int) : Rat) = ((M : Int) : Rat) * rv q) : q.2 ∣ M ∧ q.1 * M.fdiv q.2 = z := by
  have hd := cst_ne lo.ne
  have e : ((z : Int) : Rat) * ((q.2 : Int) : Rat) = ((M : Int) : Rat) * ((q.1 : Int) : Rat) := by
    rw [h]
    unfold rv
    grind
  have e2 : z * q.2 = M * q.1 := by
    rw [← Rat.intCast_mul, ← Rat.intCast_mul] at e
    exact_mod_cast e
  have d : q.2 ∣ M := by
    refine Int.natAbs_dvd_natAbs.mp ?_
    have h1 : q.2.natAbs ∣ M.natAbs * q.1.natAbs := by
      rw [← Int.natAbs_mul, ← e2, Int.natAbs_mul]
      exact Nat.dvd_mul_left _ _
    exact (Nat.Coprime.symm (show Nat.Coprime q.1.natAbs q.2.natAbs from lo.low)).dvd_of_dvd_mul_right h1
  refine ⟨d, ?_⟩
  obtain ⟨c, hc⟩ := d
  have hf : M.fdiv q.2 = c := by
    rw [hc, Int.mul_comm]
    exact Int.mul_fdiv_cancel _ (Int.ne_of_gt lo.pos)
  rw [hf]
  have : q.2 * (q.1 * c) = q.2 * z := by
    rw [Int.mul_comm q.2 z, e2, hc]
    rw [Int.mul_comm q.1 c, Int.mul_assoc]
  exact Int.eq_of_mul_eq_mul_left lo.ne this
theorem mq_abs {M : Int} {B : Nat} {q : Q2} (hM : 0 < M) (h : Mq M B q) : q.1.natAbs ≤ B ∧ q.2.natAbs ≤ M.natAbs := by
  obtain ⟨lo, z, e, hz⟩ := h
  obtain ⟨d, ez⟩ := mq_parts lo e
  obtain ⟨c, hc⟩ := d
  have hf : M.fdiv q.2 = c := by
    rw [hc, Int.mul_comm]
    exact Int.mul_fdiv_cancel _ (Int.ne_of_gt lo.pos)
  rw [hf] at ez
  have hc0 : c ≠ 0 := fun e => by
    rw [e, Int.mul_zero] at hc
    omega
  constructor
  · have : z.natAbs = q.1.natAbs * c.natAbs := by rw [← ez, Int.natAbs_mul]
    have h2 := Nat.le_mul_of_pos_right q.1.natAbs (show 0 < c.natAbs by omega)
    omega
  · rw [hc, Int.natAbs_mul]
    exact Nat.le_mul_of_pos_right _ (by omega)
theorem mq_bq {M : Int} {B m : Nat} {q : Q2} (hM : 0 < M) (h : Mq M B q) (h1 : B < 2 ^ m) (h2 : M.natAbs < 2 ^ m) : Bq m q := by
  obtain ⟨a, b⟩ := mq_abs hM h
  exact ⟨PySem.intBits_le_iff.mpr (by omega), PySem.intBits_le_iff.mpr (by omega)⟩
theorem mq_psz {M : Int} {B m : Nat} {qs : List Q2} (hM : 0 < M) (h : ∀ q ∈ qs, Mq M B q) (h1 : B < 2 ^ m) (h2 : M.natAbs < 2 ^ m) (hl : qs.length ≤ 100) : PSz m qs := by
  refine ⟨fun q hq => (h q hq).1, hl, M, hM, PySem.intBits_le_iff.mpr h2, fun q hq => ?_⟩
  obtain ⟨lo, z, e, hz⟩ := h q hq
  obtain ⟨d, ez⟩ := mq_parts lo e
  exact ⟨d, by rw [ez]; exact PySem.intBits_le_iff.mpr (by omega)⟩
theorem mq_mono {M : Int} {B B' : Nat} {q : Q2} (h : Mq M B q) (l : B ≤ B') : Mq M B' q := let ⟨lo, z, e, hz⟩ := h; ⟨lo, z, e, Nat.le_trans hz l⟩
theorem mq_add {M : Int} {B1 B2 : Nat} {a b : Q2} (ha : Mq M B1 a) (hb : Mq M B2 b) : Mq M (B1 + B2) (addq a b) := by
  obtain ⟨la, z, ez, hz⟩ := ha
  obtain ⟨lb, y, ey, hy⟩ := hb
  refine ⟨lo_add la.ne lb.ne, z + y, ?_, by omega⟩
  rw [rv_add la.ne lb.ne, Rat.intCast_add, ez, ey]
  grind
theorem mq_mul {M N : Int} {B1 B2 : Nat} {a b : Q2} (ha : Mq M B1 a) (hb : Mq N B2 b) : Mq (M * N) (B1 * B2) (mulq a b) := by
  obtain ⟨la, z, ez, hz⟩ := ha
  obtain ⟨lb, y, ey, hy⟩ := hb
  refine ⟨lo_mul la.ne lb.ne, z * y, ?_, by rw [Int.natAbs_mul]; exact Nat.mul_le_mul hz hy⟩
  rw [rv_mul la.ne lb.ne, Rat.intCast_mul, Rat.intCast_mul, ez, ey]
  grind
theorem mq_up {M : Int} {B : Nat} {q : Q2} (h : Mq M B q) (c : Nat) : Mq (M * c) (B * c) q := by
  obtain ⟨lo, z, e, hz⟩ := h
  refine ⟨lo, z * (c : Int), ?_, by rw [Int.natAbs_mul, Int.natAbs_natCast]; exact Nat.mul_le_mul_right _ hz⟩
  rw [Rat.intCast_mul, Rat.intCast_mul, e]
  grind
theorem mq_q0 (M : Int) (B : Nat) : Mq M B q0 := ⟨lo_q0, 0, by rw [rv_q0]; show (0 : Rat) = _; grind, Nat.zero_le _⟩
theorem mq_sm {q : Q2} (h : Sm q) : Mq 60 900 q := by
  obtain ⟨lo, bq, d⟩ := h
  obtain ⟨c, hc⟩ := d
  refine ⟨lo, q.1 * c, ?_, ?_⟩
  · rw [hc, Rat.intCast_mul, Rat.intCast_mul]
    have := cst_ne lo.ne
    unfold rv
    grind
  · have hp := lo.pos
    have h1 : q.1.natAbs < 2 ^ 4 := PySem.intBits_le_iff.mp bq.1
    have h2 : c.natAbs ≤ 60 := by
      have e : (60 : Int).natAbs = q.2.natAbs * c.natAbs := by rw [hc, Int.natAbs_mul]
      have := Nat.le_mul_of_pos_left c.natAbs (show 0 < q.2.natAbs by omega)
      have e2 : (60 : Int).natAbs = 60 := rfl
      omega
    rw [Int.natAbs_mul]
    have := Nat.mul_le_mul (show q.1.natAbs ≤ 15 by omega) h2
    omega
/-! ### the row without the zeros at its end, by a walk from the end -/
theorem trim_walk {qs : List Q2} {i : Nat} {q : Q2} (h : qs[i]? = some q) (z : q.1 = 0) : trimQ (qs.take i) = trimQ (qs.take (i + 1)) := by
  rw [take_snoc h, trim_snoc z]
theorem trim_stop {qs : List Q2} {i : Nat} {q : Q2} (h : qs[i]? = some q) (z : q.1 ≠ 0) : trimQ (qs.take (i + 1)) = qs.take (i + 1) := by
  rw [take_snoc h, trim_id z]
theorem trim_fs {qs : List Q2} {n : Nat} (ht : Trim qs) (lo : ∀ q ∈ qs, Lo q) (h : Fs (rowF qs) n) : qs.length ≤ n := by
  apply Nat.le_of_not_lt
  intro hl
  obtain ⟨m, hm⟩ : ∃ m, qs.length = m + 1 := ⟨qs.length - 1, by omega⟩
  exact trim_top ht lo hm (h m (by omega))
end Ind

set_option Elab.async false
set_option linter.all false
set_option maxRecDepth 100000
set_option maxHeartbeats 4000000
set_option exponentiation.threshold 9000
namespace Ind
open PySem PySem.Spec PyProof.Rows L2
open Builtin.Int (intBits)
abbrev sLt : Stmt := top 99
abbrev sLa : Stmt := top 99
theorem tp_at {β : Type} {F : FH β} {H : Hp} {t : Addr} {bs : List β} {i : Nat} {b : β} (h : Tp F H t bs) (hb : bs[i]? = some b) : ∃ (ps : List Addr) (p : Addr), H t = some (.tup (ps.map V.ref)) ∧ (ps.map V.ref)[i]? = some (V.ref p) ∧ F H p b := by
  obtain ⟨ps, e, q⟩ := h
  obtain ⟨p, hp, f⟩ := Paired.at2 q hb
  exact ⟨ps, p, e, ref_at hp, f⟩
theorem ls_at {β : Type} {F : FH β} {H : Hp} {t : Addr} {bs : List β} {i : Nat} {b : β} (h : Ls F H t bs) (hb : bs[i]? = some b) : ∃ (ps : List Addr) (p : Addr), H t = some (.lst (ps.map V.ref)) ∧ (ps.map V.ref)[i]? = some (V.ref p) ∧ F H p b := by
  obtain ⟨ps, e, q⟩ := h
  obtain ⟨p, hp, f⟩ := Paired.at2 q hb
  exact ⟨ps, p, e, ref_at hp, f⟩
theorem at_d {qs : List Q2} {j : Nat} (h : j < qs.length) : ∃ q, qs[j]? = some q ∧ qs.getD j q0 = q ∧ q ∈ qs := by
  have e : qs[j]? = some qs[j] := List.getElem?_eq_getElem h
  exact ⟨qs[j], e, getD_q e, List.mem_of_getElem? e⟩
theorem paired_take {α β : Type} {F : α → β → Prop} : ∀ {xs : List α} {ys : List β}, Paired F xs ys → ∀ i, Paired F (xs.take i) (ys.take i)
  | _, _, _, 0 => .nil
  | _, _, .nil, _ + 1 => .nil
  | _, _, .cons a t, i + 1 => .cons a (paired_take t i)
def spLt : Sp := fun vs H Q _ => ∃ (l : Addr) (qs : List Q2), vs = [.ref l] ∧ Ls PairQ H l qs ∧ qs.length ≤ 1000 ∧ ∀ (H' : Hp) (t : Addr), Same H H' → Tp PairQ H' t (trimQ qs) → Q (.ref t) H'
/-- the sum of two rows, the first i items -/
def adR (as bs : List Q2) (i : Nat) : List Q2 := (List.range i).map fun j => addq (as.getD j q0) (bs.getD j q0)
theorem adR_len (as bs : List Q2) (i : Nat) : (adR as bs i).length = i := by
  unfold adR
  rw [List.length_map, List.length_range]
theorem adR_succ (as bs : List Q2) (i : Nat) : adR as bs (i + 1) = adR as bs i ++ [addq (as.getD i q0) (bs.getD i q0)] := by
  unfold adR
  rw [List.range_succ, List.map_append]
  rfl
theorem adR_mem {as bs : List Q2} {i : Nat} {q : Q2} (h : q ∈ adR as bs i) : ∃ j, q = addq (as.getD j q0) (bs.getD j q0) := by
  unfold adR at h
  obtain ⟨j, _, rfl⟩ := List.mem_map.mp h
  exact ⟨j, rfl⟩
theorem lo_getD {qs : List Q2} (h : ∀ q ∈ qs, Lo q) (j : Nat) : Lo (qs.getD j q0) := by
  by_cases c : j < qs.length
  · obtain ⟨q, _, e, hm⟩ := at_d c
    rw [e]
    exact h q hm
  · rw [getD_out (by omega)]
    exact lo_q0
theorem mq_getD {qs : List Q2} {M : Int} {B : Nat} (h : ∀ q ∈ qs, Mq M B q) (j : Nat) : Mq M B (qs.getD j q0) := by
  by_cases c : j < qs.length
  · obtain ⟨q, _, e, hm⟩ := at_d c
    rw [e]
    exact h q hm
  · rw [getD_out (by omega)]
    exact mq_q0 _ _
theorem adR_row {as bs : List Q2} {i : Nat} (la : ∀ q ∈ as, Lo q) (lb : ∀ q ∈ bs, Lo q) (h1 : as.length ≤ i) (h2 : bs.length ≤ i) (j : Nat) : rowF (adR as bs i) j = rowF as j + rowF bs j := by
  by_cases c : j < i
  · have e : (adR as bs i)[j]? = some (addq (as.getD j q0) (bs.getD j q0)) := by
      unfold adR
      rw [List.getElem?_map, List.getElem?_range c]
      rfl
    show rv ((adR as bs i).getD j q0) = _
    rw [getD_q e, rv_add (lo_getD la j).ne (lo_getD lb j).ne]
    rfl
  · rw [rowF_out (by rw [adR_len]; omega), rowF_out (by omega), rowF_out (by omega)]
    grind
def spLa : Sp := fun vs H Q _ => ∃ (p r : Addr) (as bs : List Q2), vs = [.ref p, .ref r] ∧ Tp PairQ H p as ∧ Tp PairQ H r bs ∧ as.length ≤ 400 ∧ bs.length ≤ 400 ∧ (∀ q ∈ as, Lo q ∧ Bg q) ∧ (∀ q ∈ bs, Lo q ∧ Bg q) ∧
  ∀ (H' : Hp) (t : Addr) (rs : List Q2), Same H H' → Tp PairQ H' t rs → Trim rs → (∀ q ∈ rs, Lo q) → rs.length ≤ max as.length bs.length → (∀ j, rowF rs j = rowF as j + rowF bs j) → Q (.ref t) H'
theorem lb_q0 : Lo q0 ∧ Bg q0 := ⟨lo_q0, by unfold Bg Bd q0; decide⟩
theorem lb_getD {qs : List Q2} (h : ∀ q ∈ qs, Lo q ∧ Bg q) (j : Nat) : Lo (qs.getD j q0) ∧ Bg (qs.getD j q0) := by
  by_cases c : j < qs.length
  · obtain ⟨q, _, e, hm⟩ := at_d c
    rw [e]
    exact h q hm
  · rw [getD_out (by omega)]
    exact lb_q0
section
variable {P : Program} {w : World} {K : PySem.W.Frag} {mg : Str → Option Value} {base : Heap} {C Z CP : Addr}
abbrev nLt : List Str := ["row", "size"]
abbrev nLa : List Str := ["p", "q", "out", "k", "a", "b"]
end
end Ind

set_option Elab.async false
set_option linter.all false
set_option maxRecDepth 100000
set_option maxHeartbeats 4000000
set_option exponentiation.threshold 9000
namespace Ind
open PySem PySem.Spec PyProof.Rows L2
open Builtin.Int (intBits)
abbrev sLm : Stmt := top 99
theorem paired_set {α β : Type} {F : α → β → Prop} {x : α} {y : β} (h : F x y) : ∀ {xs : List α} {ys : List β}, Paired F xs ys → ∀ i, Paired F (xs.set i x) (ys.set i y)
  | _, _, .nil, _ => .nil
  | _, _, .cons _ t, 0 => .cons h t
  | _, _, .cons a t, i + 1 => .cons a (paired_set h t i)
theorem getD_setq {qs : List Q2} {i : Nat} {q : Q2} (h : i < qs.length) (j : Nat) : (qs.set i q).getD j q0 = if j = i then q else qs.getD j q0 := by
  rw [List.getD_eq_getElem?_getD, List.getElem?_set]
  by_cases e : j = i
  · subst e
    rw [if_pos rfl, if_pos h, if_pos rfl]
    rfl
  · rw [if_neg (fun z => e z.symm), if_neg e, List.getD_eq_getElem?_getD]
theorem rowF_set {qs : List Q2} {i : Nat} {q : Q2} (h : i < qs.length) (j : Nat) : rowF (qs.set i q) j = if j = i then rv q else rowF qs j := by
  unfold rowF
  rw [List.getD_eq_getElem?_getD, List.getElem?_set]
  by_cases e : j = i
  · subst e
    rw [if_pos rfl, if_pos h, if_pos rfl]
    rfl
  · rw [if_neg (fun z => e z.symm), if_neg e, List.getD_eq_getElem?_getD]
/-- the items of a product after i rows -/
def pS (as bs : List Q2) (i j : Nat) : Rat := sumTo i fun t => if t ≤ j then rowF as t * rowF bs (j - t) else 0
theorem pS_succ (as bs : List Q2) (i j : Nat) : pS as bs (i + 1) j = pS as bs i j + if i ≤ j then rowF as i * rowF bs (j - i) else 0 := rfl
theorem rep_row (n j : Nat) : rowF (List.replicate n q0) j = 0 := by
  unfold rowF
  rw [List.getD_eq_getElem?_getD, List.getElem?_replicate]
  split <;> exact rv_q0
def spLm : Sp := fun vs H Q _ => ∃ (p r : Addr) (as bs : List Q2) (M N : Int) (B1 B2 e1 e2 : Nat), vs = [.ref p, .ref r] ∧ Tp PairQ H p as ∧ Tp PairQ H r bs ∧ as.length ≤ 100 ∧ bs.length ≤ 100 ∧ 0 < M ∧ 0 < N ∧ M.natAbs < 2 ^ e1 ∧ N.natAbs < 2 ^ e2 ∧ B1 < 2 ^ e1 ∧ B2 < 2 ^ e2 ∧ e1 + e2 + 7 ≤ 29000000 ∧ (∀ q ∈ as, Mq M B1 q) ∧ (∀ q ∈ bs, Mq N B2 q) ∧
  ∀ (H' : Hp) (t : Addr) (rs : List Q2), Same H H' → Tp PairQ H' t rs → Trim rs → (∀ q ∈ rs, Mq (M * N) (B1 * B2 * as.length) q) → (∀ q ∈ rs, Lo q ∧ Bg q) → rs.length ≤ as.length + bs.length → (∀ j, rowF rs j = cv (rowF as) (rowF bs) j) → Q (.ref t) H'
section
variable {P : Program} {w : World} {K : PySem.W.Frag} {mg : Str → Option Value} {base : Heap} {C Z CP : Addr}
abbrev nLm : List Str := ["p", "q", "k", "out", "j"]
end
end Ind

set_option Elab.async false
set_option linter.all false
set_option maxRecDepth 100000
set_option maxHeartbeats 4000000
set_option exponentiation.threshold 9000
namespace Ind
open PySem PySem.Spec PyProof.Rows L2
open Builtin.Int (intBits)
abbrev sLp : Stmt := top 99
abbrev sLr : Stmt := top 99
abbrev sLk : Stmt := top 99
/-- the small numbers of a row -/
def smR (ns : List Int) (i : Nat) : List Q2 := (List.range i).map fun k => smq (ns.getD (2 * k) 0) (ns.getD (2 * k + 1) 0)
theorem smR_len (ns : List Int) (i : Nat) : (smR ns i).length = i := by
  unfold smR
  rw [List.length_map, List.length_range]
theorem smR_succ (ns : List Int) (i : Nat) : smR ns (i + 1) = smR ns i ++ [smq (ns.getD (2 * i) 0) (ns.getD (2 * i + 1) 0)] := by
  unfold smR
  rw [List.range_succ, List.map_append]
  rfl
theorem smR_sm {ns : List Int} {i : Nat} {q : Q2} (h : q ∈ smR ns i) : Sm q := by
  unfold smR at h
  obtain ⟨k, _, rfl⟩ := List.mem_map.mp h
  exact sm_mk _ _
def spLp : Sp := fun vs H Q _ => ∃ (l : Addr) (ns : List Int) (n : Nat), vs = [.ref l, .int n] ∧ H l = some (.lst (ns.map V.int)) ∧ 2 * n ≤ ns.length ∧ n ≤ 50 ∧
  ∀ (H' : Hp) (t : Addr) (qs : List Q2), Same H H' → Tp PairQ H' t qs → Trim qs → (∀ q ∈ qs, Sm q) → qs.length ≤ n → Q (.ref t) H'
def spRw (C CP : Addr) : Sp := fun vs H Q _ => ∃ (p : Addr) (as : List Q2), vs = [.ref p] ∧ PolyAt C CP H p as ∧ (∀ q ∈ as, Lo q) ∧ as.length ≤ 100 ∧ ∀ (H' : Hp) (t : Addr), Same H H' → Tp PairQ H' t as → Q (.ref t) H'
def spLk (C CP : Addr) : Sp := fun vs H Q _ => ∃ (r : Addr) (as : List Q2) (k : Nat), vs = [.ref r] ∧ Tp PairQ H r as ∧ PSz k as ∧ k ≤ 40000000 ∧ Trim as ∧ ∀ (H' : Hp) (p : Addr), Same H H' → PolyAt C CP H' p as → Q (.ref p) H'
theorem trim_self {qs : List Q2} (h : Trim qs) : trimQ qs = qs := by
  rcases List.eq_nil_or_concat qs with e | ⟨ri, q, e⟩
  · rw [e]
    rfl
  · rw [List.concat_eq_append] at e
    subst e
    exact trim_id (h q (by rw [List.getLast?_append]; rfl))
section
variable {P : Program} {w : World} {K : PySem.W.Frag} {mg : Str → Option Value} {base : Heap} {C Z CP : Addr}
abbrev nLp : List Str := ["row", "size", "k"]
abbrev nLr : List Str := ["p", "row", "item"]
abbrev nLk : List Str := ["row", "q"]
end
end Ind

set_option Elab.async false
set_option linter.all false
set_option maxRecDepth 100000
set_option maxHeartbeats 4000000
namespace Ind
open PySem PySem.Spec PyProof.Rows L2
open Builtin.Int (intBits)
/-! ### the end of a law's row, where the base is known to let a long division run -/
section
variable {K L : PySem.W.Frag} {h base : Heap}
theorem look_app (K L : PySem.W.Frag) (a : Addr) : (K ++ L).lookup a = (K.lookup a).or (L.lookup a) := List.lookup_append
theorem ext_in (X : K.In h) (hL : ∀ p ∈ L, h.get? p.1 = some p.2) : PySem.W.Frag.In (K ++ L) h := fun a o e => by
  rw [look_app] at e
  cases q : K.lookup a with
  | some u =>
    rw [q] at e
    have e1 : u = o := Option.some.inj e
    exact X a o (e1 ▸ q)
  | none =>
    rw [q] at e
    have e2 : L.lookup a = some o := e
    obtain ⟨l1, l2, e3, _⟩ := List.lookup_eq_some_iff.mp e2
    exact hL (a, o) (by rw [e3]; simp)
theorem ext_at (X : K.In h) (hL : ∀ p ∈ L, h.get? p.1 = some p.2) (B : PySem.W.Frag.In (K ++ L) base) {a : Addr} {o : Obj} (hp : (a, o) ∈ L) : base.get? a = some o := by
  cases q : List.lookup a (K ++ L) with
  | none =>
    rw [look_app] at q
    have q2 : L.lookup a = none := by
      cases z : K.lookup a with
      | some u => rw [z] at q; cases q
      | none => rw [z] at q; exact q
    have := List.lookup_eq_none_iff.mp q2 (a, o) hp
    simp at this
  | some u =>
    have h1 : h.get? a = some u := ext_in X hL a u q
    have h2 := hL (a, o) hp
    rw [h1] at h2
    cases h2
    exact B a o q
theorem app_in (B : PySem.W.Frag.In (K ++ L) base) : K.In base := fun a o e => B a o (by rw [look_app, e]; rfl)
end
/-- the objects that a long division asks for -/
structure Seen (h : Heap) (L : PySem.W.Frag) : Prop where
  at_ : ∀ p ∈ L, h.get? p.1 = some p.2
  no : ∀ p ∈ L, p.2.cls ≠ .type "list" ∨ ∃ es ep, p.2.data = .dict es ep
  far : ∀ base : Heap, (∀ a o, (a, o) ∈ L → base.get? a = some o) → base.NoSeer
theorem seen_of {h : Heap} (x : h.NoSeer) : ∃ L, Seen h L := by
  obtain ⟨⟨m1, ⟨o1, e1, p1, g1, d1, r1⟩, s1, s2⟩, ⟨m2, ⟨o2, e2, p2, g2, d2, r2⟩, s3⟩, ⟨m3, ⟨o3, e3, p3, g3, d3, r3⟩, s4⟩, ⟨m4, bm, ob, ⟨o4, e4, p4, g4, d4, r4⟩, s5, g5, c5, s6⟩⟩ := x
  refine ⟨[(cStatics, o1), (sysModules, o2), (builtinsNs, o3), (mainGlobals, o4), (bm, ob)], ⟨fun p hp => ?_, fun p hp => ?_, fun base k => ?_⟩⟩
  · simp only [List.mem_cons, List.not_mem_nil, or_false] at hp
    rcases hp with rfl | rfl | rfl | rfl | rfl <;> assumption
  · simp only [List.mem_cons, List.not_mem_nil, or_false] at hp
    rcases hp with rfl | rfl | rfl | rfl | rfl
    · exact .inr ⟨_, _, d1⟩
    · exact .inr ⟨_, _, d2⟩
    · exact .inr ⟨_, _, d3⟩
    · exact .inr ⟨_, _, d4⟩
    · exact .inl (by show ob.cls ≠ _; rw [c5]; intro z; exact absurd (Value.type.inj z) (by decide))
  · exact ⟨⟨m1, ⟨o1, e1, p1, k _ _ (by simp), d1, r1⟩, s1, s2⟩, ⟨m2, ⟨o2, e2, p2, k _ _ (by simp), d2, r2⟩, s3⟩, ⟨m3, ⟨o3, e3, p3, k _ _ (by simp), d3, r3⟩, s4⟩, ⟨m4, bm, ob, ⟨o4, e4, p4, k _ _ (by simp), d4, r4⟩, s5, k _ _ (by simp), c5, s6⟩⟩
theorem sql_app {K L : PySem.W.Frag} {h : Heap} (S : Seen h L) {H : Hp} {a : Addr} {xs : List V} (q : SqL (K ++ L) H a xs) : SqL K H a xs := by
  rcases q with q | ⟨o, its, n, lk, c, d, dt, r⟩
  · exact .inl q
  · rw [look_app] at lk
    cases z : K.lookup a with
    | some u =>
      rw [z] at lk
      cases lk
      exact .inr ⟨o, its, n, z, c, d, dt, r⟩
    | none =>
      rw [z] at lk
      have lk2 : L.lookup a = some o := lk
      obtain ⟨l1, l2, e3, _⟩ := List.lookup_eq_some_iff.mp lk2
      rcases S.no (a, o) (by rw [e3]; simp) with w | ⟨es, ep, w⟩
      · exact absurd c w
      · rw [show o.data = _ from w] at dt
        cases dt
/-- a def's promise over a larger written part -/
theorem lift_fn {P : Program} {w : World} {K K' : PySem.W.Frag} {mg : Str → Option Value} {base : Heap} {CX : CXT} {k : Nat} {f : Addr} {fd : FuncData} {ps : List Str} {sp : Sp} (kin : K.In base) (F : FnOk P w K mg base CX k f fd ps sp) : FnOk P w K' mg base CX k f fd ps sp :=
  ⟨F.len, fun A outer s H args us vs Q E hr e0 => F.run A outer s H args us vs Q E hr ⟨e0.frames, ⟨kin, e0.mod.glob, e0.mod.blt, e0.mod.nolimit⟩, e0.bs, e0.bsz, e0.funs, e0.frf, e0.hok, e0.bare⟩⟩
theorem walk_far {l : PySem.W.OpenLaw} {n k : Nat} {q : Program} {loose : List Str} {XP : (Str → Option Value) → Heap → Prop} {YP : World → Heap → Prop} {d : DefRec} {K : Params → PySem.W.Frag} {sp : World → Sp} {x : Str}
    (hn : l.most = some n) (hn2 : n ≤ sizeLine) (hdf : d.params.defaults = []) (hr : Room k callerA) (hi : importsNone q = true)
    (hY : ∀ (w : World) (h : Heap), YP w h → (K w.params).In h)
    (F : ∀ (w : World) (mg : Str → Option Value) (fa : Addr) (h : Heap), (K w.params).In h → h.Ns mainGlobals mg → mg d.name = some (.ref fa) →
      ∃ fd : FuncData, (∀ (s : Shared) (u : Value), BindsTo s fd ⟨[u], []⟩ [(x, u)]) ∧
        ∀ base : Heap, (K w.params).In base → base.Ns mainGlobals mg → base.NoSeer → FnOk l.prog w (K w.params) mg base CX0 k fa fd [x] (sp w))
    (hsp : ∀ (w : World) (H : Hp) (a : Addr) (ns : List Int), ns.length ≤ n → (∀ z ∈ ns, intBits z ≤ 1048576) → SqL (K w.params) H a (ns.map V.int) → sp w [.ref a] H (fun v _ => v = .bl true) fun _ _ _ => False) :
    PySem.W.WalkO q loose XP YP l.row.toRowW d [] (fun f vs => PySem.call f vs) := by
  refine Att.attach_callB hn hdf fun w s₀ s₁ mg mb fa o pm cd doc a vs ns G Y ho hd hcd hmg hobj hints hlen hbits hg => ?_
  have KX := hY w _ Y
  obtain ⟨L, S⟩ := seen_of (G.T.seer hi)
  obtain ⟨fd, hb, hF⟩ := F w mg fa _ KX G.T.g hmg
  refine law_call (K := K w.params ++ L) (CX := CX0) (ext_in KX S.at_) G.T.g G.T.b G.T.builtins G.T.nolimit hg hobj hints (Nat.le_trans hlen hn2) hr (fun base B g => lift_fn (app_in B) (hF base (app_in B) g (S.far base fun a o hp => ext_at KX S.at_ B hp))) hb (fun H _ hS => hsp w H a ns hlen hbits (sql_app S hS)) fun _ _ _ z => z
end Ind

set_option Elab.async false
set_option linter.all false
namespace Ind
/-! ### powers and signs -/
def rp (q : Rat) : Nat → Rat
  | 0 => 1
  | n + 1 => rp q n * q
theorem rp_add (q : Rat) (a : Nat) : ∀ b, rp q (a + b) = rp q a * rp q b
  | 0 => by
    show rp q a = rp q a * 1
    grind
  | b + 1 => by
    show rp q (a + b) * q = rp q a * (rp q b * q)
    rw [rp_add q a b]
    grind
theorem rp_mul (p q : Rat) : ∀ n, rp (p * q) n = rp p n * rp q n
  | 0 => by
    show (1 : Rat) = 1 * 1
    grind
  | n + 1 => by
    show rp (p * q) n * (p * q) = rp p n * p * (rp q n * q)
    rw [rp_mul p q n]
    grind
theorem rp_one : ∀ n, rp 1 n = 1
  | 0 => rfl
  | n + 1 => by
    show rp 1 n * 1 = 1
    rw [rp_one n]
    grind
theorem rp_ne {q : Rat} (h : q ≠ 0) : ∀ n, rp q n ≠ 0
  | 0 => by
    show (1 : Rat) ≠ 0
    decide
  | n + 1 => fun e => by
    rcases Rat.mul_eq_zero.mp e with z | z
    · exact rp_ne h n z
    · exact h z
def sg (n : Nat) : Rat := rp (-1) n
theorem sg_add (a b : Nat) : sg (a + b) = sg a * sg b := rp_add _ a b
theorem sg_self (a : Nat) : sg a * sg a = 1 := by
  unfold sg
  rw [← rp_mul, show (-1 : Rat) * -1 = 1 by grind, rp_one]
theorem sg_two (a : Nat) : sg (a + a) = 1 := by rw [sg_add, sg_self]
theorem sg_sq : ∀ n : Nat, sg (n * n) = sg n
  | 0 => rfl
  | n + 1 => by
    rw [show (n + 1) * (n + 1) = n * n + (n + n) + 1 by grind, sg_add, sg_add (n * n), sg_two, sg_sq n, sg_add n 1]
    grind
theorem sg_mul_cancel (a b : Nat) (x : Rat) : sg (a * b) * (sg (b * a) * x) = x := by
  rw [Nat.mul_comm b a]
  have := sg_self (a * b)
  grind
/-! ### degrees -/
structure Dg (f : Fr) (n : Nat) : Prop where
  s : Fs f (n + 1)
  t : f n ≠ 0
theorem dg_uniq {f : Fr} {m n : Nat} (a : Dg f m) (b : Dg f n) : m = n := by
  rcases Nat.lt_trichotomy m n with c | c | c
  · exact absurd (a.s n (by omega)) b.t
  · exact c
  · exact absurd (b.s m (by omega)) a.t
theorem dg_or {f : Fr} : ∀ {n : Nat}, Fs f n → (∀ j, f j = 0) ∨ ∃ k, k < n ∧ Dg f k
  | 0, h => .inl fun j => h j (Nat.zero_le _)
  | n + 1, h => by
    by_cases e : f n = 0
    · rcases dg_or (f := f) (n := n) (fun j hj => by
        by_cases c : j = n
        · rw [c, e]
        · exact h j (by omega)) with z | ⟨k, hk, d⟩
      · exact .inl z
      · exact .inr ⟨k, by omega, d⟩
    · exact .inr ⟨n, by omega, h, e⟩
theorem dg_sc {f : Fr} {n : Nat} {c : Rat} (h : Dg f n) (hc : c ≠ 0) : Dg (fun j => c * f j) n := ⟨fun j hj => by
  show c * f j = 0
  rw [h.s j hj]
  grind, fun e => by
  rcases Rat.mul_eq_zero.mp e with z | z
  · exact hc z
  · exact h.t z⟩
theorem cv_sc' (a : Rat) (f h : Fr) (n : Nat) : cv (fun j => a * f j) h n = a * cv f h n := by
  have e : (fun j => a * f j) = fun j => a * f j + (fun _ => 0) j := funext fun j => by grind
  rw [e, cv_lin, cv_zl]
  grind
theorem cv_scr' (a : Rat) (f h : Fr) (n : Nat) : cv f (fun j => a * h j) n = a * cv f h n := by
  rw [cv_comm, cv_sc', cv_comm]
theorem cv_addl (f g h : Fr) (n : Nat) : cv (fun j => f j + g j) h n = cv f h n + cv g h n := by
  have e : (fun j => f j + g j) = fun j => (1 : Rat) * f j + g j := funext fun j => by grind
  rw [e, cv_lin]
  grind
theorem cv_delta0 (b : Fr) (s : Rat) (a j : Nat) : cv (fun t => if t = a then s else 0) b j = if a ≤ j then s * b (j - a) else 0 := by
  unfold cv
  by_cases c : a ≤ j
  · rw [if_pos c, sumTo_only (n := a) (by omega) fun t _ hn => by
      show (if t = a then s else 0) * _ = 0
      rw [if_neg hn]
      grind]
    show (if a = a then s else 0) * _ = _
    rw [if_pos rfl]
  · rw [if_neg c, sumTo_congr (g := fun _ => 0) fun t ht => by
      show (if t = a then s else 0) * _ = 0
      rw [if_neg (by omega)]
      grind]
    exact sumTo_zero _
/-- division with remainder -/
theorem div_ex {g : Fr} {m : Nat} (hg : Dg g m) : ∀ (n : Nat) (f : Fr), Fs f n → ∃ s r N, Fs s N ∧ Fs r m ∧ ∀ j, f j = cv s g j + r j
  | 0, f, h => ⟨fun _ => 0, f, 0, fun _ _ => rfl, fun j _ => h j (Nat.zero_le _), fun j => by
    rw [cv_zl]
    grind⟩
  | n + 1, f, h => by
    by_cases c : n < m
    · exact ⟨fun _ => 0, f, 0, fun _ _ => rfl, fun j hj => h j (by omega), fun j => by
        rw [cv_zl]
        grind⟩
    · obtain ⟨s, r, N, hs, hr, e⟩ := div_ex hg n (fun j => f j - if n - m ≤ j then f n / g m * g (j - (n - m)) else 0) (fun j hj => by
        show f j - (if n - m ≤ j then _ else 0) = 0
        rw [if_pos (by omega)]
        by_cases e : j = n
        · have := hg.t
          rw [e, show n - (n - m) = m by omega]
          grind
        · rw [h j (by omega), hg.s (j - (n - m)) (by omega)]
          grind)
      refine ⟨fun t => s t + if t = n - m then f n / g m else 0, r, max N (n - m + 1), fun j hj => ?_, hr, fun j => ?_⟩
      · show s j + (if j = n - m then _ else 0) = 0
        rw [hs j (by omega), if_neg (by omega)]
        grind
      · rw [cv_addl, cv_delta0]
        have := e j
        grind
theorem dg_kn {f g s r : Fr} {n m k N : Nat} (a : Dg f n) (b : Dg g (m + 1)) (hs : Fs s N) (hk : k ≤ m) (hr : Dg r k) (e : ∀ j, f j = cv s g j + r j) : k ≤ n := by
  by_cases c : n ≤ m
  · have := (div_uniq (s' := fun _ => 0) (r' := f) b.s b.t hs (fun _ _ => rfl) (fun j hj => hr.s j (by omega)) (fun j hj => a.s j (by omega)) fun j => by
      rw [← e j, cv_zl]
      grind).2
    have er : r = f := funext this
    rw [er] at hr
    have := dg_uniq hr a
    omega
  · omega
/-! ### what Euclid's steps reckon -/
inductive RR : Nat → Fr → Nat → Fr → Rat → Prop
  | const {n : Nat} {f g : Fr} : Dg f n → Dg g 0 → RR n f 0 g (rp (g 0) n)
  | zero {n m N : Nat} {f g s : Fr} : Dg f n → Dg g (m + 1) → Fs s N → (∀ j, f j = cv s g j) → RR n f (m + 1) g 0
  | step {n m k N : Nat} {f g s r : Fr} {v : Rat} : Dg f n → Dg g (m + 1) → Fs s N → k ≤ m → (∀ j, f j = cv s g j + r j) → RR (m + 1) g k r v → RR n f (m + 1) g (sg (n * (m + 1)) * rp (g (m + 1)) (n - k) * v)
theorem RR.dg {n m : Nat} {f g : Fr} {v : Rat} (h : RR n f m g v) : Dg f n ∧ Dg g m := by
  cases h with
  | const a b => exact ⟨a, b⟩
  | zero a b _ _ => exact ⟨a, b⟩
  | step a b _ _ _ _ => exact ⟨a, b⟩
theorem RR.ex : ∀ (m n : Nat) (f g : Fr), Dg f n → Dg g m → ∃ v, RR n f m g v := by
  intro m
  induction m using Nat.strongRecOn with
  | ind m ih =>
    intro n f g hf hg
    match m, ih, hg with
    | 0, _, hg => exact ⟨_, .const hf hg⟩
    | m + 1, ih, hg =>
      obtain ⟨s, r, N, hs, hr, e⟩ := div_ex hg (n + 1) f hf.s
      rcases dg_or hr with z | ⟨k, hk, dk⟩
      · exact ⟨_, .zero hf hg hs fun j => by rw [e j, z j]; grind⟩
      · obtain ⟨v, hv⟩ := ih k hk (m + 1) g r hg dk
        exact ⟨_, .step hf hg hs (by omega) e hv⟩
theorem RR.uniq : ∀ {n m : Nat} {f g : Fr} {v w : Rat}, RR n f m g v → RR n f m g w → v = w := by
  intro n m f g v w h
  induction h generalizing w with
  | const a b =>
    intro h2
    cases h2 with
    | const _ _ => rfl
  | @zero n m N f g s a b c d =>
    intro h2
    cases h2 with
    | zero _ _ _ _ => rfl
    | @step _ _ k N2 _ _ s2 r _ _ _ hs2 hk e hv =>
      have := (div_uniq (N := max N N2) (r := fun _ => 0) b.s b.t (c.mono (Nat.le_max_left _ _)) (hs2.mono (Nat.le_max_right _ _)) (fun _ _ => rfl) (fun j hj => hv.dg.2.s j (by omega)) fun j => by
        rw [← e j, d j]
        grind).2 k
      exact absurd this.symm hv.dg.2.t
  | @step n m k N f g s r v a b hs hk e hv ih =>
    intro h2
    cases h2 with
    | @zero _ _ N2 _ _ s2 _ _ hs2 d =>
      have := (div_uniq (N := max N N2) (r' := fun _ => 0) b.s b.t (hs.mono (Nat.le_max_left _ _)) (hs2.mono (Nat.le_max_right _ _)) (fun j hj => hv.dg.2.s j (by omega)) (fun _ _ => rfl) fun j => by
        rw [← e j, d j]
        grind).2 k
      exact absurd this hv.dg.2.t
    | @step _ _ k2 N2 _ _ s2 r2 w2 _ _ hs2 hk2 e2 hv2 =>
      have er : r = r2 := funext (div_uniq (N := max N N2) b.s b.t (hs.mono (Nat.le_max_left _ _)) (hs2.mono (Nat.le_max_right _ _)) (fun j hj => hv.dg.2.s j (by omega)) (fun j hj => hv2.dg.2.s j (by omega)) fun j => by rw [← e j, e2 j]).2
      subst er
      have ek := dg_uniq hv.dg.2 hv2.dg.2
      subst ek
      rw [ih hv2]
/-- multiples -/
theorem RR.sc : ∀ {n m : Nat} {f g : Fr} {v c : Rat}, c ≠ 0 → RR n f m g v → RR n f m (fun j => c * g j) (rp c n * v) ∧ RR n (fun j => c * f j) m g (rp c m * v) := by
  intro n m f g v c hc h
  have inv : c * (1 / c) = 1 := by grind
  induction h generalizing c with
  | @const n f g a b =>
    constructor
    · have := RR.const a (dg_sc b hc)
      rw [rp_mul] at this
      exact this
    · have := RR.const (dg_sc a hc) b
      rw [show rp c 0 = 1 from rfl]
      have e : (1 : Rat) * rp (g 0) n = rp (g 0) n := by grind
      rw [e]
      exact this
  | @zero n m N f g s a b hs d =>
    constructor
    · have := RR.zero a (dg_sc b hc) (s := fun j => (1 / c) * s j) (N := N) (fun j hj => by
        show (1 / c) * s j = 0
        rw [hs j hj]
        grind) fun j => by
        rw [cv_sc', cv_scr', d j]
        grind
      rw [show rp c n * 0 = 0 by grind]
      exact this
    · have := RR.zero (dg_sc a hc) b (s := fun j => c * s j) (N := N) (fun j hj => by
        show c * s j = 0
        rw [hs j hj]
        grind) fun j => by
        rw [cv_sc', d j]
      rw [show rp c (m + 1) * 0 = 0 by grind]
      exact this
  | @step n m k N f g s r v a b hs hk e hv ih =>
    have hkn : k ≤ n := dg_kn a b hs hk hv.dg.2 e
    constructor
    · have h1 := (ih hc inv).2
      have := RR.step a (dg_sc b hc) (s := fun j => (1 / c) * s j) (N := N) (fun j hj => by
        show (1 / c) * s j = 0
        rw [hs j hj]
        grind) hk (fun j => by
        rw [cv_sc', cv_scr', e j]
        grind) h1
      rw [rp_mul] at this
      have e2 : rp c n = rp c (n - k) * rp c k := by rw [← rp_add, show n - k + k = n by omega]
      rw [e2]
      have e3 : sg (n * (m + 1)) * (rp c (n - k) * rp (g (m + 1)) (n - k)) * (rp c k * v) = rp c (n - k) * rp c k * (sg (n * (m + 1)) * rp (g (m + 1)) (n - k) * v) := by grind
      rw [← e3]
      exact this
    · have h1 := (ih hc inv).1
      have := RR.step (dg_sc a hc) b (s := fun j => c * s j) (N := N) (fun j hj => by
        show c * s j = 0
        rw [hs j hj]
        grind) hk (fun j => by
        rw [cv_sc', e j]
        grind) h1
      have e3 : sg (n * (m + 1)) * rp (g (m + 1)) (n - k) * (rp c (m + 1) * v) = rp c (m + 1) * (sg (n * (m + 1)) * rp (g (m + 1)) (n - k) * v) := by grind
      rw [← e3]
      exact this
end Ind

set_option Elab.async false
set_option linter.all false
namespace Ind
/-! ### the two changed, the second reduced by the first -/
theorem RR.low {n m : Nat} {f g : Fr} {w : Rat} (h : n < m) (r : RR m g n f w) : RR n f m g (sg (n * m) * w) := by
  obtain ⟨dg, df⟩ := r.dg
  match m, h, dg, r with
  | m + 1, h, dg, r =>
    have := RR.step (s := fun _ => 0) (N := 0) df dg (fun _ _ => rfl) (show n ≤ m by omega) (fun j => by
      rw [cv_zl]
      grind) r
    rw [Nat.sub_self, show rp (g (m + 1)) 0 = 1 from rfl] at this
    rw [show sg (n * (m + 1)) * w = sg (n * (m + 1)) * 1 * w by grind]
    exact this
theorem rr_same {d k : Nat} {f g r : Fr} {l w : Rat} (hl : l ≠ 0) (df : Dg f (d + 1)) (e : ∀ j, f j = l * g j + r j) (h : RR (d + 1) g k r w) : RR (d + 1) f k r (rp l k * w) := by
  match k, h with
  | 0, h =>
    cases h with
    | const a b =>
      rw [show rp l 0 = 1 from rfl, show (1 : Rat) * rp (r 0) (d + 1) = rp (r 0) (d + 1) by grind]
      exact .const df b
  | k + 1, h =>
    cases h with
    | @zero _ _ N _ _ s a b hs q =>
      rw [show rp l (k + 1) * 0 = 0 by grind]
      refine RR.zero (s := fun t => l * s t + if t = 0 then 1 else 0) (N := N + 1) df b (fun j hj => ?_) fun j => ?_
      · show l * s j + (if j = 0 then (1 : Rat) else 0) = 0
        rw [hs j (by omega), if_neg (by omega)]
        grind
      · rw [cv_lin, cv_delta0, if_pos (Nat.zero_le _), Nat.sub_zero, e j, q j]
        grind
    | @step _ _ j0 N _ _ s t u a b hs hk q hv =>
      have h1 := (RR.sc hl hv).1
      have := RR.step (s := fun t => l * s t + if t = 0 then 1 else 0) (N := N + 1) df b (fun j hj => by
        show l * s j + (if j = 0 then (1 : Rat) else 0) = 0
        rw [hs j (by omega), if_neg (by omega)]
        grind) hk (fun j => by
        rw [cv_lin, cv_delta0, if_pos (Nat.zero_le _), Nat.sub_zero, e j, q j]
        grind) h1
      rw [show rp l (k + 1) * (sg ((d + 1) * (k + 1)) * rp (r (k + 1)) (d + 1 - j0) * u) = sg ((d + 1) * (k + 1)) * rp (r (k + 1)) (d + 1 - j0) * (rp l (k + 1) * u) by grind]
      exact this
theorem RR.sym {n m : Nat} {f g : Fr} {v : Rat} (h : RR n f m g v) : RR m g n f (sg (n * m) * v) := by
  obtain ⟨df, dg⟩ := h.dg
  rcases Nat.lt_trichotomy n m with c | c | c
  · obtain ⟨w, hw⟩ := RR.ex n m g f dg df
    have := (RR.low c hw).uniq h
    rw [← this, show sg (n * m) * (sg (n * m) * w) = w by have := sg_self (n * m); grind]
    exact hw
  · subst c
    match n, df, dg, h with
    | 0, df, dg, h =>
      cases h with
      | const a b =>
        have z : RR 0 g 0 f (rp (f 0) 0) := RR.const b a
        have e : sg (0 * 0) * rp (g 0) 0 = rp (f 0) 0 := by
          show (1 : Rat) * 1 = 1
          grind
        rw [e]
        exact z
    | d + 1, df, dg, h =>
      have hg := dg.t
      have hf := df.t
      obtain ⟨l, el⟩ : ∃ l, l = f (d + 1) / g (d + 1) := ⟨_, rfl⟩
      have hlg : l * g (d + 1) = f (d + 1) := by grind
      have hl : l ≠ 0 := fun z => hf (by rw [← hlg, z]; grind)
      obtain ⟨r, er⟩ : ∃ r : Fr, r = fun j => f j - l * g j := ⟨_, rfl⟩
      have e : ∀ j, f j = l * g j + r j := fun j => by
        rw [er]
        grind
      have hr : Fs r (d + 1) := fun j hj => by
        rw [er]
        show f j - l * g j = 0
        by_cases c : j = d + 1
        · rw [c, hlg]
          grind
        · rw [df.s j (by omega), dg.s j (by omega)]
          grind
      have d0 : ∀ (c : Rat), Fs (fun t => if t = 0 then c else 0) 1 := fun c j hj => by
        show (if j = 0 then c else 0) = 0
        rw [if_neg (by omega)]
      rcases dg_or hr with z | ⟨k, hk, dk⟩
      · have h1 : RR (d + 1) f (d + 1) g 0 := RR.zero df dg (d0 l) fun j => by
          rw [cv_delta0, if_pos (Nat.zero_le _), Nat.sub_zero, e j, z j]
          grind
        have h2 : RR (d + 1) g (d + 1) f 0 := RR.zero dg df (d0 (1 / l)) fun j => by
          rw [cv_delta0, if_pos (Nat.zero_le _), Nat.sub_zero, e j, z j]
          grind
        rw [h.uniq h1, show sg ((d + 1) * (d + 1)) * 0 = 0 by grind]
        exact h2
      · obtain ⟨w, hw⟩ := RR.ex k (d + 1) g r dg dk
        have h1 := RR.step df dg (d0 l) (show k ≤ d by omega) (fun j => by
          rw [cv_delta0, if_pos (Nat.zero_le _), Nat.sub_zero, e j]) hw
        have hm : (-1 / l) ≠ 0 := fun z => by grind
        have h2 := (RR.sc hm (rr_same hl df e hw)).1
        have h3 := RR.step dg df (d0 (1 / l)) (show k ≤ d by omega) (fun j => by
          rw [cv_delta0, if_pos (Nat.zero_le _), Nat.sub_zero, e j]
          grind) h2
        rw [h.uniq h1]
        have e1 : rp (f (d + 1)) (d + 1 - k) = rp l (d + 1 - k) * rp (g (d + 1)) (d + 1 - k) := by rw [← hlg, rp_mul]
        have e2 : rp (-1 / l) (d + 1) = sg (d + 1) * rp (1 / l) (d + 1) := by
          unfold sg
          rw [← rp_mul, show -1 * (1 / l) = -1 / l by grind]
        have e3 : rp l (d + 1 - k) * rp l k * rp (1 / l) (d + 1) = 1 := by
          rw [← rp_add, show d + 1 - k + k = d + 1 by omega, ← rp_mul, show l * (1 / l) = 1 by grind, rp_one]
        have e4 := sg_sq (d + 1)
        have e5 := sg_self (d + 1)
        have e6 := sg_self ((d + 1) * (d + 1))
        rw [e1, e2] at h3
        have key : sg ((d + 1) * (d + 1)) * (sg ((d + 1) * (d + 1)) * rp (g (d + 1)) (d + 1 - k) * w) = sg ((d + 1) * (d + 1)) * (rp l (d + 1 - k) * rp (g (d + 1)) (d + 1 - k)) * (sg (d + 1) * rp (1 / l) (d + 1) * (rp l k * w)) := by
          rw [e4]
          generalize rp l (d + 1 - k) = A at *
          generalize rp l k = B at *
          generalize rp (1 / l) (d + 1) = D at *
          generalize rp (g (d + 1)) (d + 1 - k) = G at *
          generalize sg (d + 1) = S at *
          have : S * S * G * w * (A * B * D) = S * (A * G) * (S * D * (B * w)) := by grind
          rw [← this, e3]
          grind
        rw [key]
        exact h3
  · have := RR.low c h
    rw [Nat.mul_comm m n] at this
    exact this
theorem RR.red {n m k N : Nat} {f g s r : Fr} {v : Rat} (dg : Dg g m) (hs : Fs s N) (hk : k ≤ n) (e : ∀ j, g j = cv s f j + r j) (h : RR (n + 1) f k r v) : RR (n + 1) f m g (rp (f (n + 1)) (m - k) * v) := by
  have := (RR.step dg h.dg.1 hs hk e h).sym
  rw [show sg (m * (n + 1)) * (sg (m * (n + 1)) * rp (f (n + 1)) (m - k) * v) = rp (f (n + 1)) (m - k) * v by have := sg_self (m * (n + 1)); grind] at this
  exact this
theorem RR.red0 {n m N : Nat} {f g s : Fr} (df : Dg f (n + 1)) (dg : Dg g m) (hs : Fs s N) (e : ∀ j, g j = cv s f j) : RR (n + 1) f m g 0 := by
  have := (RR.zero dg df hs e).sym
  rw [show sg (m * (n + 1)) * 0 = 0 by grind] at this
  exact this
theorem RR.cst {m : Nat} {f g : Fr} (df : Dg f 0) (dg : Dg g m) : RR 0 f m g (rp (f 0) m) := by
  have := (RR.const dg df).sym
  rw [Nat.mul_zero, show sg 0 * rp (f 0) m = rp (f 0) m by show (1 : Rat) * _ = _; grind] at this
  exact this
theorem RR.red2 {n m m2 N : Nat} {f g g2 s : Fr} {v : Rat} (dg : Dg g m) (hs : Fs s N) (hm : m2 ≤ m) (e : ∀ j, g j = cv s f j + g2 j) (h : RR n f m2 g2 v) : RR n f m g (rp (f n) (m - m2) * v) := by
  obtain ⟨df, dg2⟩ := h.dg
  match n, df, h with
  | 0, df, h =>
    have h1 := h.uniq (RR.cst df dg2)
    rw [h1, ← rp_add, show m - m2 + m2 = m by omega]
    exact RR.cst df dg
  | n + 1, df, h =>
    obtain ⟨t, r, M, ht, hr, q⟩ := div_ex df (m2 + 1) g2 dg2.s
    have hst : Fs (fun j => s j + t j) (max N M) := fun j hj => by
      show s j + t j = 0
      rw [hs j (by omega), ht j (by omega)]
      grind
    have e2 : ∀ j, g j = cv (fun j => s j + t j) f j + r j := fun j => by
      rw [cv_addl, e j, q j]
      grind
    rcases dg_or hr with z | ⟨k, hk, dk⟩
    · have h1 := h.uniq (RR.red0 df dg2 ht fun j => by rw [q j, z j]; grind)
      rw [h1, show rp (f (n + 1)) (m - m2) * 0 = 0 by grind]
      exact RR.red0 df dg hst fun j => by rw [e2 j, z j]; grind
    · obtain ⟨u, hu⟩ := RR.ex k (n + 1) f r df dk
      have h1 := h.uniq (RR.red dg2 ht (by omega) q hu)
      have kn := dg_kn dg2 df ht (by omega) dk q
      have h2 := RR.red dg hst (by omega) e2 hu
      rw [show m - k = m - m2 + (m2 - k) by omega, rp_add] at h2
      rw [h1, show rp (f (n + 1)) (m - m2) * (rp (f (n + 1)) (m2 - k) * u) = rp (f (n + 1)) (m - m2) * rp (f (n + 1)) (m2 - k) * u by grind]
      exact h2
end Ind

set_option Elab.async false
set_option linter.all false
namespace Ind
/-! ### a linear factor -/
def Lx (c : Rat) : Fr := fun j => if j = 0 then -c else if j = 1 then 1 else 0
theorem lx_fs (c : Rat) : Fs (Lx c) 2 := fun j hj => by
  unfold Lx
  rw [if_neg (by omega), if_neg (by omega)]
theorem lx_dg (c : Rat) : Dg (Lx c) 1 := ⟨lx_fs c, by
  unfold Lx
  rw [if_neg (by decide), if_pos rfl]
  decide⟩
theorem cv_out1 {u b : Fr} {m n : Nat} (hu : Fs u (n + 1)) (hb : Fs b (m + 1)) : Fs (cv u b) (n + m + 1) := fun j hj => by
  unfold cv
  rw [sumTo_congr (g := fun _ => 0) fun t _ => by
    by_cases c : n + 1 ≤ t
    · rw [hu t c]
      grind
    · rw [hb (j - t) (by omega)]
      grind]
  exact sumTo_zero _
theorem dg_cv {f g : Fr} {m n : Nat} (hf : Dg f m) (hg : Dg g n) : Dg (cv f g) (m + n) := ⟨cv_out1 hf.s hg.s, fun e => by
  rw [cv_top hf.s hg.s] at e
  rcases Rat.mul_eq_zero.mp e with z | z
  · exact hf.t z
  · exact hg.t z⟩
/-- y is the value at c -/
def Val (g : Fr) (c y : Rat) : Prop := ∃ s N, Fs s N ∧ ∀ j, g j = cv s (Lx c) j + if j = 0 then y else 0
theorem val_uniq {g : Fr} {c y z : Rat} (h1 : Val g c y) (h2 : Val g c z) : y = z := by
  obtain ⟨s, N, hs, e⟩ := h1
  obtain ⟨t, M, ht, q⟩ := h2
  have := (div_uniq (N := max N M) (m := 1) (r := fun j => if j = 0 then y else 0) (r' := fun j => if j = 0 then z else 0) (lx_dg c).s (lx_dg c).t (hs.mono (Nat.le_max_left _ _)) (ht.mono (Nat.le_max_right _ _)) (fun j hj => if_neg (by omega)) (fun j hj => if_neg (by omega)) fun j => by rw [← e j, ← q j]).2 0
  simpa using this
theorem cv_assoc' (f g h : Fr) : cv (cv f g) h = cv f (cv g h) := funext (cv_assoc f g h)
theorem cv_comm' (f g : Fr) : cv f g = cv g f := funext (cv_comm f g)
theorem val_sub {g g2 s f : Fr} {c y : Rat} {N M : Nat} (hs : Fs s N) (hf : Fs f M) (e : ∀ j, g j = cv s (cv (Lx c) f) j + g2 j) (h : Val g c y) : Val g2 c y := by
  obtain ⟨t, T, ht, q⟩ := h
  refine ⟨fun j => t j + (-1) * cv s f j, T + N + M, fun j hj => ?_, fun j => ?_⟩
  · show t j + (-1) * cv s f j = 0
    rw [ht j (by omega), cv_out hs hf j (by omega)]
    grind
  · rw [cv_addl t (fun j => (-1) * cv s f j), cv_sc']
    have e1 := e j
    have e2 := q j
    rw [cv_comm' (Lx c) f, ← cv_assoc'] at e1
    grind
theorem RR.lin : ∀ (n m : Nat) (f g : Fr) (v c y : Rat), RR n f m g v → Val g c y → RR (n + 1) (cv (Lx c) f) m g (y * v) := by
  intro n
  induction n using Nat.strongRecOn with
  | ind n ih =>
    -- the second of no greater degree
    have main : ∀ (m : Nat) (f g : Fr) (v c y : Rat), m ≤ n → RR n f m g v → Val g c y → RR (n + 1) (cv (Lx c) f) m g (y * v) := by
      intro m f g v c y hmn h hv
      obtain ⟨df, dg⟩ := h.dg
      have dF : Dg (cv (Lx c) f) (n + 1) := by
        have := dg_cv (lx_dg c) df
        rwa [Nat.add_comm] at this
      match m, hmn, dg, h with
      | 0, _, dg, h =>
        have ev : v = rp (g 0) n := h.uniq (RR.const df dg)
        have ey : y = g 0 := val_uniq hv ⟨fun _ => 0, 0, fun _ _ => rfl, fun j => by
          rw [cv_zl]
          by_cases c : j = 0
          · rw [if_pos c, c]
            grind
          · rw [if_neg c, dg.s j (by omega)]
            grind⟩
        have := RR.const dF dg
        rw [ev, ey, show g 0 * rp (g 0) n = rp (g 0) (n + 1) by show _ = rp (g 0) n * g 0; grind]
        exact this
      | m + 1, hmn, dg, h =>
        obtain ⟨s, r, N, hs, hr, e⟩ := div_ex dg (n + 1) f df.s
        have hLs : Fs (cv (Lx c) s) (2 + N) := cv_out (lx_fs c) hs
        rcases dg_or hr with z | ⟨k, hk, dk⟩
        · have v0 := h.uniq (RR.zero df dg hs fun j => by rw [e j, z j]; grind)
          rw [v0, show y * 0 = 0 by grind]
          refine RR.zero dF dg hLs fun j => ?_
          rw [cv_assoc', show f = cv s g from funext fun j => by rw [e j, z j]; grind]
        · obtain ⟨w, hw⟩ := RR.ex k (m + 1) g r dg dk
          have hv1 := h.uniq (RR.step df dg hs (by omega) e hw)
          have h1 := ih k (by omega) (m + 1) r g _ c y hw.sym hv
          have h2 := h1.sym
          -- the product's remainder
          have eF : ∀ j, cv (Lx c) f j = cv (cv (Lx c) s) g j + cv (Lx c) r j := fun j => by
            rw [cv_assoc', cv_comm' (Lx c) f, show f = fun j => cv s g j + r j from funext e, cv_addl, cv_comm' (cv s g), cv_comm' r]
          have hn1 : n + 1 - (k + 1) = n - k := by omega
          obtain ⟨V, hV⟩ : ∃ V, V = sg ((k + 1) * (m + 1)) * (y * (sg ((m + 1) * k) * w)) := ⟨_, rfl⟩
          have fin : sg ((n + 1) * (m + 1)) * rp (g (m + 1)) (n - k) * V = y * v := by
            rw [hv1, hV, show (n + 1) * (m + 1) = n * (m + 1) + (m + 1) by grind, show (k + 1) * (m + 1) = (m + 1) * k + (m + 1) by grind, sg_add (n * (m + 1)) (m + 1), sg_add ((m + 1) * k) (m + 1)]
            have e1 := sg_self (m + 1)
            have e2 := sg_self ((m + 1) * k)
            generalize sg (m + 1) = A at *
            generalize sg ((m + 1) * k) = B at *
            generalize sg (n * (m + 1)) = D at *
            generalize rp (g (m + 1)) (n - k) = G at *
            have : D * A * G * (B * A * (y * (B * w))) = D * G * y * w * (A * A) * (B * B) := by grind
            rw [this, e1, e2]
            grind
          rw [← hV] at h2
          rw [← fin]
          have dLr : Dg (cv (Lx c) r) (k + 1) := by
            have := dg_cv (lx_dg c) dk
            rwa [Nat.add_comm] at this
          by_cases hkm : k + 1 ≤ m
          · have := RR.step dF dg hLs hkm eF h2
            rw [hn1] at this
            exact this
          · have ek : k = m := by omega
            subst ek
            obtain ⟨l, r2, M, hl, hr2, q⟩ := div_ex dg (k + 2) (cv (Lx c) r) dLr.s
            have hst : Fs (fun j => cv (Lx c) s j + l j) (2 + N + M) := fun j hj => by
              show cv (Lx c) s j + l j = 0
              rw [hLs j (by omega), hl j (by omega)]
              grind
            have eF2 : ∀ j, cv (Lx c) f j = cv (fun j => cv (Lx c) s j + l j) g j + r2 j := fun j => by
              rw [cv_addl, eF j, q j]
              grind
            rcases dg_or hr2 with z | ⟨k2, hk2, dk2⟩
            · have V0 := h2.uniq (RR.red0 dg dLr hl fun j => by rw [q j, z j]; grind)
              rw [V0, show sg ((n + 1) * (k + 1)) * rp (g (k + 1)) (n - k) * 0 = 0 by grind]
              exact RR.zero dF dg hst fun j => by rw [eF2 j, z j]; grind
            · obtain ⟨u, hu⟩ := RR.ex k2 (k + 1) g r2 dg dk2
              have V1 := h2.uniq (RR.red dLr hl (by omega) q hu)
              have := RR.step dF dg hst (by omega) eF2 hu
              rw [show n + 1 - k2 = n - k + (k + 1 - k2) by omega, rp_add] at this
              rw [V1, show sg ((n + 1) * (k + 1)) * rp (g (k + 1)) (n - k) * (rp (g (k + 1)) (k + 1 - k2) * u) = sg ((n + 1) * (k + 1)) * (rp (g (k + 1)) (n - k) * rp (g (k + 1)) (k + 1 - k2)) * u by grind]
              exact this
    intro m f g v c y h hv
    by_cases hmn : m ≤ n
    · exact main m f g v c y hmn h hv
    · obtain ⟨df, dg⟩ := h.dg
      have dF : Dg (cv (Lx c) f) (n + 1) := by
        have := dg_cv (lx_dg c) df
        rwa [Nat.add_comm] at this
      have tF : cv (Lx c) f (n + 1) = f n := by
        have := cv_top (lx_dg c).s df.s
        rw [Nat.add_comm] at this
        rw [this]
        show (if (1 : Nat) = 0 then -c else if 1 = 1 then (1 : Rat) else 0) * f n = f n
        rw [if_neg (by decide), if_pos rfl]
        grind
      obtain ⟨s, g2, N, hs, hg2, e⟩ := div_ex dF (m + 1) g dg.s
      have hv2 : Val g2 c y := val_sub hs df.s e hv
      rcases dg_or hg2 with z | ⟨m2, hm2, dg2⟩
      · have y0 : y = 0 := val_uniq hv2 ⟨fun _ => 0, 0, fun _ _ => rfl, fun j => by
          rw [cv_zl, z j]
          split <;> grind⟩
        rw [y0, show (0 : Rat) * v = 0 by grind]
        exact RR.red0 dF dg hs fun j => by rw [e j, z j]; grind
      · obtain ⟨v2, hw2⟩ := RR.ex m2 n f g2 df dg2
        have h1 := main m2 f g2 v2 c y (by omega) hw2 hv2
        have h2 := RR.red dg hs (by omega) e h1
        rw [tF] at h2
        have hsL : Fs (cv s (Lx c)) (N + 2) := cv_out hs (lx_fs c)
        have h3 := h.uniq (RR.red2 dg hsL (by omega) (fun j => by rw [cv_assoc', e j]) hw2)
        rw [h3, show y * (rp (f n) (m - m2) * v2) = rp (f n) (m - m2) * (y * v2) by grind]
        exact h2
end Ind

set_option Elab.async false
set_option linter.all false
set_option maxRecDepth 100000
set_option maxHeartbeats 4000000
set_option exponentiation.threshold 9000
namespace Ind
open PySem PySem.Spec PyProof.Rows L2
open Builtin.Int (intBits)
section
variable {P : Program} {w : World} {K : PySem.W.Frag} {mg : Str → Option Value} {base : Heap} {C Z : Addr}
abbrev s_add : Stmt := inClass (top 29) 1
def sp_add (C : Addr) : Sp := fun vs H Q _ => ∃ (p q : Addr) (a b c d : Int), vs = [.ref p, .ref q] ∧ RatAt C H p a b ∧ RatAt C H q c d ∧ b ≠ 0 ∧ d ≠ 0 ∧ Bd a ∧ Bd b ∧ Bd c ∧ Bd d ∧
  ∀ (H' : Hp) (r : Addr), RatAt C H' r (nN (a * d + c * b) (b * d)) (nD (a * d + c * b) (b * d)) → Same H H' → Q (.ref r) H'
theorem sc_add : FnScope ["self", "other"] ["self", "other"] (defScope s_add) := ⟨rfl, rfl, rfl, by decide +kernel, rfl, by decide +kernel, by decide +kernel⟩
theorem ok_add {f fI : Addr} {fd fdI : FuncData} {ds : List Value} (F : Fun K "__add__" "Ratio.__add__" s_add f fd) (R : TxR K mg C Z) (M : MkR P w K mg base C Z fI fdI ds) : FnOk P w K mg base CX0 43 f fd ["self", "other"] (sp_add C) := by
  refine F.ok sc_add (fun vs H Q E h => ?_) (fun cdv A outer s H vs Q E hr h => ?_)
  · obtain ⟨p, q, a, b, c, d, rfl, _⟩ := h
    rfl
  · obtain ⟨p, q, a, b, c, d, rfl, ⟨dx, hp⟩, ⟨dy, hq⟩, h1, h2, ba, bb, bc, bd, k⟩ := h
    refine ⟨_, pss_one (ps_ret (pe_make M.cm M.fn hr (by rfl) R.mgC M.b2 .nil passL (pa_cons (pe_op op_add (pe_op op_mulB (pe_fld (pv 0) rfl) (pe_fld (pv 1) rfl)) (pe_op op_mulB (pe_fld (pv 1) rfl) (pe_fld (pv 0) rfl))) (pa_cons (pe_op op_mulB (pe_fld (pv 0) rfl) (pe_fld (pv 1) rfl)) pa_nil)))), ?_⟩
    refine ⟨_, rfl, p, C, dx, _, _, rfl, hp, R.cl, R.nN, rf_n _ _, _, rfl, q, C, dy, _, _, rfl, hq, R.cl, R.nD, rf_d _ _, _, _, rfl, rfl, bd2 ba bd, _, rfl, q, C, dy, _, _, rfl, hq, R.cl, R.nN, rf_n _ _, _, rfl, p, C, dx, _, _, rfl, hp, R.cl, R.nD, rf_d _ _, _, _, rfl, rfl, bd2 bc bb, _, _, rfl, rfl, _, rfl, p, C, dx, _, _, rfl, hp, R.cl, R.nD, rf_d _ _, _, rfl, q, C, dy, _, _, rfl, hq, R.cl, R.nD, rf_d _ _, _, _, rfl, rfl, bd2 bb bd, ?_⟩
    exact fun r dr nr ndr ner => ⟨r, dr, _, _, rfl, upd_same, fun z => absurd z (Int.mul_ne_zero h1 h2), fun _ H' rr kk => ⟨rfl, k H' r rr (Same.made nr ndr kk)⟩⟩

abbrev s_sub : Stmt := inClass (top 29) 2
def sp_sub (C : Addr) : Sp := fun vs H Q _ => ∃ (p q : Addr) (a b c d : Int), vs = [.ref p, .ref q] ∧ RatAt C H p a b ∧ RatAt C H q c d ∧ b ≠ 0 ∧ d ≠ 0 ∧ Bd a ∧ Bd b ∧ Bd c ∧ Bd d ∧
  ∀ (H' : Hp) (r : Addr), RatAt C H' r (nN (a * d - c * b) (b * d)) (nD (a * d - c * b) (b * d)) → Same H H' → Q (.ref r) H'
theorem sc_sub : FnScope ["self", "other"] ["self", "other"] (defScope s_sub) := ⟨rfl, rfl, rfl, by decide +kernel, rfl, by decide +kernel, by decide +kernel⟩
theorem ok_sub {f fI : Addr} {fd fdI : FuncData} {ds : List Value} (F : Fun K "__sub__" "Ratio.__sub__" s_sub f fd) (R : TxR K mg C Z) (M : MkR P w K mg base C Z fI fdI ds) : FnOk P w K mg base CX0 43 f fd ["self", "other"] (sp_sub C) := by
  refine F.ok sc_sub (fun vs H Q E h => ?_) (fun cdv A outer s H vs Q E hr h => ?_)
  · obtain ⟨p, q, a, b, c, d, rfl, _⟩ := h
    rfl
  · obtain ⟨p, q, a, b, c, d, rfl, ⟨dx, hp⟩, ⟨dy, hq⟩, h1, h2, ba, bb, bc, bd, k⟩ := h
    refine ⟨_, pss_one (ps_ret (pe_make M.cm M.fn hr (by rfl) R.mgC M.b2 .nil passL (pa_cons (pe_op op_sub (pe_op op_mulB (pe_fld (pv 0) rfl) (pe_fld (pv 1) rfl)) (pe_op op_mulB (pe_fld (pv 1) rfl) (pe_fld (pv 0) rfl))) (pa_cons (pe_op op_mulB (pe_fld (pv 0) rfl) (pe_fld (pv 1) rfl)) pa_nil)))), ?_⟩
    refine ⟨_, rfl, p, C, dx, _, _, rfl, hp, R.cl, R.nN, rf_n _ _, _, rfl, q, C, dy, _, _, rfl, hq, R.cl, R.nD, rf_d _ _, _, _, rfl, rfl, bd2 ba bd, _, rfl, q, C, dy, _, _, rfl, hq, R.cl, R.nN, rf_n _ _, _, rfl, p, C, dx, _, _, rfl, hp, R.cl, R.nD, rf_d _ _, _, _, rfl, rfl, bd2 bc bb, _, _, rfl, rfl, _, rfl, p, C, dx, _, _, rfl, hp, R.cl, R.nD, rf_d _ _, _, rfl, q, C, dy, _, _, rfl, hq, R.cl, R.nD, rf_d _ _, _, _, rfl, rfl, bd2 bb bd, ?_⟩
    exact fun r dr nr ndr ner => ⟨r, dr, _, _, rfl, upd_same, fun z => absurd z (Int.mul_ne_zero h1 h2), fun _ H' rr kk => ⟨rfl, k H' r rr (Same.made nr ndr kk)⟩⟩

abbrev s_mul : Stmt := inClass (top 29) 3
def sp_mul (C : Addr) : Sp := fun vs H Q _ => ∃ (p q : Addr) (a b c d : Int), vs = [.ref p, .ref q] ∧ RatAt C H p a b ∧ RatAt C H q c d ∧ b ≠ 0 ∧ d ≠ 0 ∧ Bd a ∧ Bd b ∧ Bd c ∧ Bd d ∧
  ∀ (H' : Hp) (r : Addr), RatAt C H' r (nN (a * c) (b * d)) (nD (a * c) (b * d)) → Same H H' → Q (.ref r) H'
theorem sc_mul : FnScope ["self", "other"] ["self", "other"] (defScope s_mul) := ⟨rfl, rfl, rfl, by decide +kernel, rfl, by decide +kernel, by decide +kernel⟩
theorem ok_mul {f fI : Addr} {fd fdI : FuncData} {ds : List Value} (F : Fun K "__mul__" "Ratio.__mul__" s_mul f fd) (R : TxR K mg C Z) (M : MkR P w K mg base C Z fI fdI ds) : FnOk P w K mg base CX0 43 f fd ["self", "other"] (sp_mul C) := by
  refine F.ok sc_mul (fun vs H Q E h => ?_) (fun cdv A outer s H vs Q E hr h => ?_)
  · obtain ⟨p, q, a, b, c, d, rfl, _⟩ := h
    rfl
  · obtain ⟨p, q, a, b, c, d, rfl, ⟨dx, hp⟩, ⟨dy, hq⟩, h1, h2, ba, bb, bc, bd, k⟩ := h
    refine ⟨_, pss_one (ps_ret (pe_make M.cm M.fn hr (by rfl) R.mgC M.b2 .nil passL (pa_cons (pe_op op_mulB (pe_fld (pv 0) rfl) (pe_fld (pv 1) rfl)) (pa_cons (pe_op op_mulB (pe_fld (pv 0) rfl) (pe_fld (pv 1) rfl)) pa_nil)))), ?_⟩
    refine ⟨_, rfl, p, C, dx, _, _, rfl, hp, R.cl, R.nN, rf_n _ _, _, rfl, q, C, dy, _, _, rfl, hq, R.cl, R.nN, rf_n _ _, _, _, rfl, rfl, bd2 ba bc, _, rfl, p, C, dx, _, _, rfl, hp, R.cl, R.nD, rf_d _ _, _, rfl, q, C, dy, _, _, rfl, hq, R.cl, R.nD, rf_d _ _, _, _, rfl, rfl, bd2 bb bd, ?_⟩
    exact fun r dr nr ndr ner => ⟨r, dr, _, _, rfl, upd_same, fun z => absurd z (Int.mul_ne_zero h1 h2), fun _ H' rr kk => ⟨rfl, k H' r rr (Same.made nr ndr kk)⟩⟩
abbrev s_neg : Stmt := inClass (top 29) 4
def sp_neg (C : Addr) : Sp := fun vs H Q _ => ∃ (p : Addr) (a b : Int), vs = [.ref p] ∧ RatAt C H p a b ∧ b ≠ 0 ∧ ∀ (H' : Hp) (r : Addr), RatAt C H' r (nN (-a) b) (nD (-a) b) → Same H H' → Q (.ref r) H'
theorem sc_neg : FnScope ["self"] ["self"] (defScope s_neg) := ⟨rfl, rfl, rfl, by decide +kernel, rfl, by decide +kernel, by decide +kernel⟩
theorem ok_neg {f fI : Addr} {fd fdI : FuncData} {ds : List Value} (F : Fun K "__neg__" "Ratio.__neg__" s_neg f fd) (R : TxR K mg C Z) (M : MkR P w K mg base C Z fI fdI ds) : FnOk P w K mg base CX0 43 f fd ["self"] (sp_neg C) := by
  refine F.ok sc_neg (fun vs H Q E h => ?_) (fun cdv A outer s H vs Q E hr h => ?_)
  · obtain ⟨p, a, b, rfl, _⟩ := h
    rfl
  · obtain ⟨p, a, b, rfl, ⟨dx, hp⟩, h1, k⟩ := h
    refine ⟨_, pss_one (ps_ret (pe_make M.cm M.fn hr (by rfl) R.mgC M.b2 .nil passL (pa_cons (pe_un un_neg (pe_fld (pv 0) rfl)) (pa_cons (pe_fld (pv 0) rfl) pa_nil)))), ?_⟩
    refine ⟨_, rfl, p, C, dx, _, _, rfl, hp, R.cl, R.nN, rf_n _ _, _, rfl, _, rfl, p, C, dx, _, _, rfl, hp, R.cl, R.nD, rf_d _ _, ?_⟩
    exact fun r dr nr ndr ner => ⟨r, dr, _, _, rfl, upd_same, fun z => absurd z h1, fun _ H' rr kk => ⟨rfl, k H' r rr (Same.made nr ndr kk)⟩⟩
/-! ### power_of over ints -/
abbrev sPowOf : Stmt := top 12
def spPowI : Sp := fun vs H Q _ => ∃ (b : Int) (k : Nat), vs = [.int b, .int k, .int 1] ∧ k ≤ 8 ∧ intBits b ≤ 3000000 ∧ Q (.int (b ^ k)) H
theorem scPO : FnScope ["base", "k", "unit", "found"] ["base", "k", "unit"] (defScope sPowOf) := ⟨rfl, rfl, rfl, by decide +kernel, rfl, by decide +kernel, by decide +kernel⟩
theorem bits_pow {b : Int} {e : Nat} (h : intBits b ≤ 3000000) (he : e ≤ 8) : intBits (b ^ e) ≤ 24000001 := by
  refine Nat.le_trans (PySem.intBits_pow_le h e) ?_
  have : 3000000 * e ≤ 3000000 * 8 := Nat.mul_le_mul_left _ he
  omega
theorem ok_powOf {f : Addr} {fd : FuncData} (F : Fun K "power_of" "power_of" sPowOf f fd) : FnOk P w K mg base CX0 1 f fd ["base", "k", "unit"] spPowI := by
  refine F.ok scPO (fun vs H Q E h => ?_) (fun cdv A outer s H vs Q E hr h => ?_)
  · obtain ⟨b, k, rfl, _⟩ := h
    rfl
  · obtain ⟨b, k, rfl, hk, hb, q⟩ := h
    refine ⟨_, pss_cons (ps_set (i := 3) scPO.nd rfl (Or.inl rfl) (pv 2))
      (pss_cons (ps_while PassesOwn.never (pt_cmpR op_gt (pv 1) pe_int (nomark _))
        (C8.pss_cut (ps_if (pt_cmpR op_eq (pe_op op_modN (pv 1) pe_int) pe_int (nomark _)) (pss_one (ps_set (i := 3) scPO.nd rfl (Or.inl rfl) (pe_op op_mulB (pv 3) (pv 0)))) pss_nil)
        (pss_cons (ps_set (i := 1) scPO.nd rfl (Or.inl rfl) (pe_op op_fdivN (pv 1) pe_int))
        (pss_one (ps_if (pt_cmpR op_gt (pv 1) pe_int (nomark _)) (pss_one (ps_set (i := 0) scPO.nd rfl (Or.inl rfl) (pe_op op_mulB (pv 0) (pv 0)))) pss_nil)))))
      (pss_one (ps_ret (pv 3)))), ?_⟩
    refine ⟨_, rfl, ?_⟩
    refine while_by (fun σ H' => H' = H ∧ ∃ e g j : Nat, σ = [some (.int (b ^ e)), some (.int (j : Int)), some (.int 1), some (.int (b ^ g))] ∧ e * j + g = k ∧ 1 ≤ e)
      (fun σ _ => match σ[1]? with | some (some (V.int y)) => y.toNat | _ => 0) ⟨rfl, 1, 0, k, by rw [show b ^ 1 = b by rw [Int.pow_succ, Int.pow_zero, Int.one_mul], Int.pow_zero]; rfl, by omega, Nat.le_refl _⟩ ?_ ?_
    · rintro σ H' ⟨rfl, e, g, j, rfl, hj, he⟩
      refine ⟨_, rfl, _, _, rfl, rfl, _, rfl, ite2 (fun c => ?_) (fun c => ?_)⟩
      · have hj0 : 0 < j := by
          have := of_decide_eq_true c
          omega
        have hge : e + g ≤ k := by
          have : e * 1 ≤ e * j := Nat.mul_le_mul_left _ hj0
          omega
        have w1 := bits_pow (b := b) (e := e) hb (by omega)
        have w2 := bits_pow (b := b) (e := g) hb (by omega)
        have em : ((j : Int)).fmod 2 = ((j % 2 : Nat) : Int) := by
          rw [Int.fmod_eq_emod_of_nonneg _ (by omega)]
          rfl
        have ed : ((j : Int)).fdiv 2 = ((j / 2 : Nat) : Int) := by
          rw [Int.fdiv_eq_ediv_of_nonneg _ (by omega)]
          rfl
        refine ⟨fun σ' H2 => H2 = H' ∧ ∃ g' : Nat, σ' = [some (.int (b ^ e)), some (.int (j : Int)), some (.int 1), some (.int (b ^ g'))] ∧ g' = g + e * (j % 2), ?_, ?_⟩
        · refine ⟨_, rfl, _, _, rfl, rfl, (by show (2 : Int) ≠ 0; decide), rfl, _, rfl, ite2 (fun c2 => ?_) (fun c2 => ?_)⟩
          · refine ⟨_, rfl, _, rfl, _, _, rfl, rfl, (by show intBits (b ^ g) + intBits (b ^ e) ≤ 134217728; omega), rfl, g + e, ?_, ?_⟩
            · rw [Int.pow_add]
              rfl
            · have z : V.int ((j : Int).fmod 2) = V.int 1 := of_decide_eq_true c2
              rw [em] at z
              have z2 := V.int.inj z
              have z3 : j % 2 = 1 := by omega
              rw [z3, Nat.mul_one]
          · refine ⟨rfl, g, rfl, ?_⟩
            have z : ¬ V.int ((j : Int).fmod 2) = V.int 1 := fun z => c2 (decide_eq_true z)
            rw [em] at z
            have z3 : j % 2 = 0 := by
              have : ¬ ((j % 2 : Nat) : Int) = 1 := fun q => z (by rw [q])
              omega
            rw [z3, Nat.mul_zero, Nat.add_zero]
        · rintro σ' H2 ⟨rfl, g', rfl, hg'⟩
          have hdm : j = 2 * (j / 2) + j % 2 := (Nat.div_add_mod j 2).symm
          have hsum : 2 * e * (j / 2) + g' = k := by
            rw [hg']
            have : e * j = e * (2 * (j / 2)) + e * (j % 2) := by rw [← Nat.mul_add, ← hdm]
            have : e * (2 * (j / 2)) = 2 * e * (j / 2) := by ac_rfl
            omega
          have hlt : j / 2 < j := Nat.div_lt_self hj0 (by decide)
          refine ⟨_, rfl, _, _, rfl, rfl, ⟨(by show (2 : Int) ≠ 0; decide), by decide⟩, _, rfl, _, _, rfl, rfl, _, rfl, ite2 (fun c3 => ?_) (fun c3 => ?_)⟩
          · have hpos : 0 < j / 2 := by
              have z := of_decide_eq_true c3
              have z2 : (0 : Int) < ((j / 2 : Nat) : Int) := by rw [← ed]; exact z
              omega
            refine ⟨_, rfl, _, rfl, _, _, rfl, rfl, (by show intBits (b ^ e) + intBits (b ^ e) ≤ 134217728; omega), ⟨rfl, 2 * e, g', j / 2, ?_, hsum, by omega⟩, ?_⟩
            · have ep : b ^ e * b ^ e = b ^ (2 * e) := by rw [← Int.pow_add, Nat.two_mul]
              rw [← ed, ← ep]
              rfl
            · show ((j : Int).fdiv 2).toNat < ((j : Nat) : Int).toNat
              rw [ed]
              omega
          · have hz : j / 2 = 0 := by
              have z : ¬ (0 : Int) < ((j / 2 : Nat) : Int) := fun z => c3 (decide_eq_true (by rw [← ed] at z; exact z))
              omega
            refine ⟨⟨rfl, e, g', j / 2, ?_, ?_, he⟩, ?_⟩
            · rw [← ed]
              rfl
            · rw [hz] at hsum ⊢
              rw [Nat.mul_zero] at hsum ⊢
              exact hsum
            · show ((j : Int).fdiv 2).toNat < ((j : Nat) : Int).toNat
              rw [ed]
              omega
      · have hj0 : j = 0 := by
          have z : ¬ (0 : Int) < (j : Int) := fun z => c (decide_eq_true z)
          omega
        subst hj0
        rw [Nat.mul_zero, Nat.zero_add] at hj
        refine ⟨_, rfl, ?_⟩
        rw [hj]
        exact q
    · rintro σ H' R R' hR ⟨v, e1, i1, i2, e2, e3, b1, e4, h3⟩
      exact ⟨v, e1, i1, i2, e2, e3, b1, e4, hR _ _ h3⟩
abbrev s_pow : Stmt := inClass (top 29) 9
/-- a power with an exponent from 0 on -/
def sp_pow0 (C : Addr) : Sp := fun vs H Q _ => ∃ (p : Addr) (a b : Int) (k : Nat), vs = [.ref p, .int k] ∧ k ≤ 8 ∧ RatAt C H p a b ∧ b ≠ 0 ∧ intBits a ≤ 3000000 ∧ intBits b ≤ 3000000 ∧
  ∀ (H' : Hp) (r : Addr), RatAt C H' r (nN (a ^ k) (b ^ k)) (nD (a ^ k) (b ^ k)) → Same H H' → Q (.ref r) H'
theorem sc_pow : FnScope ["self", "k"] ["self", "k"] (defScope s_pow) := ⟨rfl, rfl, rfl, by decide +kernel, rfl, by decide +kernel, by decide +kernel⟩
theorem pow_ne {b : Int} (h : b ≠ 0) (k : Nat) : b ^ k ≠ 0 := by
  induction k with
  | zero => rw [Int.pow_zero]; decide
  | succ k ih =>
    rw [Int.pow_succ]
    exact Int.mul_ne_zero ih h
theorem ok_pow0 {f fI fP : Addr} {fd fdI fdP : FuncData} {ds : List Value} (F : Fun K "power" "Ratio.power" s_pow f fd) (R : TxR K mg C Z) (M : MkR P w K mg base C Z fI fdI ds) (FP : Fun K "power_of" "power_of" sPowOf fP fdP) (bP : Binds K fdP ["base", "k", "unit"] []) (gP : mg "power_of" = some (.ref fP)) :
    FnOk P w K mg base CX0 43 f fd ["self", "k"] (sp_pow0 C) := by
  have GP : FnOk P w K mg base CX0 1 fP fdP ["base", "k", "unit"] spPowI := ok_powOf FP
  refine F.ok sc_pow (fun vs H Q E h => ?_) (fun cdv A outer s H vs Q E hr h => ?_)
  · obtain ⟨p, a, b, k, rfl, _⟩ := h
    rfl
  · obtain ⟨p, a, b, k, rfl, hk, ⟨dx, hp⟩, h1, ba, bb, q⟩ := h
    have hr1 : Room 1 _ := hr.mono (by decide)
    refine ⟨_, pss_cons (ps_if (pt_cmpR op_lt (pv 1) pe_int (nomark _)) (pss_one ps_never) pss_nil)
      (pss_one (ps_ret (pe_make M.cm M.fn hr (by rfl) R.mgC M.b2 .nil passL (pa_cons (pe_call GP hr1 (by rfl) gP FP.kp bP .nil pass0 (pa_cons (pe_fld (pv 0) rfl) (pa_cons (pv 1) (pa_cons pe_int pa_nil))))
        (pa_cons (pe_call GP hr1 (by rfl) gP FP.kp bP .nil pass0 (pa_cons (pe_fld (pv 0) rfl) (pa_cons (pv 1) (pa_cons pe_int pa_nil)))) pa_nil))))), ?_⟩
    refine ⟨_, rfl, _, _, rfl, rfl, _, rfl, ite2 (fun c => absurd (of_decide_eq_true c) (by omega)) (fun _ => ?_)⟩
    refine ⟨_, rfl, p, C, dx, _, _, rfl, hp, R.cl, R.nN, rf_n _ _, _, rfl, a, k, rfl, hk, ba, _, rfl, p, C, dx, _, _, rfl, hp, R.cl, R.nD, rf_d _ _, _, rfl, b, k, rfl, hk, bb, ?_⟩
    exact fun r dr nr ndr ner => ⟨r, dr, _, _, rfl, upd_same, fun z => absurd z (pow_ne h1 k), fun _ H' rr kk => ⟨rfl, q H' r rr (Same.made nr ndr kk)⟩⟩
/-! ### over numbers -/
def subq (a b : Q2) : Q2 := mkq (a.1 * b.2 - b.1 * a.2) (a.2 * b.2)
def negq (a : Q2) : Q2 := mkq (-a.1) a.2
theorem rv_sub {a b : Q2} (ha : Lo a) (hb : Lo b) : rv (subq a b) = rv a - rv b := by
  unfold subq
  rw [rv_mk (Int.mul_ne_zero ha.ne hb.ne), Rat.intCast_sub, Rat.intCast_mul, Rat.intCast_mul, Rat.intCast_mul]
  have h1 := cst_ne ha.ne
  have h2 := cst_ne hb.ne
  unfold rv
  grind
theorem rv_neg {a : Q2} (ha : Lo a) : rv (negq a) = -rv a := by
  unfold negq
  rw [rv_mk ha.ne, Rat.intCast_neg]
  have h1 := cst_ne ha.ne
  unfold rv
  grind
def spMulR (C : Addr) : Sp := fun vs H Q _ => ∃ (p r : Addr) (a b : Q2), vs = [.ref p, .ref r] ∧ RatQ C H p a ∧ RatQ C H r b ∧ Lo a ∧ Lo b ∧ Bg a ∧ Bg b ∧ ∀ (H' : Hp) (t : Addr), Same H H' → RatQ C H' t (mulq a b) → Q (.ref t) H'
def spSubR (C : Addr) : Sp := fun vs H Q _ => ∃ (p r : Addr) (a b : Q2), vs = [.ref p, .ref r] ∧ RatQ C H p a ∧ RatQ C H r b ∧ Lo a ∧ Lo b ∧ Bg a ∧ Bg b ∧ ∀ (H' : Hp) (t : Addr), Same H H' → RatQ C H' t (subq a b) → Q (.ref t) H'
def spNegR (C : Addr) : Sp := fun vs H Q _ => ∃ (p : Addr) (a : Q2), vs = [.ref p] ∧ RatQ C H p a ∧ Lo a ∧ ∀ (H' : Hp) (t : Addr), Same H H' → RatQ C H' t (negq a) → Q (.ref t) H'
theorem mulR {f : Addr} {fd : FuncData} (h : FnOk P w K mg base CX0 43 f fd ["self", "other"] (sp_mul C)) : FnOk P w K mg base CX0 43 f fd ["self", "other"] (spMulR C) :=
  h.imp fun vs H Q E ⟨p, r, a, b, e, h1, h2, la, lb, ga, gb, k⟩ => ⟨p, r, a.1, a.2, b.1, b.2, e, h1, h2, la.ne, lb.ne, ga.1, ga.2, gb.1, gb.2, fun H' t z s => k H' t s z⟩
theorem subR {f : Addr} {fd : FuncData} (h : FnOk P w K mg base CX0 43 f fd ["self", "other"] (sp_sub C)) : FnOk P w K mg base CX0 43 f fd ["self", "other"] (spSubR C) :=
  h.imp fun vs H Q E ⟨p, r, a, b, e, h1, h2, la, lb, ga, gb, k⟩ => ⟨p, r, a.1, a.2, b.1, b.2, e, h1, h2, la.ne, lb.ne, ga.1, ga.2, gb.1, gb.2, fun H' t z s => k H' t s z⟩
theorem negR {f : Addr} {fd : FuncData} (h : FnOk P w K mg base CX0 43 f fd ["self"] (sp_neg C)) : FnOk P w K mg base CX0 43 f fd ["self"] (spNegR C) :=
  h.imp fun vs H Q E ⟨p, a, e, h1, la, k⟩ => ⟨p, a.1, a.2, e, h1, la.ne, fun H' t z s => k H' t s z⟩
def powq (a : Q2) (k : Nat) : Q2 := mkq (a.1 ^ k) (a.2 ^ k)
theorem rv_powq {a : Q2} (ha : Lo a) (k : Nat) : rv (powq a k) = rp (rv a) k := by
  unfold powq
  rw [rv_mk (pow_ne ha.ne k)]
  have h1 := cst_ne ha.ne
  induction k with
  | zero =>
    rw [Int.pow_zero, Int.pow_zero]
    show ((1 : Int) : Rat) / ((1 : Int) : Rat) = 1
    grind
  | succ k ih =>
    show _ = rp (rv a) k * rv a
    rw [← ih, Int.pow_succ, Int.pow_succ, Rat.intCast_mul, Rat.intCast_mul]
    have h2 := cst_ne (pow_ne ha.ne k)
    unfold rv
    grind
theorem lo_powq {a : Q2} (ha : Lo a) (k : Nat) : Lo (powq a k) := lo_mk (pow_ne ha.ne k)
theorem bq_powq {a : Q2} {m : Nat} (h : Bq m a) (k : Nat) : Bq (m * k + 1) (powq a k) := bq_mk (PySem.intBits_pow_le h.1 k) (PySem.intBits_pow_le h.2 k)
def spPowR (C : Addr) : Sp := fun vs H Q _ => ∃ (p : Addr) (a : Q2) (k : Nat), vs = [.ref p, .int k] ∧ k ≤ 8 ∧ RatQ C H p a ∧ Lo a ∧ Bq 3000000 a ∧ ∀ (H' : Hp) (t : Addr), Same H H' → RatQ C H' t (powq a k) → Q (.ref t) H'
theorem powR {f : Addr} {fd : FuncData} (h : FnOk P w K mg base CX0 43 f fd ["self", "k"] (sp_pow0 C)) : FnOk P w K mg base CX0 43 f fd ["self", "k"] (spPowR C) :=
  h.imp fun vs H Q E ⟨p, a, k, e, hk, h1, la, bq, q⟩ => ⟨p, a.1, a.2, k, e, hk, h1, la.ne, bq.1, bq.2, fun H' t z s => q H' t s z⟩
end
end Ind

set_option Elab.async false
set_option linter.all false
set_option maxRecDepth 100000
set_option maxHeartbeats 4000000
set_option exponentiation.threshold 9000
namespace Ind
open PySem PySem.Spec PyProof.Rows L2
open Builtin.Int (intBits)
abbrev sPLa : Stmt := inClass (top 34) 12
abbrev sPSc : Stmt := inClass (top 34) 15
abbrev sCst : Stmt := top 36
def spPLa (C Z CP : Addr) : Sp := fun vs H Q E => ∃ (p : Addr) (as : List Q2), vs = [.ref p] ∧ PolyAt C CP H p as ∧ (as = [] → E (.ref Z) none H) ∧ (∀ (r : Addr) (q : Q2), as.getLast? = some q → RatQ C H r q → Q (.ref r) H)
def spPSc (C CP : Addr) : Sp := fun vs H Q _ => ∃ (p r : Addr) (as : List Q2) (q : Q2) (k m : Nat), vs = [.ref p, .ref r] ∧ PolyAt C CP H p as ∧ RatQ C H r q ∧ Lo q ∧ PSz k as ∧ intBits q.1 ≤ m ∧ intBits q.2 ≤ m ∧ k + m ≤ 40000000 ∧ ResQ C CP (k + m) as.length (fun j => rowF as j * rv q) H Q
def spCst (C CP : Addr) : Sp := fun vs H Q _ => ∃ (r : Addr) (q : Q2) (k : Nat), vs = [.ref r] ∧ RatQ C H r q ∧ Lo q ∧ intBits q.1 ≤ k ∧ intBits q.2 ≤ k ∧ 1 ≤ k ∧ k ≤ 40000000 ∧ ∀ (H' : Hp) (t : Addr), Same H H' → PolyAt C CP H' t (trimQ [q]) → PSz k (trimQ [q]) → Q (.ref t) H'
section
variable {P : Program} {w : World} {K : PySem.W.Frag} {mg : Str → Option Value} {base : Heap} {C Z CP : Addr}
theorem scPLa : FnScope nSf ["self"] (defScope sPLa) := ⟨rfl, rfl, rfl, by decide +kernel, rfl, by decide +kernel, by decide +kernel⟩
theorem paired_last {α β : Type} {F : α → β → Prop} : ∀ {xs : List α} {ys : List β} {i : Nat} {y : β}, Paired F xs ys → ys[i]? = some y → ∃ x, xs[i]? = some x ∧ F x y
  | _, _, 0, _, .cons a _, e => ⟨_, rfl, by cases e; exact a⟩
  | _, _, i + 1, _, .cons _ t, e => paired_last (i := i) t e
theorem ok_pla {f fI : Addr} {fd fdI : FuncData} (F : Fun K "last" "Poly.last" sPLa f fd) (R : TxR K mg C Z) (TP : TxP K mg CP) (GI : FnOk P w K mg base CX0 1 fI fdI ["self"] (spPIz C CP)) (bI : Binds K fdI ["self"] []) (mI : Meth K CP "is_zero" fI) : FnOk P w K mg base (L2.CX P w) 2 f fd ["self"] (spPLa C Z CP) := by
  refine F.okX scPLa (fun vs H Q E h => ?_) (fun cdv A outer s H vs Q E hr h => ?_)
  · obtain ⟨p, as, rfl, _⟩ := h
    rfl
  · obtain ⟨p, as, rfl, ⟨dp, rp, np, ep, ⟨pa, era, qa⟩, hnp, ht⟩, kz, k⟩ := h
    refine ⟨_, pss_cons (ps_if (pt_val (pe_meth0 (pv 0) TP.cl mI GI hr bI .nil pass0)) (pss_one (ps_raise rfl (takes_of rfl rfl rfl rfl) (pmk_own PySem.F.excBase_ValueError R.xZ R.gZ R.kZ (raises_own R.bZ R.tZ) rfl))) pss_nil)
      (pss_one (ps_ret (pe_ix ix_tup (pe_fld (pv 0) rfl) (pe_un un_neg pe_int) fun _ _ => rfl))), ?_⟩
    refine ⟨_, rfl, p, dp, _, rfl, ep, by rfl, p, as, rfl, ⟨dp, rp, np, ep, ⟨pa, era, qa⟩, hnp, ht⟩, _, rfl, ite2 (fun c => ?_) (fun c => ?_)⟩
    · have c := of_decide_eq_true c
      exact kz (List.length_eq_zero_iff.mp c)
    · have c : ¬ as.length = 0 := fun z => c (decide_eq_true z)
      obtain ⟨q, hq⟩ : ∃ q, as[as.length - 1]? = some q := ⟨_, List.getElem?_eq_getElem (by omega)⟩
      obtain ⟨r, hr1, hr2⟩ := paired_last qa hq
      have hl := paired_len qa
      have hat : atI (pa.map V.ref) (-1) = some (.ref r) := by
        have e : pa = pa.take (as.length - 1) ++ [r] := by
          have := List.take_append_drop (as.length - 1) pa
          rw [List.drop_eq_getElem_cons (by omega), List.drop_of_length_le (by omega)] at this
          rw [List.getElem?_eq_getElem (by omega)] at hr1
          rw [Option.some.inj hr1] at this
          exact this.symm
        rw [e, List.map_append]
        exact atI_last _ _
      exact ⟨_, rfl, p, CP, dp, _, _, rfl, ep, TP.cl, TP.nR, pf_row _ _ _, _, rfl, rp, _, _, .ref r, rfl, rfl, SqT.of era, hat, k r q (by rw [List.getLast?_eq_getElem?]; exact hq) hr2⟩
abbrev nPSc : List Str := ["self", "r", "n"]
theorem scPSc : FnScope nPSc ["self", "r"] (defScope sPSc) := ⟨rfl, rfl, rfl, by decide +kernel, rfl, by decide +kernel, by decide +kernel⟩
theorem ok_psc {f fN fS fP : Addr} {fd fdN fdS fdP : FuncData} (F : Fun K "scaled" "Poly.scaled" sPSc f fd) (R : TxR K mg C Z) (TP : TxP K mg CP) (O : TxO P w K mg base C CP fN fS fP fdN fdS fdP) : FnOk P w K mg base CX0 46 f fd ["self", "r"] (spPSc C CP) := by
  refine F.ok scPSc (fun vs H Q E h => ?_) (fun cdv A outer s H vs Q E hr h => ?_)
  · obtain ⟨p, r, as, q, k, m, rfl, _⟩ := h
    rfl
  · obtain ⟨p, r, as, q, k, m, rfl, ⟨dp, rp, np, ep, _, hnp, _⟩, ⟨dx, hpr⟩, lq, za, b1, b2, hk, res⟩ := h
    refine ⟨_, pss_one (ps_ret (pe_call O.fnN hr (by rfl) O.gN O.kN O.bN .nil pass0 (pa_cons (pe_lc (own := [("n", 2)]) (g := gName 2) (tt := tYes) (te := tOp (rI (fun i j => intBits i + intBits j ≤ 134217728) fun i j => .int (i * j)) (tVar 2) (tFld K (tVar 1) "n")) rfl scPSc.nd (pi_tup (pe_fld (pv 0) rfl)) (blkOk_by (N := nPSc) (sc := defScope sPSc) (by decide +kernel))
          (fun _ _ _ _ _ => pg_name (i := 2) scPSc.nd rfl (Or.inl rfl)) (fun _ _ _ _ _ => pts_nil) (fun _ _ _ _ _ => pe_op op_mulB (pv 2) (pe_fld (pv 1) rfl))) (pa_cons (pe_op op_mulB (pe_fld (pv 0) rfl) (pe_fld (pv 1) rfl)) pa_nil)))), ?_⟩
    obtain ⟨ba, na⟩ := psz_lcm za
    have pa := lcmD_pos za.1
    have l1 := za.2.1
    have pq := lq.pos
    refine ⟨_, rfl, p, CP, dp, _, _, rfl, ep, TP.cl, TP.nN, pf_num _ _ _, np, rfl, ⟨_, SqT.of hnp⟩, fun D hD => lc_tup (K := K) (a := np) (xs := (partsOf ((lcmD as : Nat) : Int) as).map V.int) (fun i H2 => ColI D H H2 (((partsOf ((lcmD as : Nat) : Int) as).take i).map fun n => n * q.1)) (ColI.start hD) (fun i H2 _ z => .of (z.s _ _ hnp)) ?_ ?_⟩
    · rintro i x H2 hx z
      obtain ⟨n, hn, rfl⟩ := int_of hx
      have hi := (List.getElem?_eq_some_iff.mp hn).1
      have bn := na n (List.mem_of_getElem? hn)
      rw [parts_len2] at hi
      refine ⟨rfl, _, rfl, _, rfl, r, C, dx, _, _, rfl, z.s _ _ hpr, R.cl, R.nN, rf_n _ _, _, _, rfl, rfl, (by show intBits n + intBits q.1 ≤ 134217728; omega), ?_⟩
      rw [map_take_snoc hn]
      refine z.push hD same_rfl ?_
      rw [List.length_map, List.length_take, parts_len2]
      omega
    rintro H2 z
    rw [List.length_map, List.take_length] at z
    have hbn : ∀ u ∈ (partsOf ((lcmD as : Nat) : Int) as).map fun n => n * q.1, intBits u ≤ k + m := fun u hu => by
      obtain ⟨n, hn, rfl⟩ := List.mem_map.mp hu
      have := PySem.intBits_mul_le (na n hn) b1
      omega
    have bm := PySem.intBits_mul_le ba b2
    have hne : ((lcmD as : Nat) : Int) * q.2 ≠ 0 := Int.mul_ne_zero (by omega) (by omega)
    refine ⟨_, rfl, p, CP, dp, _, _, rfl, z.s _ _ ep, TP.cl, TP.nB, pf_bel _ _ _, _, rfl, r, C, dx, _, _, rfl, z.s _ _ hpr, R.cl, R.nD, rf_d _ _, _, _, rfl, rfl, (by show intBits _ + intBits q.2 ≤ 134217728; omega), ?_⟩
    refine ⟨D, _, _, k + m, rfl, .inl z.at_, hne, by rw [List.length_map, parts_len2]; omega, by omega, hbn, by omega, res_of res hne (by rw [List.length_map, parts_len2]; omega) (by rw [List.length_map, parts_len2]; exact Nat.le_refl _) (by omega) hbn (fun j => ?_) z.s⟩
    rw [getD_map (f := fun n => n * q.1) (by omega), Rat.intCast_mul, Rat.intCast_mul, num_fr za.1]
    have hq0 := cst_ne (show q.2 ≠ 0 by omega)
    have e2 : ((q.2 : Int) : Rat) * rv q = ((q.1 : Int) : Rat) := by
      unfold rv
      grind
    grind
theorem psz_mon {q : Q2} {k n : Nat} (lq : Lo q) (h1 : intBits q.1 ≤ k) (h2 : intBits q.2 ≤ k) (hn : n < 100) (hk : 1 ≤ k) : PSz k (List.replicate n ((0 : Int), (1 : Int)) ++ [q]) := by
  have l0 : Lo ((0 : Int), (1 : Int)) := ⟨by decide, by decide⟩
  have hm : ∀ u ∈ List.replicate n ((0 : Int), (1 : Int)) ++ [q], u = (0, 1) ∨ u = q := fun u hu => by
    rcases List.mem_append.mp hu with h | h
    · exact .inl (List.eq_of_mem_replicate h)
    · exact .inr (List.mem_singleton.mp h)
  refine ⟨fun u hu => ?_, by rw [List.length_append, List.length_replicate]; show n + 1 ≤ 100; omega, q.2, lq.pos, h2, fun u hu => ?_⟩
  · rcases hm u hu with e | e <;> rw [e] <;> assumption
  · rcases hm u hu with e | e
    · rw [e]
      refine ⟨⟨q.2, by show q.2 = 1 * q.2; omega⟩, ?_⟩
      rw [Int.zero_mul]
      exact Nat.le_trans (show intBits 0 ≤ 0 by decide) (Nat.zero_le _)
    · rw [e]
      refine ⟨⟨1, by omega⟩, ?_⟩
      rw [show q.2.fdiv q.2 = 1 by
        have := Int.mul_fdiv_cancel 1 (Int.ne_of_gt lq.pos)
        rw [Int.one_mul] at this
        exact this, Int.mul_one]
      exact h1
theorem scCst : FnScope ["r"] ["r"] (defScope sCst) := ⟨rfl, rfl, rfl, by decide +kernel, rfl, by decide +kernel, by decide +kernel⟩
theorem psz_trim {k : Nat} {qs : List Q2} (h : PSz k qs) : PSz k (trimQ qs) := psz_sub h (fun q hq => trim_mem hq) (trim_len _)
theorem ok_cst {f fP : Addr} {fd fdP : FuncData} (F : Fun K "constant" "constant" sCst f fd) (TP : TxP K mg CP) (MP : MkP P w K mg base C CP fP fdP) : FnOk P w K mg base CX0 45 f fd ["r"] (spCst C CP) := by
  refine F.ok scCst (fun vs H Q E h => ?_) (fun cdv A outer s H vs Q E hr h => ?_)
  · obtain ⟨r, q, k, rfl, _⟩ := h
    rfl
  · obtain ⟨r, q, k, rfl, hq, lq, b1, b2, k1, k2, res⟩ := h
    refine ⟨_, pss_one (ps_ret (pe_make MP.cm MP.fn hr (by rfl) TP.mgP MP.b .nil pass0 (pa_cons (pe_tup (pa_cons (pv 0) pa_nil)) pa_nil))), ?_⟩
    refine ⟨_, rfl, (by show 1 ≤ sizeLine; decide), fun t ht => ?_⟩
    have st : Same H (upd H t (.tup [V.ref r])) := same_upd ht
    have ps := psz_mon (n := 0) lq b1 b2 (by decide) k1
    have goal : ∀ x dx, upd H t (.tup [V.ref r]) x = none → upd H t (.tup [V.ref r]) dx = none → dx ≠ x → spPI C CP [.ref x, .ref t] (upd (upd (upd H t (.tup [V.ref r])) dx (.own x)) x (.ins CP dx [])) (fun v H3 => v = .non ∧ Q (.ref x) H3) E0 :=
      mkP_ok (qs := [q]) (.inr upd_same) (.cons (.inl ⟨r, rfl, (RatQ.stb C).same st hq, lq⟩) .nil) ps k2 fun p H' hp s' => res H' p (st.trans s') hp (psz_trim ps)
    exact goal
end
end Ind

set_option Elab.async false
set_option linter.all false
set_option maxRecDepth 100000
set_option maxHeartbeats 4000000
set_option exponentiation.threshold 9000
namespace Ind
open PySem PySem.Spec PyProof.Rows L2
open Builtin.Int (intBits)
abbrev sCont : Stmt := top 14
/-- the greatest common divisor of a row -/
def gcdN (ns : List Int) : Nat := ns.foldl (fun g n => Nat.gcd g n.natAbs) 0
theorem gcdN_snoc (ns : List Int) (n : Int) : gcdN (ns ++ [n]) = Nat.gcd (gcdN ns) n.natAbs := by
  unfold gcdN
  rw [List.foldl_append]
  rfl
theorem gcd_fold : ∀ (ns : List Int) (g : Nat), ns.foldl (fun g n => Nat.gcd g n.natAbs) g ∣ g ∧ ∀ n ∈ ns, ns.foldl (fun g n => Nat.gcd g n.natAbs) g ∣ n.natAbs
  | [], g => ⟨Nat.dvd_refl _, fun n h => by cases h⟩
  | m :: ns, g => by
    obtain ⟨h1, h2⟩ := gcd_fold ns (Nat.gcd g m.natAbs)
    refine ⟨Nat.dvd_trans h1 (Nat.gcd_dvd_left _ _), fun n hn => ?_⟩
    rcases List.mem_cons.mp hn with e | e
    · rw [e]
      exact Nat.dvd_trans h1 (Nat.gcd_dvd_right _ _)
    · exact h2 n e
theorem gcdN_dvd {ns : List Int} {n : Int} (h : n ∈ ns) : gcdN ns ∣ n.natAbs := (gcd_fold ns 0).2 n h
theorem gcdN_pre (as bs : List Int) : gcdN (as ++ bs) ∣ gcdN as := by
  unfold gcdN
  rw [List.foldl_append]
  exact (gcd_fold bs _).1
theorem gcdN_great {ns : List Int} {d : Nat} (h : ∀ n ∈ ns, d ∣ n.natAbs) : d ∣ gcdN ns := by
  have : ∀ (ns : List Int) (g : Nat), d ∣ g → (∀ n ∈ ns, d ∣ n.natAbs) → d ∣ ns.foldl (fun g n => Nat.gcd g n.natAbs) g := by
    intro ns
    induction ns with
    | nil => exact fun g hg _ => hg
    | cons m ns ih => exact fun g hg h => ih _ (Nat.dvd_gcd hg (h m (by simp))) fun n hn => h n (List.mem_cons_of_mem _ hn)
  exact this ns 0 (Nat.dvd_zero _) h
def spCont : Sp := fun vs H Q _ => ∃ (t : Addr) (ns : List Int), vs = [.ref t] ∧ IntsAt H t ns ∧ Q (.int ((gcdN ns : Nat) : Int)) H
section
variable {P : Program} {w : World} {K : PySem.W.Frag} {mg : Str → Option Value} {base : Heap} {C Z CP : Addr}
abbrev nCont : List Str := ["row", "found", "n"]
theorem scCont : FnScope nCont ["row"] (defScope sCont) := ⟨rfl, rfl, rfl, by decide +kernel, rfl, by decide +kernel, by decide +kernel⟩
theorem ok_cont {f : Addr} {fd : FuncData} (F : Fun K "content" "content" sCont f fd) (gg : mg "gcd" = some (.builtin "math.gcd")) : FnOk P w K mg base CX0 1 f fd ["row"] spCont := by
  refine F.ok scCont (fun vs H Q E h => ?_) (fun cdv A outer s H vs Q E hr h => ?_)
  · obtain ⟨t, ns, rfl, _⟩ := h
    rfl
  · obtain ⟨t, ns, rfl, ht, k⟩ := h
    refine ⟨_, pss_cons (ps_set (i := 1) scCont.nd rfl (Or.inl rfl) pe_int)
      (pss_cons (ps_for PassesOwn.never rfl (PI.or (pi_list (pv 0)) (pi_tup (pv 0))) (pg_name (i := 2) scCont.nd rfl (Or.inl rfl))
        (pss_cons (ps_set (i := 1) scCont.nd rfl (Or.inl rfl) (pe_callBfun cr_gcd (by rfl) gg (pa_cons (pv 1) (pa_cons (pv 2) pa_nil))))
        (pss_one (ps_if (pt_cmpR op_eq (pv 1) pe_int (nomark _)) (pss_one (ps_ret (pv 1))) pss_nil))))
      (pss_one (ps_ret (pv 1)))), ?_⟩
    rcases ht with ht | ht
    · refine .inl ⟨_, rfl, t, rfl, ⟨_, SqL.of ht⟩, for_it (walk_list (K := K) (a := t) (xs := ns.map V.int))
        (fun i σ H5 => H5 = H ∧ ∃ v2 : Option V, σ = [some (.ref t), some (.int ((gcdN (ns.take i) : Nat) : Int)), v2]) ⟨rfl, none, rfl⟩ (fun i σ H5 _ ⟨e, _⟩ => by rw [e]; exact SqL.of ht) ?_ ?_⟩
      · rintro i x σ H5 H6 hi ⟨rfl, v2, rfl⟩ ⟨rfl, hx⟩
        obtain ⟨n, hn, rfl⟩ := int_of hx
        have hil := (List.getElem?_eq_some_iff.mp hn).1
        have e : gcdN (ns.take (i + 1)) = Nat.gcd (gcdN (ns.take i)) n.natAbs := by
          rw [List.take_add_one, hn]
          exact gcdN_snoc _ _
        refine ⟨_, rfl, _, rfl, _, _, rfl, ?_⟩
        rw [Int.natAbs_natCast, ← e]
        refine ⟨_, rfl, rfl, _, rfl, ite2 (fun c => ?_) (fun c => ?_)⟩
        · have c := V.int.inj (of_decide_eq_true c)
          have c1 : gcdN (ns.take (i + 1)) = 1 := by omega
          have : gcdN ns = 1 := by
            have h := gcdN_pre (ns.take (i + 1)) (ns.drop (i + 1))
            rw [List.take_append_drop, c1] at h
            exact Nat.dvd_one.mp h
          refine ⟨_, rfl, ?_⟩
          rw [c1, ← this]
          exact k
        · exact ⟨rfl, _, rfl⟩
      · rintro σ H5 ⟨rfl, v2, rfl⟩
        rw [List.length_map, List.take_length]
        exact ⟨_, rfl, k⟩
    · refine .inr ⟨_, rfl, t, rfl, ⟨_, SqT.of ht⟩, for_it (walk_tup (K := K) (a := t) (xs := ns.map V.int))
        (fun i σ H5 => H5 = H ∧ ∃ v2 : Option V, σ = [some (.ref t), some (.int ((gcdN (ns.take i) : Nat) : Int)), v2]) ⟨rfl, none, rfl⟩ (fun i σ H5 _ ⟨e, _⟩ => by rw [e]; exact SqT.of ht) ?_ ?_⟩
      · rintro i x σ H5 H6 hi ⟨rfl, v2, rfl⟩ ⟨rfl, hx⟩
        obtain ⟨n, hn, rfl⟩ := int_of hx
        have hil := (List.getElem?_eq_some_iff.mp hn).1
        have e : gcdN (ns.take (i + 1)) = Nat.gcd (gcdN (ns.take i)) n.natAbs := by
          rw [List.take_add_one, hn]
          exact gcdN_snoc _ _
        refine ⟨_, rfl, _, rfl, _, _, rfl, ?_⟩
        rw [Int.natAbs_natCast, ← e]
        refine ⟨_, rfl, rfl, _, rfl, ite2 (fun c => ?_) (fun c => ?_)⟩
        · have c := V.int.inj (of_decide_eq_true c)
          have c1 : gcdN (ns.take (i + 1)) = 1 := by omega
          have : gcdN ns = 1 := by
            have h := gcdN_pre (ns.take (i + 1)) (ns.drop (i + 1))
            rw [List.take_append_drop, c1] at h
            exact Nat.dvd_one.mp h
          refine ⟨_, rfl, ?_⟩
          rw [c1, ← this]
          exact k
        · exact ⟨rfl, _, rfl⟩
      · rintro σ H5 ⟨rfl, v2, rfl⟩
        rw [List.length_map, List.take_length]
        exact ⟨_, rfl, k⟩
end
end Ind

set_option Elab.async false
set_option linter.all false
set_option maxRecDepth 100000
set_option maxHeartbeats 4000000
set_option exponentiation.threshold 9000
namespace Ind
open PySem PySem.Spec PyProof.Rows L2
open Builtin.Int (intBits)
abbrev sPPr : Stmt := inClass (top 34) 22
def spPPr (C Z CP : Addr) : Sp := fun vs H Q E => ∃ (p : Addr) (as : List Q2) (k : Nat), vs = [.ref p] ∧ PolyAt C CP H p as ∧ PSz k as ∧ k ≤ 40000000 ∧ (as = [] → E (.ref Z) none H) ∧
  (as ≠ [] → ∀ (H' : Hp) (t r u : Addr) (q : Q2) (ms : List Int), Same H H' → H' t = some (.tup [.ref r, .ref u]) → RatQ C H' r q → Lo q → intBits q.1 ≤ k → intBits q.2 ≤ k → H' u = some (.tup (ms.map V.int)) → ms.length = as.length → (∀ n ∈ ms, intBits n ≤ k) →
    gcdN ms = 1 → (∀ m, ms.getLast? = some m → 0 < m) → (∀ j, rowF as j = rv q * fr ms j) → Q (.ref t) H')
/-- the row divided by its content, with its last item's sign -/
theorem prim_ok {ns : List Int} {l s : Int} (hl : ns.getLast? = some l) (l0 : l ≠ 0) (hs : s = if l < 0 then -((gcdN ns : Nat) : Int) else ((gcdN ns : Nat) : Int)) :
    s ≠ 0 ∧ (∀ n ∈ ns, s * n.fdiv s = n) ∧ gcdN (ns.map fun n => n.fdiv s) = 1 ∧ ∀ m, (ns.map fun n => n.fdiv s).getLast? = some m → 0 < m := by
  have hmem : l ∈ ns := List.mem_of_getLast? hl
  have hgd := gcdN_dvd hmem
  have hg : 0 < gcdN ns := by
    rcases Nat.eq_zero_or_pos (gcdN ns) with e | e
    · rw [e] at hgd
      have := Nat.eq_zero_of_zero_dvd hgd
      omega
    · exact e
  have hsa : s.natAbs = gcdN ns := by
    rw [hs]
    split <;> omega
  have hs0 : s ≠ 0 := by omega
  have hex : ∀ n ∈ ns, s * n.fdiv s = n := fun n hn => by
    have hd : s ∣ n := Int.natAbs_dvd_natAbs.mp (by rw [hsa]; exact gcdN_dvd hn)
    obtain ⟨c, hc⟩ := hd
    rw [hc, Int.mul_comm s c, Int.mul_fdiv_cancel _ hs0, Int.mul_comm]
  refine ⟨hs0, hex, ?_, fun m hm => ?_⟩
  · have hall : ∀ n ∈ ns, gcdN ns * gcdN (ns.map fun n => n.fdiv s) ∣ n.natAbs := fun n hn => by
      have h1 := gcdN_dvd (List.mem_map.mpr ⟨n, hn, rfl⟩ : n.fdiv s ∈ ns.map fun n => n.fdiv s)
      have h2 : n.natAbs = gcdN ns * (n.fdiv s).natAbs := by
        rw [← hsa, ← Int.natAbs_mul, hex n hn]
      rw [h2]
      exact Nat.mul_dvd_mul_left _ h1
    have h3 := gcdN_great hall
    obtain ⟨c, hc⟩ := h3
    rw [Nat.mul_assoc] at hc
    have h4 : gcdN (ns.map fun n => n.fdiv s) * c = 1 := by
      have : gcdN ns * (gcdN (ns.map fun n => n.fdiv s) * c) = gcdN ns * 1 := by omega
      exact Nat.eq_of_mul_eq_mul_left hg this
    exact Nat.eq_one_of_mul_eq_one_right h4
  · rw [List.getLast?_map, hl] at hm
    have hm : l.fdiv s = m := by
      simpa using hm
    have he := hex l hmem
    rw [hm] at he
    by_cases c : 0 < m
    · exact c
    · exfalso
      have c : m ≤ 0 := by omega
      by_cases hneg : l < 0
      · rw [if_pos hneg] at hs
        have : 0 ≤ s * m := Int.mul_nonneg_of_nonpos_of_nonpos (by omega) c
        omega
      · rw [if_neg hneg] at hs
        have : s * m ≤ 0 := Int.mul_nonpos_of_nonneg_of_nonpos (by omega) c
        omega
section
variable {P : Program} {w : World} {K : PySem.W.Frag} {mg : Str → Option Value} {base : Heap} {C Z CP : Addr}
abbrev nPPr : List Str := ["self", "share", "n"]
theorem scPPr : FnScope nPPr ["self"] (defScope sPPr) := ⟨rfl, rfl, rfl, by decide +kernel, rfl, by decide +kernel, by decide +kernel⟩
theorem ok_ppr {f fI fIz fC : Addr} {fd fdI fdIz fdC : FuncData} {ds : List Value} (hN : base.NoSeer) (hT : P.given.tree = none) (F : Fun K "primitive" "Poly.primitive" sPPr f fd) (R : TxR K mg C Z) (M : MkR P w K mg base C Z fI fdI ds) (TP : TxP K mg CP)
    (GI : FnOk P w K mg base CX0 1 fIz fdIz ["self"] (spPIz C CP)) (bI : Binds K fdIz ["self"] []) (mI : Meth K CP "is_zero" fIz)
    (GC : FnOk P w K mg base CX0 1 fC fdC ["row"] spCont) (kC : PySem.W.keepIn K (.ref fC) = true) (bC : Binds K fdC ["row"] []) (gC : mg "content" = some (.ref fC)) : FnOk P w K mg base (L2.CX P w) 43 f fd ["self"] (spPPr C Z CP) := by
  refine F.okX scPPr (fun vs H Q E h => ?_) (fun cdv A outer s H vs Q E hr h => ?_)
  · obtain ⟨p, as, k, rfl, _⟩ := h
    rfl
  · obtain ⟨p, as, k, rfl, hpo, za, hk, kz, res⟩ := h
    have hpo' := hpo
    obtain ⟨dp, rp, np, ep, _, hnp, ht⟩ := hpo'
    have h1 := hr.mono (show 1 ≤ 42 by decide)
    have h40 := hr.mono (show 40 ≤ 42 by decide)
    refine ⟨_, pss_cons (ps_if (pt_val (pe_meth0 (pv 0) TP.cl mI GI h1 bI .nil pass0)) (pss_one (ps_raise rfl (takes_of rfl rfl rfl rfl) (pmk_own PySem.F.excBase_ValueError R.xZ R.gZ R.kZ (raises_own R.bZ R.tZ) rfl))) pss_nil)
      (pss_cons (ps_set (i := 1) scPPr.nd rfl (Or.inr rfl) (pe_call GC h1 (by rfl) gC kC bC .nil pass0 (pa_cons (pe_fld (pv 0) rfl) pa_nil)))
      (C8.pss_cut (ps_if (pt_cmpR op_lt (pe_ix ix_tup (pe_fld (pv 0) rfl) (pe_un un_neg pe_int) fun _ _ => rfl) pe_int (nomark _)) (pss_one (ps_set (i := 1) scPPr.nd rfl (Or.inr rfl) (pe_un un_neg (pv 1)))) pss_nil)
      (pss_one (ps_ret (pe_tup (pa_cons (pe_make (E := E) M.cm M.fn hr (by rfl) R.mgC M.b2 .nil (passes_call (takes_of rfl rfl rfl rfl) fun _ _ _ _ h => h) (pa_cons (pv 1) (pa_cons (pe_fld (pv 0) rfl) pa_nil)))
        (pa_cons (pe_callTy call_tuple_of (by rfl) TP.tuple (by decide +kernel) (pa_cons (pe_lc (own := [("n", 2)]) (g := gName 2) (tt := tYes) (te := tOp (rI (fun _ j => j ≠ 0 ∧ intBits j ≤ 60000000) fun i j => .int (i.fdiv j)) (tVar 2) (tVar 1)) rfl scPPr.nd (pi_tup (pe_fld (pv 0) rfl)) (blkOk_by (N := nPPr) (sc := defScope sPPr) (by decide +kernel))
          (fun _ _ _ _ _ => pg_name (i := 2) scPPr.nd rfl (Or.inl rfl)) (fun _ _ _ _ _ => pts_nil) (fun _ _ _ _ _ => pe_op (op_fdivC ⟨hN, hT, ⟨_, _, rfl, rfl, rfl, rfl, rfl⟩, h40⟩) (pv 2) (pv 1))) pa_nil)) pa_nil))))))), ?_⟩
    refine ⟨_, rfl, p, dp, _, rfl, ep, by rfl, p, as, rfl, hpo, _, rfl, ite2 (fun c => ?_) (fun c => ?_)⟩
    · have c := of_decide_eq_true c
      exact kz (List.length_eq_zero_iff.mp c)
    · have c : ¬ as.length = 0 := fun z => c (decide_eq_true z)
      have cne : as ≠ [] := fun e => c (by rw [e]; rfl)
      obtain ⟨ba, na⟩ := psz_lcm za
      have pa := lcmD_pos za.1
      have l1 := za.2.1
      obtain ⟨q, hq⟩ : ∃ q, as[as.length - 1]? = some q := ⟨_, List.getElem?_eq_getElem (by omega)⟩
      have hlast : as.getLast? = some q := by rw [List.getLast?_eq_getElem?]; exact hq
      have hln := parts_len2 ((lcmD as : Nat) : Int) as
      have hnf := num_fr za.1
      generalize partsOf ((lcmD as : Nat) : Int) as = ns at hnp na hln hnf
      obtain ⟨m, hm⟩ : ∃ m, ns[as.length - 1]? = some m := ⟨_, List.getElem?_eq_getElem (by omega)⟩
      have hat : atI (ns.map V.int) (-1) = some (.int m) := by
        have e := List.getElem?_eq_some_iff.mp hm
        have e2 : ns = ns.take (as.length - 1) ++ [m] := by
          have := List.take_append_drop (as.length - 1) ns
          rw [List.drop_eq_getElem_cons e.1, e.2, List.drop_of_length_le (by omega)] at this
          exact this.symm
        rw [e2, List.map_append]
        exact atI_last _ _
      have em : ns.getD (as.length - 1) 0 = m := by
        rw [List.getD_eq_getElem?_getD, hm]
        rfl
      have hB := cst_ne (show ((lcmD as : Nat) : Int) ≠ 0 by omega)
      have hm0 : m ≠ 0 := fun z => by
        have eq1 := hnf (as.length - 1)
        rw [em, z] at eq1
        have eq2 : rowF as (as.length - 1) = rv q := by
          unfold rowF
          rw [getD_q hq]
        rw [eq2] at eq1
        have hq0 : rv q ≠ 0 := rv_ne (za.1 q (List.mem_of_getElem? hq)) (ht q hlast)
        have : (0 : Rat) = (((lcmD as : Nat) : Int) : Rat) * rv q := eq1
        grind
      have hlm : ns.getLast? = some m := by rw [List.getLast?_eq_getElem?, hln]; exact hm
      refine ⟨_, rfl, p, CP, dp, _, _, rfl, ep, TP.cl, TP.nN, pf_num _ _ _, np, ns, rfl, .inr hnp, ?_⟩
      refine ⟨fun σ' H' => H' = H ∧ ∃ sh : Int, σ' = [some (.ref p), some (.int sh), none] ∧ sh = if m < 0 then -((gcdN ns : Nat) : Int) else ((gcdN ns : Nat) : Int), ?_, ?_⟩
      · refine ⟨_, rfl, p, CP, dp, _, _, rfl, ep, TP.cl, TP.nN, pf_num _ _ _, _, rfl, np, _, _, .int m, rfl, rfl, SqT.of hnp, hat, _, _, rfl, rfl, _, rfl, ite2 (fun c => ?_) (fun c => ?_)⟩
        · exact ⟨_, rfl, _, rfl, rfl, _, rfl, by rw [if_pos (of_decide_eq_true c)]⟩
        · exact ⟨rfl, _, rfl, by rw [if_neg (fun z => c (decide_eq_true z))]⟩
      rintro σ' H' ⟨rfl, sh, rfl, hsh⟩
      obtain ⟨s0, hex, hg1, hpos⟩ := prim_ok hlm hm0 hsh
      have bsh : intBits sh ≤ k := by
        have hd := gcdN_dvd (List.mem_of_getElem? hm)
        have hle : gcdN ns ≤ m.natAbs := Nat.le_of_dvd (by omega) hd
        refine PySem.intBits_le_of_natAbs ?_ (na m (List.mem_of_getElem? hm))
        rw [hsh]
        split <;> omega
      have bB : ((lcmD as : Nat) : Int) ≠ 0 := by omega
      refine ⟨_, rfl, _, rfl, p, CP, dp, _, _, rfl, ep, TP.cl, TP.nB, pf_bel _ _ _, ?_⟩
      intro r dr nr ndr ner
      refine ⟨r, dr, _, _, rfl, upd_same, fun z => absurd z bB, fun _ H6 hr6 kk => ⟨rfl, ?_⟩⟩
      have s6 : Same _ H6 := Same.made nr ndr kk
      have hnp6 := s6 _ _ hnp
      refine ⟨_, rfl, p, CP, dp, _, _, rfl, s6 _ _ ep, TP.cl, TP.nN, pf_num _ _ _, np, rfl, ⟨_, SqT.of hnp6⟩, fun D hD => lc_tup (K := K) (a := np) (xs := ns.map V.int) (fun i H2 => ColI D H6 H2 ((ns.take i).map fun n => n.fdiv sh)) (ColI.start hD) (fun i H2 _ z => .of (z.s _ _ hnp6)) ?_ ?_⟩
      · rintro i x H2 hx z
        obtain ⟨n, hn, rfl⟩ := int_of hx
        have hi := (List.getElem?_eq_some_iff.mp hn).1
        refine ⟨rfl, _, rfl, _, rfl, _, _, rfl, rfl, ⟨s0, by omega⟩, ?_⟩
        rw [map_take_snoc hn]
        refine z.push hD same_rfl ?_
        rw [List.length_map, List.length_take]
        omega
      rintro H2 z
      rw [List.length_map, List.take_length] at z
      refine ⟨D, _, rfl, .inl ⟨SqL.of z.at_, fun u hu => ?_⟩⟩
      refine ⟨(by show 2 ≤ sizeLine; decide), fun t ht0 => ?_⟩
      have su := same_upd (o := .tup ((ns.map fun n => n.fdiv sh).map V.int)) hu
      have st := same_upd (o := .tup [V.ref r, V.ref u]) ht0
      have bq := bq_mk bsh ba
      refine res cne _ t r u (mkq sh ((lcmD as : Nat) : Int)) (ns.map fun n => n.fdiv sh) (((s6.trans z.s).trans su).trans st) upd_same ((RatQ.stb C).same ((z.s.trans su).trans st) hr6) (lo_mk bB) bq.1 bq.2 (st _ _ upd_same) (by rw [List.length_map]; exact hln) (fun v hv => ?_) hg1 hpos fun j => ?_
      · obtain ⟨n, hn, rfl⟩ := List.mem_map.mp hv
        exact PySem.intBits_fdiv_le (na n hn)
      · rw [rv_mk bB]
        have e1 : ((ns.getD j 0 : Int) : Rat) = (sh : Rat) * fr (ns.map fun n => n.fdiv sh) j := by
          unfold fr
          rw [getD_map (f := fun n => n.fdiv sh) (by exact Int.zero_fdiv _)]
          rw [← Rat.intCast_mul]
          congr 1
          by_cases c : j < ns.length
          · refine (hex _ ?_).symm
            rw [List.getD_eq_getElem?_getD, List.getElem?_eq_getElem c]
            exact List.getElem_mem c
          · have : ns.getD j 0 = 0 := by
              rw [List.getD_eq_getElem?_getD, List.getElem?_eq_none (by omega)]
              rfl
            rw [this, Int.zero_fdiv, Int.mul_zero]
        have e2 := hnf j
        rw [e1] at e2
        grind
end
end Ind

set_option Elab.async false
set_option linter.all false
set_option maxRecDepth 100000
set_option maxHeartbeats 4000000
namespace Ind
open PySem PySem.Spec PyProof.Rows L2
open Builtin.Int (intBits)
abbrev sZr : Stmt := top 30
abbrev sOn : Stmt := top 31
section
variable {P : Program} {w : World} {K : PySem.W.Frag} {mg : Str → Option Value} {base : Heap} {C Z : Addr}
theorem scOn : FnScope [] [] (defScope sOn) := ⟨rfl, rfl, rfl, by decide +kernel, rfl, by decide +kernel, by decide +kernel⟩
theorem ok_on {f fI : Addr} {fd fdI : FuncData} {ds : List Value} (F : Fun K "one" "one" sOn f fd) (R : TxR K mg C Z) (M : MkR P w K mg base C Z fI fdI ds) : FnOk P w K mg base CX0 43 f fd [] (spMk C 1 1) := by
  refine F.ok scOn (fun vs H Q E h => ?_) (fun cdv A outer s H vs Q E hr h => ?_)
  · obtain ⟨rfl, _⟩ := h
    rfl
  · obtain ⟨rfl, k⟩ := h
    refine ⟨_, pss_one (ps_ret (pe_make M.cm M.fn hr (by rfl) R.mgC M.b1 M.v1 passL (pa_cons pe_int pa_nil))), ?_⟩
    have e := n_one 1
    refine mk_ok (n := 1) (d := 1) (by decide) fun p H' r s n => k p H' ?_ s n
    rw [e.1, e.2] at r
    exact r
end
end Ind

set_option Elab.async false
set_option linter.all false
namespace Ind
/-! ### values; a polynomial by its values at 0, 1, .. -/
theorem val_ex {f : Fr} {N : Nat} (h : Fs f N) (c : Rat) : ∃ y, Val f c y := by
  obtain ⟨s, r, M, hs, hr, e⟩ := div_ex (lx_dg c) N f h
  refine ⟨r 0, s, M, hs, fun j => ?_⟩
  rw [e j]
  by_cases z : j = 0
  · rw [if_pos z, z]
  · rw [if_neg z, hr j (by omega)]
theorem val_add {f g : Fr} {c y z : Rat} (h1 : Val f c y) (h2 : Val g c z) : Val (fun j => f j + g j) c (y + z) := by
  obtain ⟨s, N, hs, e⟩ := h1
  obtain ⟨t, M, ht, q⟩ := h2
  refine ⟨fun j => s j + t j, max N M, fun j hj => ?_, fun j => ?_⟩
  · show s j + t j = 0
    rw [hs j (by omega), ht j (by omega)]
    grind
  · show f j + g j = _
    rw [cv_addl, e j, q j]
    split <;> grind
theorem val_sc {f : Fr} {c y : Rat} (a : Rat) (h : Val f c y) : Val (fun j => a * f j) c (a * y) := by
  obtain ⟨s, N, hs, e⟩ := h
  refine ⟨fun j => a * s j, N, fun j hj => ?_, fun j => ?_⟩
  · show a * s j = 0
    rw [hs j hj]
    grind
  · show a * f j = _
    rw [cv_sc', e j]
    split <;> grind
theorem val_cst (a c : Rat) : Val (fun j => if j = 0 then a else 0) c a := ⟨fun _ => 0, 0, fun _ _ => rfl, fun j => by
  rw [cv_zl]
  grind⟩
theorem d0_one (a : Rat) (f : Fr) (j : Nat) : cv (fun j => if j = 0 then a else 0) f j = a * f j := by
  rw [cv_delta0, if_pos (Nat.zero_le _), Nat.sub_zero]
theorem val_mul {f g : Fr} {c y z : Rat} {N : Nat} (hg : Fs g N) (h1 : Val f c y) (h2 : Val g c z) : Val (cv f g) c (y * z) := by
  obtain ⟨s, A, hs, e⟩ := h1
  obtain ⟨t, B, ht, q⟩ := id h2
  refine ⟨fun j => cv s g j + y * t j, max (A + N) B, fun j hj => ?_, fun j => ?_⟩
  · show cv s g j + y * t j = 0
    rw [cv_out hs hg j (by omega), ht j (by omega)]
    grind
  · rw [show f = fun j => cv s (Lx c) j + (fun j => if j = 0 then y else 0) j from funext e, cv_addl, d0_one, q j, cv_addl (cv s g) (fun j => y * t j), cv_sc', cv_assoc', cv_comm' (Lx c) g, ← cv_assoc']
    split <;> grind
theorem fs_of_dg {f : Fr} {n N : Nat} (h : Dg f n) (hf : Fs f N) : n < N := by
  apply Nat.lt_of_not_le
  intro z
  exact h.t (hf n z)
theorem root_uniq : ∀ (N : Nat) (f : Fr), Fs f N → (∀ n : Nat, n < N → Val f (((n : Nat) : Int) : Rat) 0) → ∀ j, f j = 0
  | 0, f, h, _ => fun j => h j (Nat.zero_le _)
  | N + 1, f, h, hv => by
    obtain ⟨s, M, hs, e⟩ := hv N (by omega)
    have e : ∀ j, f j = cv s (Lx (((N : Nat) : Int) : Rat)) j := fun j => by
      rw [e j]
      split <;> grind
    have hsN : Fs s N := by
      rcases dg_or hs with z | ⟨k, _, dk⟩
      · exact fun j _ => z j
      · have := fs_of_dg (dg_cv dk (lx_dg (((N : Nat) : Int) : Rat))) (by rw [← funext e]; exact h)
        exact dk.s.mono (by omega)
    have h0 := root_uniq N s hsN fun n hn => by
      obtain ⟨y, hy⟩ := val_ex hsN (((n : Nat) : Int) : Rat)
      have hl : Val (Lx (((N : Nat) : Int) : Rat)) (((n : Nat) : Int) : Rat) ((((n : Nat) : Int) : Rat) - (((N : Nat) : Int) : Rat)) := ⟨fun j => if j = 0 then 1 else 0, 1, fun j hj => if_neg (by omega), fun j => by
        rw [d0_one]
        unfold Lx
        by_cases c : j = 0
        · rw [if_pos c, if_pos c, if_pos c]
          grind
        · rw [if_neg c, if_neg c, if_neg c]
          grind⟩
      have h2 := val_mul (lx_fs _) hy hl
      rw [← funext e] at h2
      have h3 := val_uniq h2 (hv n (by omega))
      have hne : (((n : Nat) : Int) : Rat) - (((N : Nat) : Int) : Rat) ≠ 0 := fun z => by
        have : (((n : Nat) : Int) : Rat) = (((N : Nat) : Int) : Rat) := by grind
        have : ((n : Nat) : Int) = ((N : Nat) : Int) := by exact_mod_cast this
        omega
      rcases Rat.mul_eq_zero.mp h3 with z | z
      · rw [z] at hy
        exact hy
      · exact absurd z hne
    intro j
    rw [e j, show s = fun _ => 0 from funext h0, cv_zl]
/-! ### Newton's form -/
def bin (x : Rat) : Nat → Rat
  | 0 => 1
  | j + 1 => bin x j * ((x - (((j : Nat) : Int) : Rat)) / (((j + 1 : Nat) : Int) : Rat))
theorem cast_s (j : Nat) : (((j + 1 : Nat) : Int) : Rat) = (((j : Nat) : Int) : Rat) + 1 := by
  rw [show ((j + 1 : Nat) : Int) = (j : Int) + 1 by omega, Rat.intCast_add]
  rfl
theorem cast_sn (j : Nat) : (((j + 1 : Nat) : Int) : Rat) ≠ 0 := fun z => by
  have : ((j + 1 : Nat) : Int) = 0 := by exact_mod_cast z
  omega
theorem pascal (x : Rat) : ∀ j, bin (x + 1) (j + 1) = bin x (j + 1) + bin x j
  | 0 => by
    show (1 : Rat) * _ = 1 * _ + 1
    have := cast_sn 0
    have e := cast_s 0
    have e0 : (((0 : Nat) : Int) : Rat) = 0 := rfl
    rw [e, e0]
    grind
  | j + 1 => by
    have ih := pascal x j
    show bin (x + 1) (j + 1) * ((x + 1 - (((j + 1 : Nat) : Int) : Rat)) / (((j + 1 + 1 : Nat) : Int) : Rat)) = bin x (j + 1) * ((x - (((j + 1 : Nat) : Int) : Rat)) / (((j + 1 + 1 : Nat) : Int) : Rat)) + bin x (j + 1)
    rw [ih]
    have h1 := cast_sn j
    have h2 := cast_sn (j + 1)
    have e1 := cast_s j
    have e2 := cast_s (j + 1)
    have hb : bin x (j + 1) * (((j + 1 : Nat) : Int) : Rat) = bin x j * (x - (((j : Nat) : Int) : Rat)) := by
      show bin x j * ((x - (((j : Nat) : Int) : Rat)) / (((j + 1 : Nat) : Int) : Rat)) * _ = _
      grind
    rw [e2] at h2 ⊢
    generalize (((j + 1 : Nat) : Int) : Rat) = b at *
    generalize (((j : Nat) : Int) : Rat) = a at *
    generalize bin x (j + 1) = B at *
    generalize bin x j = A at *
    grind
/-- the differences of a list of values -/
def dif (a : Nat → Rat) : Nat → Rat := fun n => a (n + 1) - a n
def difN (a : Nat → Rat) : Nat → Nat → Rat
  | 0 => a
  | k + 1 => dif (difN a k)
theorem difN_s (a : Nat → Rat) : ∀ k, difN (dif a) k = difN a (k + 1)
  | 0 => rfl
  | k + 1 => by
    show dif (difN (dif a) k) = dif (difN a (k + 1))
    rw [difN_s a k]
/-- the sum of the first m parts at x -/
def nwt (a : Nat → Rat) (x : Rat) (m : Nat) : Rat := sumTo m fun j => difN a j 0 * bin x j
theorem bin_z : ∀ j, bin 0 (j + 1) = 0
  | 0 => by
    show (1 : Rat) * _ = 0
    have e0 : (((0 : Nat) : Int) : Rat) = 0 := rfl
    rw [e0]
    grind
  | j + 1 => by
    show bin 0 (j + 1) * _ = 0
    rw [bin_z j]
    grind
theorem bin_out : ∀ n j : Nat, n < j → bin (((n : Nat) : Int) : Rat) j = 0
  | 0, j + 1, _ => bin_z j
  | n + 1, j + 1, h => by
    rw [cast_s, pascal, bin_out n (j + 1) (by omega), bin_out n j (by omega)]
    grind
theorem nwt_at : ∀ (n m : Nat) (a : Nat → Rat), n < m → nwt a (((n : Nat) : Int) : Rat) m = a n
  | 0, m, a, h => by
    unfold nwt
    rw [sumTo_only (n := 0) h fun t _ ht => by
      obtain ⟨k, rfl⟩ : ∃ k, t = k + 1 := ⟨t - 1, by omega⟩
      show difN a (k + 1) 0 * bin 0 (k + 1) = 0
      rw [bin_z]
      grind]
    show a 0 * 1 = a 0
    grind
  | n + 1, m, a, h => by
    obtain ⟨m, rfl⟩ : ∃ k, m = k + 1 := ⟨m - 1, by omega⟩
    have h1 := nwt_at n m a (by omega)
    have h2 := nwt_at n m (dif a) (by omega)
    have e : nwt a (((n + 1 : Nat) : Int) : Rat) (m + 1) = nwt a (((n : Nat) : Int) : Rat) (m + 1) + nwt (dif a) (((n : Nat) : Int) : Rat) m := by
      unfold nwt
      rw [sumTo_front, sumTo_front, cast_s]
      have : ∀ j, j < m → (fun t => difN a (t + 1) 0 * bin ((((n : Nat) : Int) : Rat) + 1) (t + 1)) j = (fun t => 1 * (fun t => difN a (t + 1) 0 * bin (((n : Nat) : Int) : Rat) (t + 1)) t + 1 * (fun t => difN (dif a) t 0 * bin (((n : Nat) : Int) : Rat) t) t) j := fun j _ => by
        show difN a (j + 1) 0 * bin ((((n : Nat) : Int) : Rat) + 1) (j + 1) = 1 * (difN a (j + 1) 0 * bin (((n : Nat) : Int) : Rat) (j + 1)) + 1 * (difN (dif a) j 0 * bin (((n : Nat) : Int) : Rat) j)
        rw [pascal, difN_s]
        grind
      rw [sumTo_congr this, sumTo_lin]
      show difN a 0 0 * 1 + _ = difN a 0 0 * 1 + _ + _
      grind
    have h3 : nwt a (((n : Nat) : Int) : Rat) (m + 1) = nwt a (((n : Nat) : Int) : Rat) m + difN a m 0 * bin (((n : Nat) : Int) : Rat) m := rfl
    rw [e, h3, h1, h2, bin_out n m (by omega)]
    show a n + _ + (a (n + 1) - a n) = a (n + 1)
    grind
/-- the polynomial of Newton's form, from the top part down to k -/
def lnk (k : Nat) : Fr := fun j => if j = 0 then (((-(k : Int)) : Int) : Rat) / (((k + 1 : Nat) : Int) : Rat) else if j = 1 then 1 / (((k + 1 : Nat) : Int) : Rat) else 0
theorem lnk_fs (k : Nat) : Fs (lnk k) 2 := fun j hj => by
  unfold lnk
  rw [if_neg (by omega), if_neg (by omega)]
theorem lnk_val (k : Nat) (c : Rat) : Val (lnk k) c ((c - (((k : Nat) : Int) : Rat)) / (((k + 1 : Nat) : Int) : Rat)) := ⟨fun j => if j = 0 then 1 / (((k + 1 : Nat) : Int) : Rat) else 0, 1, fun j hj => if_neg (by omega), fun j => by
  rw [d0_one]
  unfold lnk Lx
  have := cast_sn k
  by_cases c0 : j = 0
  · rw [if_pos c0, if_pos c0, if_pos c0, Rat.intCast_neg]
    grind
  · rw [if_neg c0, if_neg c0, if_neg c0]
    by_cases c1 : j = 1
    · rw [if_pos c1, if_pos c1]
      grind
    · rw [if_neg c1, if_neg c1]
      grind⟩
/-- N - i .. : after i steps -/
def nPoly (d : Nat → Rat) (N : Nat) : Nat → Fr
  | 0 => fun _ => 0
  | i + 1 => fun j => cv (nPoly d N i) (lnk (N - 1 - i)) j + if j = 0 then d (N - 1 - i) else 0
theorem nPoly_fs (d : Nat → Rat) (N : Nat) : ∀ i, Fs (nPoly d N i) i
  | 0 => fun _ _ => rfl
  | i + 1 => fun j hj => by
    show cv (nPoly d N i) (lnk (N - 1 - i)) j + (if j = 0 then _ else 0) = 0
    rw [if_neg (by omega)]
    match i, hj with
    | 0, hj =>
      rw [show nPoly d N 0 = fun _ => 0 from rfl, cv_zl]
      grind
    | i + 1, hj =>
      rw [cv_out1 (n := i) (m := 1) (nPoly_fs d N (i + 1)) (lnk_fs _) j (by omega)]
      grind
/-- the parts from k on, without their common factor -/
theorem nPoly_val (d : Nat → Rat) (N : Nat) (c : Rat) : ∀ i, i ≤ N → ∃ y, Val (nPoly d N i) c y ∧ bin c (N - i) * y = sumTo N (fun j => d j * bin c j) - sumTo (N - i) (fun j => d j * bin c j)
  | 0, _ => ⟨0, ⟨fun _ => 0, 0, fun _ _ => rfl, fun j => by
    rw [cv_zl]
    show (0 : Rat) = _
    split <;> grind⟩, by
    rw [Nat.sub_zero]
    grind⟩
  | i + 1, h => by
    obtain ⟨y, hy, e⟩ := nPoly_val d N c i (by omega)
    obtain ⟨k, hk⟩ : ∃ k, N - i = k + 1 := ⟨N - 1 - i, by omega⟩
    have ek : N - 1 - i = k := by omega
    have ek2 : N - (i + 1) = k := by omega
    refine ⟨y * ((c - (((k : Nat) : Int) : Rat)) / (((k + 1 : Nat) : Int) : Rat)) + d k, ?_, ?_⟩
    · have := val_add (val_mul (lnk_fs k) hy (lnk_val k c)) (val_cst (d k) c)
      show Val (fun j => cv (nPoly d N i) (lnk (N - 1 - i)) j + if j = 0 then d (N - 1 - i) else 0) c _
      rw [ek]
      exact this
    · rw [ek2]
      rw [hk] at e
      have e2 : sumTo (k + 1) (fun j => d j * bin c j) = sumTo k (fun j => d j * bin c j) + d k * bin c k := rfl
      have e3 : bin c (k + 1) = bin c k * ((c - (((k : Nat) : Int) : Rat)) / (((k + 1 : Nat) : Int) : Rat)) := rfl
      rw [e2, e3] at e
      grind
/-- so it is the polynomial with these values -/
theorem nPoly_is {D : Fr} {a : Nat → Rat} {N : Nat} (hD : Fs D N) (ha : ∀ n : Nat, n < N → Val D (((n : Nat) : Int) : Rat) (a n)) : nPoly (fun k => difN a k 0) N N = D := by
  have key := root_uniq N (fun j => nPoly (fun k => difN a k 0) N N j + (-1) * D j) (fun j hj => by
    show _ + (-1) * D j = 0
    rw [nPoly_fs _ N N j hj, hD j hj]
    grind) fun n hn => by
    obtain ⟨y, hy, e⟩ := nPoly_val (fun k => difN a k 0) N (((n : Nat) : Int) : Rat) N (Nat.le_refl _)
    rw [Nat.sub_self] at e
    have e2 := nwt_at n N a hn
    have ey : y = a n := by
      have e3 : bin (((n : Nat) : Int) : Rat) 0 = 1 := rfl
      have e4 : sumTo 0 (fun j => (fun k => difN a k 0) j * bin (((n : Nat) : Int) : Rat) j) = 0 := rfl
      rw [e3, e4] at e
      unfold nwt at e2
      have e5 : sumTo N (fun j => (fun k => difN a k 0) j * bin (((n : Nat) : Int) : Rat) j) = a n := e2
      rw [e5] at e
      grind
    rw [ey] at hy
    have := val_add hy (val_sc (-1) (ha n hn))
    rw [show a n + (-1) * a n = 0 by grind] at this
    exact this
  funext j
  have := key j
  grind
end Ind

set_option Elab.async false
set_option linter.all false
set_option maxRecDepth 10000
namespace Ind
/-! ### whole numbers among fractions; primes; Gauss -/
theorem least_nat {P : Nat → Prop} : ∀ {n : Nat}, P n → ∃ m, P m ∧ m ≤ n ∧ ∀ k, k < m → ¬ P k := by
  intro n
  induction n using Nat.strongRecOn with
  | ind n ih =>
    intro h
    by_cases c : ∃ k, k < n ∧ P k
    · obtain ⟨k, hk, pk⟩ := c
      obtain ⟨m, pm, hm, hl⟩ := ih k hk pk
      exact ⟨m, pm, by omega, hl⟩
    · exact ⟨n, h, Nat.le_refl _, fun k hk pk => c ⟨k, hk, pk⟩⟩
def Iq (x : Rat) : Prop := ∃ z : Int, x = ((z : Int) : Rat)
def Iz (f : Fr) : Prop := ∀ j, Iq (f j)
/-- p times a whole number -/
def Pq (p : Int) (x : Rat) : Prop := ∃ z : Int, x = ((p : Int) : Rat) * ((z : Int) : Rat)
def Pd (p : Int) (f : Fr) : Prop := ∀ j, Pq p (f j)
theorem Iq.add {x y : Rat} (h1 : Iq x) (h2 : Iq y) : Iq (x + y) := by
  obtain ⟨a, rfl⟩ := h1
  obtain ⟨b, rfl⟩ := h2
  exact ⟨a + b, (Rat.intCast_add a b).symm⟩
theorem Iq.mul {x y : Rat} (h1 : Iq x) (h2 : Iq y) : Iq (x * y) := by
  obtain ⟨a, rfl⟩ := h1
  obtain ⟨b, rfl⟩ := h2
  exact ⟨a * b, (Rat.intCast_mul a b).symm⟩
theorem Iq.zero : Iq 0 := ⟨0, rfl⟩
theorem Iq.one : Iq 1 := ⟨1, rfl⟩
theorem Iq.neg {x : Rat} (h : Iq x) : Iq (-x) := by
  obtain ⟨a, rfl⟩ := h
  exact ⟨-a, by rw [Rat.intCast_neg]⟩
theorem Iq.sum {f : Fr} : ∀ n, (∀ j, Iq (f j)) → Iq (sumTo n f)
  | 0, _ => Iq.zero
  | n + 1, h => (Iq.sum n h).add (h n)
theorem Iz.cv {f g : Fr} (h1 : Iz f) (h2 : Iz g) : Iz (cv f g) := fun j => Iq.sum _ fun t => (h1 t).mul (h2 (j - t))
theorem Pq.add {p : Int} {x y : Rat} (h1 : Pq p x) (h2 : Pq p y) : Pq p (x + y) := by
  obtain ⟨a, rfl⟩ := h1
  obtain ⟨b, rfl⟩ := h2
  exact ⟨a + b, by rw [Rat.intCast_add]; grind⟩
theorem Pq.mulr {p : Int} {x y : Rat} (h1 : Pq p x) (h2 : Iq y) : Pq p (x * y) := by
  obtain ⟨a, rfl⟩ := h1
  obtain ⟨b, rfl⟩ := h2
  exact ⟨a * b, by rw [Rat.intCast_mul]; grind⟩
theorem Pq.mull {p : Int} {x y : Rat} (h1 : Iq x) (h2 : Pq p y) : Pq p (x * y) := by
  rw [Rat.mul_comm]
  exact h2.mulr h1
theorem Pq.neg {p : Int} {x : Rat} (h : Pq p x) : Pq p (-x) := by
  obtain ⟨a, rfl⟩ := h
  exact ⟨-a, by rw [Rat.intCast_neg]; grind⟩
theorem Pq.sub {p : Int} {x y : Rat} (h1 : Pq p x) (h2 : Pq p y) : Pq p (x - y) := by
  have := h1.add h2.neg
  rwa [show x + -y = x - y by grind] at this
theorem Pq.zero (p : Int) : Pq p 0 := ⟨0, by show (0 : Rat) = _ * ((0 : Int) : Rat); rw [show ((0 : Int) : Rat) = 0 from rfl]; grind⟩
theorem Pq.sum {p : Int} {f : Fr} : ∀ n, (∀ j, j < n → Pq p (f j)) → Pq p (sumTo n f)
  | 0, _ => Pq.zero p
  | n + 1, h => (Pq.sum n fun j hj => h j (by omega)).add (h n (by omega))
theorem Pd.cvl {p : Int} {f g : Fr} (h1 : Pd p f) (h2 : Iz g) : Pd p (cv f g) := fun j => Pq.sum _ fun t _ => (h1 t).mulr (h2 (j - t))
theorem Pd.cvr {p : Int} {f g : Fr} (h1 : Iz f) (h2 : Pd p g) : Pd p (cv f g) := fun j => Pq.sum _ fun t _ => Pq.mull (h1 t) (h2 (j - t))
theorem Pq.int {p z : Int} (h : Pq p ((z : Int) : Rat)) : p ∣ z := by
  obtain ⟨a, e⟩ := h
  refine ⟨a, ?_⟩
  rw [← Rat.intCast_mul] at e
  exact_mod_cast e
theorem Pq.of_dvd {p z : Int} (h : p ∣ z) : Pq p ((z : Int) : Rat) := by
  obtain ⟨a, rfl⟩ := h
  exact ⟨a, Rat.intCast_mul p a⟩
structure Prm (p : Int) : Prop where
  big : 1 < p
  or : ∀ a b : Int, p ∣ a * b → p ∣ a ∨ p ∣ b
theorem Prm.orq {p : Int} (h : Prm p) {x y : Rat} (h1 : Iq x) (h2 : Iq y) (e : Pq p (x * y)) : Pq p x ∨ Pq p y := by
  obtain ⟨a, rfl⟩ := h1
  obtain ⟨b, rfl⟩ := h2
  rw [← Rat.intCast_mul] at e
  rcases h.or a b e.int with z | z
  · exact .inl (Pq.of_dvd z)
  · exact .inr (Pq.of_dvd z)
/-- a sum all but one of whose parts p divides -/
theorem Pq.one {p : Int} {f : Fr} {i : Nat} : ∀ {n : Nat}, i < n → (∀ j, j < n → j ≠ i → Pq p (f j)) → Pq p (sumTo n f) → Pq p (f i)
  | 0, h, _, _ => absurd h (Nat.not_lt_zero _)
  | n + 1, h, h1, h2 => by
    have e : sumTo (n + 1) f = sumTo n f + f n := rfl
    rw [e] at h2
    by_cases c : i = n
    · subst c
      have h3 : Pq p (sumTo i f) := Pq.sum i fun j hj => h1 j (by omega) (by omega)
      have := h2.sub h3
      rwa [show sumTo i f + f i - sumTo i f = f i by grind] at this
    · have h3 := h1 n (by omega) (by omega)
      have := h2.sub h3
      rw [show sumTo n f + f n - f n = sumTo n f by grind] at this
      exact Pq.one (by omega) (fun j hj hn => h1 j (by omega) hn) this
theorem prm_cv {p : Int} (hp : Prm p) {f g : Fr} (hf : Iz f) (hg : Iz g) (h : Pd p (cv f g)) : Pd p f ∨ Pd p g := by
  apply Classical.byContradiction
  intro hn
  have hn1 : ¬ Pd p f := fun z => hn (.inl z)
  have hn2 : ¬ Pd p g := fun z => hn (.inr z)
  obtain ⟨i, hi⟩ : ∃ i, ¬ Pq p (f i) := Classical.byContradiction fun z => hn1 fun j => Classical.byContradiction fun y => z ⟨j, y⟩
  obtain ⟨k, hk⟩ : ∃ i, ¬ Pq p (g i) := Classical.byContradiction fun z => hn2 fun j => Classical.byContradiction fun y => z ⟨j, y⟩
  obtain ⟨i, hi, _, li⟩ := least_nat (P := fun i => ¬ Pq p (f i)) hi
  obtain ⟨k, hk, _, lk⟩ := least_nat (P := fun i => ¬ Pq p (g i)) hk
  have li : ∀ j, j < i → Pq p (f j) := fun j hj => Classical.byContradiction fun y => li j hj y
  have lk : ∀ j, j < k → Pq p (g j) := fun j hj => Classical.byContradiction fun y => lk j hj y
  have h1 : Pq p (f i * g (i + k - i)) := Pq.one (f := fun t => f t * g (i + k - t)) (i := i) (n := i + k + 1) (by omega) (fun j hj hne => by
    by_cases c : j < i
    · exact (li j c).mulr (hg _)
    · exact Pq.mull (hf j) (lk _ (by omega))) (h (i + k))
  rw [show i + k - i = k by omega] at h1
  rcases hp.orq (hf i) (hg k) h1 with z | z
  · exact hi z
  · exact hk z
/-- a prime that divides -/
theorem prm_of {p : Nat} (h1 : 1 < p) (h : ∀ d, d ∣ p → d = 1 ∨ d = p) : Prm (p : Int) := ⟨by omega, fun a b e => by
  have hd : Nat.gcd p a.natAbs ∣ p := Nat.gcd_dvd_left _ _
  rcases h _ hd with z | z
  · right
    have e2 : p ∣ a.natAbs * b.natAbs := by
      have := Int.natAbs_dvd_natAbs.mpr e
      rwa [Int.natAbs_mul] at this
    have := (show Nat.Coprime p a.natAbs from z).dvd_of_dvd_mul_left e2
    exact Int.natAbs_dvd_natAbs.mp this
  · left
    have : p ∣ a.natAbs := by
      have h2 := Nat.gcd_dvd_right p a.natAbs
      rwa [z] at h2
    exact Int.natAbs_dvd_natAbs.mp this⟩
theorem prm_ex {D : Nat} (h : 1 < D) : ∃ p : Nat, Prm (p : Int) ∧ p ∣ D := by
  obtain ⟨p, ⟨p1, pd⟩, _, hl⟩ := least_nat (P := fun p => 1 < p ∧ p ∣ D) ⟨h, Nat.dvd_refl D⟩
  refine ⟨p, prm_of p1 fun d hd => ?_, pd⟩
  have d0 : 0 < d := Nat.pos_of_dvd_of_pos hd (by omega)
  have dl := Nat.le_of_dvd (by omega) hd
  by_cases c : d = 1
  · exact .inl c
  · right
    apply Classical.byContradiction
    intro c2
    exact hl d (by omega) ⟨by omega, Nat.dvd_trans hd pd⟩
/-- no prime divides -/
def Pri (f : Fr) : Prop := ∀ p, Prm p → ¬ Pd p f
/-- a common denominator -/
theorem den_ex (x : Rat) : ∃ D : Nat, 0 < D ∧ Iq (((D : Int) : Rat) * x) := by
  refine ⟨x.den, Nat.pos_of_ne_zero x.den_nz, x.num, ?_⟩
  have h1 : ((x.den : Int) : Rat) ≠ 0 := cast_ne0 x.den_nz
  have h2 : x = (x.num : Rat) / ((x.den : Int) : Rat) := by rw [← Rat.divInt_eq_div]; exact (Rat.num_divInt_den x).symm
  rw [h2]
  grind
where
  cast_ne0 {n : Nat} (h : n ≠ 0) : ((n : Int) : Rat) ≠ 0 := fun z => h (by
    have : ((n : Nat) : Int) = 0 := by exact_mod_cast z
    omega)
theorem den_row {f : Fr} : ∀ {N : Nat}, Fs f N → ∃ D : Nat, 0 < D ∧ Iz (fun j => ((D : Int) : Rat) * f j)
  | 0, h => ⟨1, by decide, fun j => by
      dsimp only
      rw [h j (Nat.zero_le _)]
      exact ⟨0, by rw [show ((0 : Int) : Rat) = 0 from rfl]; grind⟩⟩
  | N + 1, h => by
    obtain ⟨D, d0, hD⟩ := den_row (f := fun j => if j < N then f j else 0) (N := N) fun j hj => if_neg (by omega)
    obtain ⟨E, e0, hE⟩ := den_ex (f N)
    refine ⟨D * E, Nat.mul_pos d0 e0, fun j => ?_⟩
    have e : (((D * E : Nat) : Int) : Rat) = ((D : Int) : Rat) * ((E : Int) : Rat) := by rw [← Rat.intCast_mul]; rfl
    show Iq ((((D * E : Nat) : Int) : Rat) * f j)
    rw [e]
    rcases Nat.lt_trichotomy j N with c | c | c
    · have := hD j
      dsimp only at this
      rw [if_pos c] at this
      have h2 := Iq.mul (⟨(E : Int), rfl⟩ : Iq ((E : Int) : Rat)) this
      rwa [show ((E : Int) : Rat) * (((D : Int) : Rat) * f j) = ((D : Int) : Rat) * ((E : Int) : Rat) * f j by grind] at h2
    · have h2 := Iq.mul (⟨(D : Int), rfl⟩ : Iq ((D : Int) : Rat)) hE
      rw [c]
      rwa [show ((D : Int) : Rat) * (((E : Int) : Rat) * f N) = ((D : Int) : Rat) * ((E : Int) : Rat) * f N by grind] at h2
    · rw [h j (by omega)]
      exact ⟨0, by rw [show ((0 : Int) : Rat) = 0 from rfl]; grind⟩
theorem gauss0 {a h : Fr} (ha : Iz a) (hh : Iz h) (pr : Pri h) : ∀ (D : Nat) (q : Fr), 0 < D → (∀ j, a j = cv q h j) → Iz (fun j => ((D : Int) : Rat) * q j) → Iz q := by
  intro D
  induction D using Nat.strongRecOn with
  | ind D ih =>
    intro q d0 e hD
    by_cases c : D = 1
    · subst c
      intro j
      have := hD j
      dsimp only at this
      rwa [show (((1 : Nat) : Int) : Rat) * q j = q j by rw [show (((1 : Nat) : Int) : Rat) = 1 from rfl]; grind] at this
    · obtain ⟨p, hp, ⟨D', rfl⟩⟩ := prm_ex (D := D) (by omega)
      have p1 := hp.big
      have d1 : 0 < D' := Nat.pos_of_ne_zero fun z => by
        rw [z, Nat.mul_zero] at d0
        omega
      have ec : (((p * D' : Nat) : Int) : Rat) = ((p : Int) : Rat) * ((D' : Int) : Rat) := by rw [← Rat.intCast_mul]; rfl
      have h1 : Pd (p : Int) (cv (fun j => (((p * D' : Nat) : Int) : Rat) * q j) h) := fun j => by
        rw [cv_sc', ← e j, ec]
        obtain ⟨z, hz⟩ := ha j
        refine ⟨(D' : Int) * z, ?_⟩
        rw [hz, Rat.intCast_mul]
        grind
      rcases prm_cv hp hD hh h1 with z | z
      · refine ih D' ?_ q d1 e fun j => ?_
        · have := Nat.mul_lt_mul_of_pos_right (show 1 < p by omega) d1
          omega
        · obtain ⟨y, hy⟩ := z j
          refine ⟨y, ?_⟩
          dsimp only at hy ⊢
          rw [ec] at hy
          have hp0 : ((p : Int) : Rat) ≠ 0 := fun w => by
            have : ((p : Nat) : Int) = 0 := by exact_mod_cast w
            omega
          have : ((p : Int) : Rat) * (((D' : Int) : Rat) * q j - (y : Rat)) = 0 := by grind
          rcases Rat.mul_eq_zero.mp this with w | w
          · exact absurd w hp0
          · grind
      · exact absurd z (pr _ hp)
theorem gauss {a h q : Fr} {N : Nat} (ha : Iz a) (hh : Iz h) (pr : Pri h) (hq : Fs q N) (e : ∀ j, a j = cv q h j) : Iz q := by
  obtain ⟨D, d0, hD⟩ := den_row hq
  exact gauss0 ha hh pr D q d0 e hD
/-! ### divisors; greatest common ones -/
def Dv (g a : Fr) : Prop := ∃ s N, Fs s N ∧ ∀ j, a j = cv s g j
structure Gc (a b g : Fr) : Prop where
  l : Dv g a
  r : Dv g b
  m : ∃ u v N, Fs u N ∧ Fs v N ∧ ∀ j, g j = cv u a j + cv v b j
theorem Dv.refl (g : Fr) : Dv g g := ⟨one1, 1, fs_one, fun j => (cv_one g j).symm⟩
theorem Dv.zero (g : Fr) : Dv g fun _ => 0 := ⟨fun _ => 0, 0, fun _ _ => rfl, fun j => (cv_zl g j).symm⟩
theorem Dv.trans {a b c : Fr} {N : Nat} (h1 : Dv a b) (h2 : Dv b c) (ha : Fs a N) : Dv a c := by
  obtain ⟨s, m, hs, e⟩ := h1
  obtain ⟨t, n, ht, q⟩ := h2
  obtain ⟨M, hM⟩ : ∃ M, Fs b M := ⟨m + N, fun j hj => by rw [e j]; exact cv_out hs ha j hj⟩
  refine ⟨cv t s, n + m, cv_out ht hs, fun j => ?_⟩
  rw [q j, cv_assoc, show b = cv s a from funext e]
theorem Dv.add {g a b : Fr} (h1 : Dv g a) (h2 : Dv g b) : Dv g fun j => a j + b j := by
  obtain ⟨s, m, hs, e⟩ := h1
  obtain ⟨t, n, ht, q⟩ := h2
  refine ⟨fun j => s j + t j, max m n, fun j hj => ?_, fun j => ?_⟩
  · show s j + t j = 0
    rw [hs j (by omega), ht j (by omega)]
    grind
  · dsimp only
    rw [cv_addl, e j, q j]
theorem Dv.mul {g a u : Fr} {N : Nat} (hu : Fs u N) (h : Dv g a) : Dv g (cv u a) := by
  obtain ⟨s, m, hs, e⟩ := h
  exact ⟨cv u s, N + m, cv_out hu hs, fun j => by rw [cv_assoc, ← funext e]⟩
theorem Dv.sc {g a : Fr} (c : Rat) (h : Dv g a) : Dv g fun j => c * a j := by
  obtain ⟨s, m, hs, e⟩ := h
  exact ⟨fun j => c * s j, m, fun j hj => by dsimp only; rw [hs j hj]; grind, fun j => by dsimp only; rw [cv_sc', e j]⟩
theorem Dv.scl {g a : Fr} {c : Rat} (hc : c ≠ 0) (h : Dv g a) : Dv (fun j => c * g j) a := by
  obtain ⟨s, m, hs, e⟩ := h
  exact ⟨fun j => 1 / c * s j, m, fun j hj => by dsimp only; rw [hs j hj]; grind, fun j => by rw [cv_sc', cv_scr', e j]; grind⟩
theorem Gc.great {a b g c : Fr} (h : Gc a b g) (h1 : Dv c a) (h2 : Dv c b) : Dv c g := by
  obtain ⟨u, v, N, hu, hv, e⟩ := h.m
  have := (h1.mul hu).add (h2.mul hv)
  rwa [← funext e] at this
theorem Gc.swap {a b g : Fr} (h : Gc a b g) : Gc b a g := ⟨h.r, h.l, by
  obtain ⟨u, v, N, hu, hv, e⟩ := h.m
  exact ⟨v, u, N, hv, hu, fun j => by rw [e j]; grind⟩⟩
theorem Gc.sc {a b g : Fr} {c : Rat} (hc : c ≠ 0) (h : Gc a b g) : Gc a b fun j => c * g j := ⟨h.l.scl hc, h.r.scl hc, by
  obtain ⟨u, v, N, hu, hv, e⟩ := h.m
  refine ⟨fun j => c * u j, fun j => c * v j, N, fun j hj => by dsimp only; rw [hu j hj]; grind, fun j hj => by dsimp only; rw [hv j hj]; grind, fun j => ?_⟩
  rw [cv_sc', cv_sc', e j]
  grind⟩
theorem cv_zr (f : Fr) (j : Nat) : cv f (fun _ => 0) j = 0 := by rw [cv_comm, cv_zl]
theorem Gc.zr {a : Fr} : Gc a (fun _ => 0) a := ⟨Dv.refl a, Dv.zero a, one1, fun _ => 0, 1, fs_one, fun _ _ => rfl, fun j => by rw [cv_one, cv_zl]; grind⟩
/-- Euclid's step -/
theorem Gc.step {a b q r g : Fr} {c : Rat} {N : Nat} (hc : c ≠ 0) (hq : Fs q N) (e : ∀ j, c * a j = cv q b j + r j) (h : Gc b r g) : Gc a b g := by
  have ea : a = fun j => 1 / c * (cv q b j + r j) := funext fun j => by
    have := e j
    grind
  refine ⟨?_, h.l, ?_⟩
  · rw [ea]
    exact (h.l.mul hq |>.add h.r).sc _
  · obtain ⟨u, v, M, hu, hv, z⟩ := h.m
    refine ⟨fun j => c * v j, fun j => u j + -1 * cv v q j, max M (M + N), fun j hj => by dsimp only; rw [hv j (by omega)]; grind, fun j hj => ?_, fun j => ?_⟩
    · show u j + -1 * cv v q j = 0
      rw [hu j (by omega), cv_out hv hq j (by omega)]
      grind
    · rw [cv_sc', cv_addl, cv_sc' (-1), z j, cv_assoc]
      have e2 : cv v r = fun j => c * cv v a j - cv v (cv q b) j := funext fun j => by
        have er : r = fun j => (-1 : Rat) * cv q b j + c * a j := funext fun j => by
          have := e j
          grind
        rw [er, cv_comm, cv_lin, cv_comm, cv_sc', cv_comm a v]
        grind
      rw [e2]
      grind
theorem gc_ex : ∀ (m : Nat) (a b : Fr) (n : Nat), Fs a n → Dg b m → ∃ g k, Dg g k ∧ Gc a b g := by
  intro m
  induction m using Nat.strongRecOn with
  | ind m ih =>
    intro a b n ha hb
    obtain ⟨s, r, N, hs, hr, e⟩ := div_ex hb n a ha
    rcases dg_or hr with z | ⟨k, hk, dk⟩
    · refine ⟨b, m, hb, ⟨s, N, hs, fun j => ?_⟩, Dv.refl b, fun _ => 0, one1, 1, fun _ _ => rfl, fs_one, fun j => ?_⟩
      · rw [e j, z j]
        grind
      · rw [cv_zl, cv_one]
        grind
    · obtain ⟨g, d, dg, G⟩ := ih k hk b r (m + 1) hb.s dk
      exact ⟨g, d, dg, Gc.step (c := 1) (by decide) hs (fun j => by rw [← e j]; grind) G⟩
/-- a common divisor of the greatest degree -/
theorem Dv.dg {g a : Fr} {m n : Nat} (hg : Dg g m) (ha : Dg a n) (h : Dv g a) : m ≤ n := by
  obtain ⟨s, N, hs, e⟩ := h
  rcases dg_or hs with z | ⟨k, _, dk⟩
  · exfalso
    apply ha.t
    rw [e n, show s = fun _ => 0 from funext z, cv_zl]
  · have := dg_cv dk hg
    rw [← funext e] at this
    have := dg_uniq this ha
    omega
theorem gc_deg {a b g h : Fr} {m n : Nat} (G : Gc a b g) (hg : Dg g m) (hh : Dg h n) (h1 : Dv h a) (h2 : Dv h b) (hl : m ≤ n) : Gc a b h := by
  have d := G.great h1 h2
  have e := d.dg hh hg
  have e : m = n := by omega
  subst e
  obtain ⟨s, N, hs, q⟩ := d
  rcases dg_or hs with z | ⟨k, _, dk⟩
  · exfalso
    apply hg.t
    rw [q m, show s = fun _ => 0 from funext z, cv_zl]
  · have e2 := dg_cv dk hh
    rw [← funext q] at e2
    have := dg_uniq e2 hg
    have k0 : k = 0 := by omega
    subst k0
    have es : s = fun j => if j = 0 then s 0 else 0 := funext fun j => by
      by_cases c : j = 0
      · rw [if_pos c, c]
      · rw [if_neg c]
        exact dk.s j (by omega)
    have e3 : g = fun j => s 0 * h j := funext fun j => by
      rw [q j, es, d0_one]
      rfl
    have := G.sc (c := 1 / s 0) (by have := dk.t; grind)
    rw [e3] at this
    rwa [show (fun j => 1 / s 0 * (s 0 * h j)) = h from funext fun j => by have := dk.t; grind] at this
/-! ### modulo a prime -/
def Md (m : Int) (g f : Fr) : Prop := ∃ s N, Iz s ∧ Fs s N ∧ Pd m fun j => f j - cv s g j
theorem Md.cong {m : Int} {g f f' : Fr} (h : Md m g f) (e : Pd m fun j => f' j - f j) : Md m g f' := by
  obtain ⟨s, N, i, hs, p⟩ := h
  refine ⟨s, N, i, hs, fun j => ?_⟩
  have := (p j).add (e j)
  rwa [show f j - cv s g j + (f' j - f j) = f' j - cv s g j by grind] at this
theorem Md.add {m : Int} {g f h : Fr} (h1 : Md m g f) (h2 : Md m g h) : Md m g fun j => f j + h j := by
  obtain ⟨s, N, i, hs, p⟩ := h1
  obtain ⟨t, M, i2, ht, q⟩ := h2
  refine ⟨fun j => s j + t j, max N M, fun j => (i j).add (i2 j), fun j hj => ?_, fun j => ?_⟩
  · show s j + t j = 0
    rw [hs j (by omega), ht j (by omega)]
    grind
  · dsimp only
    rw [cv_addl]
    have := (p j).add (q j)
    dsimp only at this
    rwa [show f j - cv s g j + (h j - cv t g j) = f j + h j - (cv s g j + cv t g j) by grind] at this
theorem Md.mul {m : Int} {g f u : Fr} {N : Nat} (iu : Iz u) (hu : Fs u N) (h : Md m g f) : Md m g (cv u f) := by
  obtain ⟨s, M, i, hs, p⟩ := h
  refine ⟨cv u s, N + M, iu.cv i, cv_out hu hs, fun j => ?_⟩
  have := Pd.cvr iu p j
  have e : cv u (fun j => f j - cv s g j) j = cv u f j - cv (cv u s) g j := by
    rw [cv_assoc, cv_comm, show (fun j => f j - cv s g j) = fun j => (-1 : Rat) * cv s g j + f j from funext fun j => by grind, cv_lin, cv_comm, cv_comm f u]
    grind
  rwa [e] at this
theorem Md.sc {m : Int} {g f : Fr} {c : Rat} (ic : Iq c) (h : Md m g f) : Md m g fun j => c * f j := by
  obtain ⟨s, M, i, hs, p⟩ := h
  refine ⟨fun j => c * s j, M, fun j => ic.mul (i j), fun j hj => by dsimp only; rw [hs j hj]; grind, fun j => ?_⟩
  dsimp only
  rw [cv_sc']
  have := Pq.mull ic (p j)
  dsimp only at this
  rwa [show c * (f j - cv s g j) = c * f j - c * cv s g j by grind] at this
theorem Md.of {m : Int} {g f s : Fr} {N : Nat} (i : Iz s) (hs : Fs s N) (e : ∀ j, f j = cv s g j) : Md m g f := ⟨s, N, i, hs, fun j => by
  dsimp only
  rw [e j, show cv s g j - cv s g j = 0 by grind]
  exact Pq.zero m⟩
/-- where the top item is no multiple of m -/
theorem top_ex {m : Int} {s : Fr} : ∀ {N : Nat}, Fs s N → ¬ Pd m s → ∃ t, ¬ Pq m (s t) ∧ ∀ j, t < j → Pq m (s j)
  | 0, h, hn => absurd (fun j => by rw [h j (Nat.zero_le _)]; exact Pq.zero m) hn
  | N + 1, h, hn => by
    by_cases c : Pq m (s N)
    · obtain ⟨t, ht, hl⟩ := top_ex (s := fun j => if j = N then 0 else s j) (m := m) (N := N) (fun j hj => by
        show (if j = N then (0 : Rat) else s j) = 0
        by_cases e : j = N
        · rw [if_pos e]
        · rw [if_neg e]
          exact h j (by omega)) (fun z => hn fun j => by
        by_cases e : j = N
        · rw [e]
          exact c
        · have := z j
          dsimp only at this
          rwa [if_neg e] at this)
      have et : t ≠ N := fun e => ht (by rw [if_pos e]; exact Pq.zero m)
      rw [if_neg et] at ht
      refine ⟨t, ht, fun j hj => ?_⟩
      by_cases e : j = N
      · rw [e]
        exact c
      · have := hl j hj
        rwa [if_neg e] at this
    · exact ⟨N, c, fun j hj => by
        rw [h j (by omega)]
        exact Pq.zero m⟩
theorem mod_deg {m : Int} (hm : Prm m) {g f : Fr} {d r : Nat} (ig : Iz g) (hg : Fs g (d + 1)) (ht : ¬ Pq m (g d)) (hf : Fs f (r + 1)) (h1 : ¬ Pq m (f r)) (h : Md m g f) : d ≤ r := by
  obtain ⟨s, N, i, hs, p⟩ := h
  by_cases c : Pd m s
  · exfalso
    apply h1
    have h2 := Pd.cvl c ig r
    have := (p r).add h2
    rwa [show f r - cv s g r + cv s g r = f r by grind] at this
  · obtain ⟨t, ht1, hl⟩ := top_ex hs c
    apply Nat.le_of_not_lt
    intro hlt
    have h2 := p (t + d)
    dsimp only at h2
    rw [hf (t + d) (by omega)] at h2
    have h3 : Pq m (cv s g (t + d)) := by
      have := h2.neg
      rwa [show -(0 - cv s g (t + d)) = cv s g (t + d) by grind] at this
    have h4 : Pq m (s t * g (t + d - t)) := Pq.one (f := fun x => s x * g (t + d - x)) (i := t) (n := t + d + 1) (by omega) (fun j hj hne => by
      by_cases c2 : t < j
      · exact (hl j c2).mulr (ig _)
      · rw [hg (t + d - j) (by omega)]
        rw [show s j * 0 = 0 by grind]
        exact Pq.zero m) h3
    rw [show t + d - t = d by omega] at h4
    rcases hm.orq (i t) (ig d) h4 with z | z
    · exact ht1 z
    · exact ht z
/-- a whole number's row without a common prime, in its proportions -/
theorem pri_ex : ∀ (n : Nat) (f : Fr) (d : Nat), Iz f → Dg f d → (∃ z : Int, f d = (z : Rat) ∧ z.natAbs = n) → ∃ (c : Rat) (h : Fr), c ≠ 0 ∧ Iz h ∧ Pri h ∧ ∀ j, f j = c * h j := by
  intro n
  induction n using Nat.strongRecOn with
  | ind n ih =>
    rintro f d hf hd ⟨z, ez, rfl⟩
    by_cases c : Pri f
    · exact ⟨1, f, by decide, hf, c, fun j => by grind⟩
    · obtain ⟨p, hp, hpd⟩ : ∃ p, Prm p ∧ Pd p f := Classical.byContradiction fun w => c fun p hp hq => w ⟨p, hp, hq⟩
      have p1 := hp.big
      have p0 : ((p : Int) : Rat) ≠ 0 := fun w => by
        have : p = 0 := by exact_mod_cast w
        omega
      have hf2 : Iz fun j => 1 / (p : Rat) * f j := fun j => by
        obtain ⟨y, hy⟩ := hpd j
        exact ⟨y, by dsimp only; rw [hy]; grind⟩
      obtain ⟨y, hy⟩ := hpd d
      have ezy : z = p * y := by
        rw [ez, ← Rat.intCast_mul] at hy
        exact_mod_cast hy
      have z0 : z ≠ 0 := fun w => hd.t (by rw [ez, w]; rfl)
      have y0 : y ≠ 0 := fun w => z0 (by rw [ezy, w, Int.mul_zero])
      obtain ⟨c2, h, hc, ih2, pr, e⟩ := ih y.natAbs (by
        rw [ezy, Int.natAbs_mul]
        have h1 : 1 < p.natAbs := by omega
        have h2 : 0 < y.natAbs := by omega
        have := Nat.mul_lt_mul_of_pos_right h1 h2
        omega) (fun j => 1 / (p : Rat) * f j) d hf2 (dg_sc hd (by grind)) ⟨y, by rw [hy]; grind, rfl⟩
      refine ⟨p * c2, h, fun w => ?_, ih2, pr, fun j => ?_⟩
      · rcases Rat.mul_eq_zero.mp w with v | v
        · exact p0 v
        · exact hc v
      · have := e j
        grind
end Ind

set_option Elab.async false
set_option linter.all false
set_option maxRecDepth 10000
namespace Ind
/-! ### the size of a divisor, by values at whole numbers -/
def Bdr (x V : Rat) : Prop := -V ≤ x ∧ x ≤ V
theorem Bdr.add {x y A B : Rat} (h1 : Bdr x A) (h2 : Bdr y B) : Bdr (x + y) (A + B) := by
  unfold Bdr at *
  grind
theorem Bdr.neg {x A : Rat} (h : Bdr x A) : Bdr (-x) A := by
  unfold Bdr at *
  grind
theorem Bdr.sub {x y A B : Rat} (h1 : Bdr x A) (h2 : Bdr y B) : Bdr (x - y) (A + B) := by
  unfold Bdr at *
  grind
theorem Bdr.mono {x A B : Rat} (h : Bdr x A) (l : A ≤ B) : Bdr x B := by
  unfold Bdr at *
  grind
theorem Bdr.mul {x y A B : Rat} (h1 : Bdr x A) (h2 : Bdr y B) : Bdr (x * y) (A * B) := by
  unfold Bdr at *
  have a1 : 0 ≤ A - x := by grind
  have a2 : 0 ≤ A + x := by grind
  have b1 : 0 ≤ B - y := by grind
  have b2 : 0 ≤ B + y := by grind
  have p1 := Rat.mul_nonneg a1 b2
  have p2 := Rat.mul_nonneg a2 b1
  have p3 := Rat.mul_nonneg a1 b1
  have p4 := Rat.mul_nonneg a2 b2
  constructor <;> grind
theorem Bdr.zero {A : Rat} (h : 0 ≤ A) : Bdr 0 A := by
  unfold Bdr
  grind
theorem cv_lx0 (s : Fr) (c : Rat) : cv s (Lx c) 0 = -c * s 0 := by
  rw [cv_z]
  show s 0 * (-c) = _
  grind
theorem cv_lx (s : Fr) (c : Rat) (j : Nat) : cv s (Lx c) (j + 1) = s j - c * s (j + 1) := by
  rw [cv_comm, cv_s]
  have e : tl (Lx c) = one1 := funext fun j => by
    show Lx c (j + 1) = one1 j
    unfold Lx one1
    rw [if_neg (by omega)]
    by_cases h : j = 0
    · rw [if_pos (by omega), if_pos h]
    · rw [if_neg (by omega), if_neg h]
  rw [e, cv_one]
  show -c * s (j + 1) + s j = _
  grind
/-- the quotient by x - c is shorter -/
theorem lx_len {f s : Fr} {c y : Rat} {N d : Nat} (hf : Fs f (d + 1)) (hs : Fs s N) (e : ∀ j, f j = cv s (Lx c) j + if j = 0 then y else 0) : Fs s d := by
  rcases dg_or hs with z | ⟨k, _, dk⟩
  · exact fun j _ => z j
  · have h1 := dg_cv dk (lx_dg c)
    have h2 : f (k + 1) ≠ 0 := by
      rw [e (k + 1), if_neg (by omega)]
      have := h1.t
      grind
    have h3 : k < d := by
      apply Nat.lt_of_not_le
      intro z
      exact h2 (hf (k + 1) (by omega))
    exact dk.s.mono (by omega)
def Bc (T : Rat) : Nat → Rat
  | 0 => 1
  | d + 1 => 2 * (1 + T) * Bc T d + 1
theorem bc_pos {T : Rat} (h : 0 ≤ T) : ∀ d, 0 ≤ Bc T d
  | 0 => by
    show (0 : Rat) ≤ 1
    decide
  | d + 1 => by
    show 0 ≤ 2 * (1 + T) * Bc T d + 1
    have := Rat.mul_nonneg (show (0 : Rat) ≤ 2 * (1 + T) by grind) (bc_pos h d)
    grind
theorem coef_bound {T : Rat} (hT : 0 ≤ T) : ∀ (d : Nat) (V : Rat) (h : Fr) (cs : List Int), 0 ≤ V → Fs h (d + 1) → cs.length = d + 1 → cs.Nodup → (∀ c ∈ cs, Bdr ((c : Int) : Rat) T ∧ ∃ y, Val h ((c : Int) : Rat) y ∧ Bdr y V) → ∀ j, Bdr (h j) (Bc T d * V)
  | 0, V, h, cs, hV, hf, hl, hn, hc => fun j => by
    match cs, hl with
    | [c], _ =>
      obtain ⟨_, y, hy, by_⟩ := hc c (by simp)
      have e : y = h 0 := val_uniq hy ⟨fun _ => 0, 0, fun _ _ => rfl, fun j => by
        rw [cv_zl]
        by_cases z : j = 0
        · rw [if_pos z, z]
          grind
        · rw [if_neg z, hf j (by omega)]
          grind⟩
      show Bdr (h j) (1 * V)
      rw [show (1 : Rat) * V = V by grind]
      by_cases z : j = 0
      · rw [z, ← e]
        exact by_
      · rw [hf j (by omega)]
        exact Bdr.zero hV
  | d + 1, V, h, cs, hV, hf, hl, hn, hc => by
    match cs, hl with
    | c :: cs, hl =>
      obtain ⟨hcT, y, hy, hyV⟩ := hc c (by simp)
      obtain ⟨s, N, hs, e⟩ := id hy
      have hs' : Fs s (d + 1) := lx_len hf hs e
      have hnd := List.nodup_cons.mp hn
      have ih := coef_bound hT d (2 * V) s cs (by grind) hs' (by simpa using hl) hnd.2 fun c' hc' => by
        obtain ⟨h1, y', hy', hyV'⟩ := hc c' (List.mem_cons_of_mem _ hc')
        refine ⟨h1, ?_⟩
        obtain ⟨z, hz⟩ := val_ex hs' ((c' : Int) : Rat)
        refine ⟨z, hz, ?_⟩
        -- h(c') = s(c') (c' - c) + y
        have hl : Val (Lx ((c : Int) : Rat)) ((c' : Int) : Rat) (((c' : Int) : Rat) - ((c : Int) : Rat)) := ⟨one1, 1, fs_one, fun j => by
          rw [cv_one]
          unfold Lx
          by_cases c : j = 0
          · rw [if_pos c, if_pos c, if_pos c]
            grind
          · rw [if_neg c, if_neg c, if_neg c]
            grind⟩
        have h3 := val_add (val_mul (lx_fs _) hz hl) (val_cst y ((c' : Int) : Rat))
        rw [← show h = fun j => cv s (Lx ((c : Int) : Rat)) j + (fun j => if j = 0 then y else 0) j from funext e] at h3
        have h4 := val_uniq h3 hy'
        have hne : c' ≠ c := fun w => hnd.1 (w ▸ hc')
        have hcc : ((c' : Int) : Rat) - ((c : Int) : Rat) = (((c' - c : Int)) : Rat) := (Rat.intCast_sub c' c).symm
        rw [hcc] at h4
        have h5 : Bdr (z * (((c' - c : Int)) : Rat)) (2 * V) := by
          have := hyV'.sub hyV
          rw [← h4, show z * (((c' - c : Int)) : Rat) + y - y = z * (((c' - c : Int)) : Rat) by grind] at this
          exact this.mono (by grind)
        have h6 : (1 : Rat) ≤ (((c' - c : Int)) : Rat) ∨ (((c' - c : Int)) : Rat) ≤ -1 := by
          rcases Int.lt_or_gt_of_ne hne with w | w
          · right
            have h7 : c' - c ≤ -1 := by omega
            exact Rat.intCast_le_intCast.mpr h7
          · left
            have : 1 ≤ c' - c := by omega
            exact_mod_cast this
        generalize (((c' - c : Int)) : Rat) = u at h5 h6
        unfold Bdr at h5 ⊢
        rcases h6 with w | w
        · constructor
          · apply Rat.not_lt.mp
            intro q
            have := Rat.mul_nonneg (show 0 ≤ -z by grind) (show 0 ≤ u - 1 by grind)
            grind
          · apply Rat.not_lt.mp
            intro q
            have := Rat.mul_nonneg (show 0 ≤ z by grind) (show 0 ≤ u - 1 by grind)
            grind
        · constructor
          · apply Rat.not_lt.mp
            intro q
            have := Rat.mul_nonneg (show 0 ≤ -z by grind) (show 0 ≤ -u - 1 by grind)
            grind
          · apply Rat.not_lt.mp
            intro q
            have := Rat.mul_nonneg (show 0 ≤ z by grind) (show 0 ≤ -u - 1 by grind)
            grind
      have hB := bc_pos hT d
      have hBV := Rat.mul_nonneg hB hV
      have hBTV := Rat.mul_nonneg hBV hT
      intro j
      rw [e j]
      show Bdr _ ((2 * (1 + T) * Bc T d + 1) * V)
      cases j with
      | zero =>
        rw [cv_lx0, if_pos rfl]
        have h1 := ((hcT.neg).mul (ih 0)).add hyV
        exact h1.mono (by grind)
      | succ j =>
        rw [cv_lx, if_neg (by omega)]
        have h1 := ((ih j).sub (hcT.mul (ih (j + 1))))
        rw [show s j - ((c : Int) : Rat) * s (j + 1) + 0 = s j - ((c : Int) : Rat) * s (j + 1) by grind]
        exact h1.mono (by grind)
/-! ### values -/
theorem val_lx (a c : Rat) : Val (Lx a) c (c - a) := ⟨one1, 1, fs_one, fun j => by
  rw [cv_one]
  unfold Lx
  by_cases h : j = 0
  · rw [if_pos h, if_pos h, if_pos h]
    grind
  · rw [if_neg h, if_neg h, if_neg h]
    grind⟩
theorem val_horner {f : Fr} {N : Nat} (hf : Fs f (N + 1)) {c y' : Rat} (h : Val (tl f) c y') : Val f c (y' * c + f 0) := by
  have h1 := val_add (val_mul (lx_fs 0) h (val_lx 0 c)) (val_cst (f 0) c)
  rw [show y' * (c - 0) + f 0 = y' * c + f 0 by grind] at h1
  rwa [show (fun j => cv (tl f) (Lx 0) j + (fun j => if j = 0 then f 0 else 0) j) = f from funext fun j => by
    cases j with
    | zero =>
      dsimp only
      rw [cv_lx0, if_pos rfl]
      grind
    | succ j =>
      dsimp only
      rw [cv_lx, if_neg (by omega)]
      show f (j + 1) - 0 * _ + 0 = f (j + 1)
      grind] at h1
def Hb (A T : Rat) : Nat → Rat
  | 0 => 0
  | n + 1 => Hb A T n * T + A
theorem hb_pos {A T : Rat} (hA : 0 ≤ A) (hT : 0 ≤ T) : ∀ n, 0 ≤ Hb A T n
  | 0 => by
    show (0 : Rat) ≤ 0
    decide
  | n + 1 => by
    show 0 ≤ Hb A T n * T + A
    have := Rat.mul_nonneg (hb_pos hA hT n) hT
    grind
theorem val_z {f : Fr} {c : Rat} (h : ∀ j, f j = 0) : Val f c 0 := ⟨fun _ => 0, 0, fun _ _ => rfl, fun j => by
  rw [h j, cv_zl]
  split <;> grind⟩
theorem val_bound {A T c : Rat} (hc : Bdr c T) : ∀ (N : Nat) (f : Fr) (y : Rat), Fs f N → (∀ j, Bdr (f j) A) → Val f c y → Bdr y (Hb A T N)
  | 0, f, y, hf, hA, h => by
    rw [val_uniq h (val_z fun j => hf j (Nat.zero_le _))]
    exact Bdr.zero (by show (0 : Rat) ≤ 0; decide)
  | N + 1, f, y, hf, hA, h => by
    have ht : Fs (tl f) N := fun j hj => hf (j + 1) (by omega)
    obtain ⟨y', hy'⟩ := val_ex ht c
    rw [val_uniq h (val_horner hf hy')]
    exact ((val_bound hc N (tl f) y' ht (fun j => hA (j + 1)) hy').mul hc).add (hA 0)
theorem val_iq {c : Rat} (hc : Iq c) : ∀ (N : Nat) (f : Fr) (y : Rat), Fs f N → Iz f → Val f c y → Iq y
  | 0, f, y, hf, hA, h => by
    rw [val_uniq h (val_z fun j => hf j (Nat.zero_le _))]
    exact Iq.zero
  | N + 1, f, y, hf, hA, h => by
    have ht : Fs (tl f) N := fun j hj => hf (j + 1) (by omega)
    obtain ⟨y', hy'⟩ := val_ex ht c
    rw [val_uniq h (val_horner hf hy')]
    exact ((val_iq hc N (tl f) y' ht (fun j => hA (j + 1)) hy').mul hc).add (hA 0)
theorem roots_few {N : Nat} {f : Fr} (hf : Fs f N) {cs : List Int} (hl : N ≤ cs.length) (hn : cs.Nodup) (h : ∀ c ∈ cs, Val f ((c : Int) : Rat) 0) : ∀ j, f j = 0 := by
  cases N with
  | zero => exact fun j => hf j (Nat.zero_le _)
  | succ N =>
    obtain ⟨T, hT⟩ : ∃ T : Nat, ∀ c ∈ cs, c.natAbs ≤ T := by
      clear hl hn h
      induction cs with
      | nil => exact ⟨0, by simp⟩
      | cons c cs ih =>
        obtain ⟨T, hT⟩ := ih
        refine ⟨max T c.natAbs, fun x hx => ?_⟩
        rcases List.mem_cons.mp hx with rfl | hx
        · omega
        · have := hT x hx
          omega
    intro j
    have := coef_bound (T := (((T : Nat) : Int) : Rat)) (by exact_mod_cast (Int.natCast_nonneg T)) N 0 f (cs.take (N + 1)) (by decide) hf (by rw [List.length_take]; omega) (hn.sublist (List.take_sublist _ _)) (fun c hc => ⟨⟨by
        have := hT c (List.mem_of_mem_take hc)
        have h2 : -(T : Int) ≤ c := by omega
        have := Rat.intCast_le_intCast.mpr h2
        rwa [Rat.intCast_neg] at this, by
        have := hT c (List.mem_of_mem_take hc)
        have h2 : c ≤ (T : Int) := by omega
        exact Rat.intCast_le_intCast.mpr h2⟩, 0, h c (List.mem_of_mem_take hc), Bdr.zero (by decide)⟩) j
    unfold Bdr at this
    grind
theorem iq_big {x : Rat} (h : Iq x) (h0 : x ≠ 0) : (1 : Rat) ≤ x ∨ x ≤ -1 := by
  obtain ⟨z, rfl⟩ := h
  have hz : z ≠ 0 := fun e => h0 (by rw [e]; rfl)
  rcases Int.lt_or_gt_of_ne hz with w | w
  · right
    have h7 : z ≤ -1 := by omega
    exact Rat.intCast_le_intCast.mpr h7
  · left
    have h7 : 1 ≤ z := by omega
    exact Rat.intCast_le_intCast.mpr h7
theorem bd_div {q x y V : Rat} (hq : Iq q) (q0 : q ≠ 0) (e : y = q * x) (h : Bdr y V) : Bdr x V := by
  rw [e] at h
  unfold Bdr at h ⊢
  rcases iq_big hq q0 with w | w
  · constructor
    · apply Rat.not_lt.mp
      intro r
      by_cases c : 0 ≤ x
      · grind
      · have := Rat.mul_nonneg (show 0 ≤ -x by grind) (show 0 ≤ q - 1 by grind)
        grind
    · apply Rat.not_lt.mp
      intro r
      by_cases c : 0 ≤ x
      · have := Rat.mul_nonneg c (show 0 ≤ q - 1 by grind)
        grind
      · have := Rat.mul_nonneg (show 0 ≤ -x by grind) (show 0 ≤ q - 1 by grind)
        grind
  · constructor
    · apply Rat.not_lt.mp
      intro r
      by_cases c : 0 ≤ x
      · have := Rat.mul_nonneg c (show 0 ≤ -q - 1 by grind)
        grind
      · have := Rat.mul_nonneg (show 0 ≤ -x by grind) (show 0 ≤ -q - 1 by grind)
        grind
    · apply Rat.not_lt.mp
      intro r
      by_cases c : 0 ≤ x
      · have := Rat.mul_nonneg c (show 0 ≤ -q - 1 by grind)
        grind
      · have := Rat.mul_nonneg (show 0 ≤ -x by grind) (show 0 ≤ -q - 1 by grind)
        grind
/-- points at which a polynomial has no zero -/
theorem good_points {a : Fr} {n : Nat} (ha : Dg a n) (d : Nat) : ∃ cs : List Int, cs.length = d + 1 ∧ cs.Nodup ∧ ∀ c ∈ cs, 0 ≤ c ∧ c ≤ ((n + d : Nat) : Int) ∧ ¬ Val a ((c : Int) : Rat) 0 := by
  classical
  let L : List Int := (List.range (n + d + 1)).map fun k : Nat => (k : Int)
  have hL : L.Nodup := List.Pairwise.map _ (fun a b h => by omega) (List.nodup_range (n := n + d + 1))
  have hlen : L.length = n + d + 1 := by simp [L]
  let p : Int → Bool := fun c => decide (Val a ((c : Int) : Rat) 0)
  have hz : (L.filter p).length ≤ n := by
    apply Nat.le_of_not_lt
    intro h
    refine ha.t (roots_few ha.s (cs := L.filter p) (by omega) (hL.sublist List.filter_sublist) (fun c hc => ?_) n)
    exact of_decide_eq_true (List.mem_filter.mp hc).2
  have hsum : (L.filter p).length + (L.filter fun c => !p c).length = L.length := by
    clear hz hlen hL
    induction L with
    | nil => rfl
    | cons c L ih =>
      cases e : p c
      · rw [List.filter_cons_of_neg (by simp [e]), List.filter_cons_of_pos (by simp [e]), List.length_cons, List.length_cons]
        omega
      · rw [List.filter_cons_of_pos (by simp [e]), List.filter_cons_of_neg (by simp [e]), List.length_cons, List.length_cons]
        omega
  refine ⟨(L.filter fun c => !p c).take (d + 1), by rw [List.length_take]; omega, (hL.sublist List.filter_sublist).sublist (List.take_sublist _ _), fun c hc => ?_⟩
  obtain ⟨h1, h2⟩ := List.mem_filter.mp (List.mem_of_mem_take hc)
  obtain ⟨k, hk, rfl⟩ := List.mem_map.mp h1
  have := List.mem_range.mp hk
  refine ⟨by omega, by omega, fun z => ?_⟩
  have e : p (k : Int) = true := decide_eq_true z
  rw [e] at h2
  cases h2
theorem div_size {a h q : Fr} {n d N : Nat} {A : Rat} (hA : ∀ j, Bdr (a j) A) (da : Dg a n) (ih : Iz h) (dh : Dg h d) (iq : Iz q) (hq : Fs q N) (e : ∀ j, a j = cv q h j) :
    ∀ j, Bdr (h j) (Bc ((((n + d : Nat) : Int)) : Rat) d * Hb A ((((n + d : Nat) : Int)) : Rat) (n + 1)) := by
  obtain ⟨cs, hl, hn, hc⟩ := good_points da d
  have hT : (0 : Rat) ≤ ((((n + d : Nat) : Int)) : Rat) := Rat.intCast_le_intCast.mpr (Int.natCast_nonneg (n + d))
  have hA0 : 0 ≤ A := by
    have := hA 0
    unfold Bdr at this
    grind
  refine coef_bound hT d _ h cs (hb_pos hA0 hT _) dh.s hl hn fun c hcm => ?_
  obtain ⟨c0, c1, hv⟩ := hc c hcm
  have cT : Bdr ((c : Int) : Rat) ((((n + d : Nat) : Int)) : Rat) := by
    have h1 := Rat.intCast_le_intCast.mpr c0
    have h2 := Rat.intCast_le_intCast.mpr c1
    have h3 : ((0 : Int) : Rat) = 0 := rfl
    unfold Bdr
    grind
  refine ⟨cT, ?_⟩
  obtain ⟨x, hx⟩ := val_ex dh.s ((c : Int) : Rat)
  obtain ⟨z, hz⟩ := val_ex hq ((c : Int) : Rat)
  obtain ⟨y, hy⟩ := val_ex da.s ((c : Int) : Rat)
  have h1 := val_mul dh.s hz hx
  rw [← show a = cv q h from funext e] at h1
  have ey := val_uniq hy h1
  have z0 : z ≠ 0 := fun w => hv (by
    rw [w, show (0 : Rat) * x = 0 by grind] at h1
    exact h1)
  exact ⟨x, hx, bd_div (val_iq ⟨c, rfl⟩ _ q z hq iq hz) z0 ey (val_bound cT _ a y da.s hA hy)⟩
/-- the same in bits -/
theorem bc_le {t d : Nat} (ht : t ≤ 126) : Bc (((t : Nat) : Int) : Rat) d ≤ (((256 ^ d : Nat) : Int) : Rat) := by
  have hT : (0 : Rat) ≤ (((t : Nat) : Int) : Rat) := Rat.intCast_le_intCast.mpr (Int.natCast_nonneg t)
  have hT2 : (((t : Nat) : Int) : Rat) ≤ 126 := Rat.intCast_le_intCast.mpr (show (t : Int) ≤ 126 by omega)
  have key : Bc (((t : Nat) : Int) : Rat) d ≤ (((256 ^ d : Nat) : Int) : Rat) ∧ (1 : Rat) ≤ (((256 ^ d : Nat) : Int) : Rat) := by
    induction d with
    | zero => exact ⟨by show (1 : Rat) ≤ (((1 : Nat) : Int) : Rat); decide, by show (1 : Rat) ≤ (((1 : Nat) : Int) : Rat); decide⟩
    | succ d ih =>
      obtain ⟨h1, h2⟩ := ih
      have e : (((256 ^ (d + 1) : Nat) : Int) : Rat) = 256 * (((256 ^ d : Nat) : Int) : Rat) := by
        rw [show (((256 ^ (d + 1) : Nat)) : Int) = 256 * ((256 ^ d : Nat) : Int) by rw [Nat.pow_succ]; omega, Rat.intCast_mul]
        rfl
      rw [e]
      show 2 * (1 + (((t : Nat) : Int) : Rat)) * Bc _ d + 1 ≤ _ ∧ _
      have hb := bc_pos hT d
      have h3 := Rat.mul_nonneg (show (0 : Rat) ≤ 126 - (((t : Nat) : Int) : Rat) by grind) hb
      constructor <;> grind
  exact key.1
theorem hb_le {A t n : Nat} (ht : t ≤ 126) : Hb (((A : Nat) : Int) : Rat) (((t : Nat) : Int) : Rat) n ≤ (((A * 128 ^ n : Nat) : Int) : Rat) := by
  have hT : (0 : Rat) ≤ (((t : Nat) : Int) : Rat) := Rat.intCast_le_intCast.mpr (Int.natCast_nonneg t)
  have hA : (0 : Rat) ≤ (((A : Nat) : Int) : Rat) := Rat.intCast_le_intCast.mpr (Int.natCast_nonneg A)
  have hT2 : (((t : Nat) : Int) : Rat) ≤ 126 := Rat.intCast_le_intCast.mpr (show (t : Int) ≤ 126 by omega)
  have key : Hb (((A : Nat) : Int) : Rat) (((t : Nat) : Int) : Rat) n ≤ (((A * 128 ^ n : Nat) : Int) : Rat) ∧ (((A : Nat) : Int) : Rat) ≤ (((A * 128 ^ n : Nat) : Int) : Rat) := by
    induction n with
    | zero =>
      rw [Nat.pow_zero, Nat.mul_one]
      exact ⟨hA, by grind⟩
    | succ n ih =>
      obtain ⟨h1, h2⟩ := ih
      have e : (((A * 128 ^ (n + 1) : Nat) : Int) : Rat) = 128 * (((A * 128 ^ n : Nat) : Int) : Rat) := by
        rw [show ((A * 128 ^ (n + 1) : Nat) : Int) = 128 * ((A * 128 ^ n : Nat) : Int) by rw [Nat.pow_succ, ← Nat.mul_assoc]; omega, Rat.intCast_mul]
        rfl
      rw [e]
      show Hb _ _ n * _ + _ ≤ _ ∧ _
      have hb := hb_pos hA hT n
      have h3 := Rat.mul_nonneg hb (show (0 : Rat) ≤ 126 - (((t : Nat) : Int) : Rat) by grind)
      constructor <;> grind
  exact key.1
theorem div_bits {a h q : Fr} {n d N A : Nat} (hA : ∀ j, Bdr (a j) (((A : Nat) : Int) : Rat)) (da : Dg a n) (ih : Iz h) (dh : Dg h d) (iq : Iz q) (hq : Fs q N) (e : ∀ j, a j = cv q h j) (hn : n + d ≤ 126) :
    ∀ j, Bdr (h j) (((256 ^ d * (A * 128 ^ (n + 1)) : Nat) : Int) : Rat) := fun j => by
  refine (div_size hA da ih dh iq hq e j).mono ?_
  have h1 := bc_le (t := n + d) (d := d) hn
  have h2 := hb_le (A := A) (t := n + d) (n := n + 1) hn
  have hT : (0 : Rat) ≤ ((((n + d : Nat) : Int)) : Rat) := Rat.intCast_le_intCast.mpr (Int.natCast_nonneg (n + d))
  have b1 := bc_pos hT d
  have b2 := hb_pos (show (0 : Rat) ≤ (((A : Nat) : Int) : Rat) from Rat.intCast_le_intCast.mpr (Int.natCast_nonneg A)) hT (n + 1)
  rw [show ((256 ^ d * (A * 128 ^ (n + 1)) : Nat) : Int) = ((256 ^ d : Nat) : Int) * ((A * 128 ^ (n + 1) : Nat) : Int) from Int.natCast_mul _ _, Rat.intCast_mul]
  generalize Bc ((((n + d : Nat) : Int)) : Rat) d = X at *
  generalize Hb (((A : Nat) : Int) : Rat) ((((n + d : Nat) : Int)) : Rat) (n + 1) = Y at *
  generalize (((256 ^ d : Nat) : Int) : Rat) = U at *
  generalize (((A * 128 ^ (n + 1) : Nat) : Int) : Rat) = W at *
  have h3 := Rat.mul_nonneg (show 0 ≤ U - X by grind) b2
  have h4 := Rat.mul_nonneg (show 0 ≤ U by grind) (show 0 ≤ W - Y by grind)
  grind
end Ind

set_option Elab.async false
set_option maxRecDepth 100000
set_option exponentiation.threshold 20000
set_option linter.all false
namespace Ind
/-! ### Mersenne's primes, by Lucas and Lehmer -/
/-- Lucas and Lehmer's row: x, x^2 - 2 modulo m, .. -/
def llit (m : Nat) : Nat → Nat → Nat
  | 0, x => x
  | n + 1, x => llit m n ((x * x + m - 2) % m)
def lA : Nat → Int × Int
  | 0 => (1, 0)
  | k + 1 => (2 * (lA k).1 + 3 * (lA k).2, (lA k).1 + 2 * (lA k).2)
theorem lA_add (m : Nat) : ∀ n, lA (m + n) = ((lA m).1 * (lA n).1 + 3 * ((lA m).2 * (lA n).2), (lA m).1 * (lA n).2 + (lA m).2 * (lA n).1)
  | 0 => by
    show lA m = ((lA m).1 * 1 + 3 * ((lA m).2 * 0), (lA m).1 * 0 + (lA m).2 * 1)
    ext <;> simp
  | n + 1 => by
    have ih := lA_add m n
    show (2 * (lA (m + n)).1 + 3 * (lA (m + n)).2, (lA (m + n)).1 + 2 * (lA (m + n)).2) = ((lA m).1 * (2 * (lA n).1 + 3 * (lA n).2) + 3 * ((lA m).2 * ((lA n).1 + 2 * (lA n).2)), (lA m).1 * ((lA n).1 + 2 * (lA n).2) + (lA m).2 * (2 * (lA n).1 + 3 * (lA n).2))
    rw [ih]
    ext
    · show 2 * _ + 3 * _ = _
      grind
    · show _ + 2 * _ = _
      grind
theorem lA_norm : ∀ n, (lA n).1 * (lA n).1 - 3 * ((lA n).2 * (lA n).2) = 1
  | 0 => by decide
  | n + 1 => by
    have ih := lA_norm n
    show (2 * (lA n).1 + 3 * (lA n).2) * (2 * (lA n).1 + 3 * (lA n).2) - 3 * (((lA n).1 + 2 * (lA n).2) * ((lA n).1 + 2 * (lA n).2)) = 1
    grind
theorem lA_dbl (n : Nat) : (lA (n + n)).1 = 2 * ((lA n).1 * (lA n).1) - 1 ∧ (lA (n + n)).2 = 2 * ((lA n).1 * (lA n).2) := by
  have h := lA_norm n
  rw [lA_add]
  constructor
  · show (lA n).1 * (lA n).1 + 3 * ((lA n).2 * (lA n).2) = _
    omega
  · show (lA n).1 * (lA n).2 + (lA n).2 * (lA n).1 = _
    grind
/-- the periods modulo t -/
def Per (t : Int) (k : Nat) : Prop := t ∣ (lA k).1 - 1 ∧ t ∣ (lA k).2
theorem Per.sub {t : Int} {m n : Nat} (h : Per t (m + n)) (h2 : Per t m) : Per t n := by
  obtain ⟨⟨a, ea⟩, ⟨b, eb⟩⟩ := h
  obtain ⟨⟨c, ec⟩, ⟨d, ed⟩⟩ := h2
  rw [lA_add] at ea eb
  have ea : (lA m).1 * (lA n).1 + 3 * ((lA m).2 * (lA n).2) - 1 = t * a := ea
  have eb : (lA m).1 * (lA n).2 + (lA m).2 * (lA n).1 = t * b := eb
  refine ⟨⟨a - c * (lA n).1 - 3 * (d * (lA n).2), ?_⟩, ⟨b - c * (lA n).2 - d * (lA n).1, ?_⟩⟩
  · grind
  · grind
theorem Per.add {t : Int} {m n : Nat} (h : Per t m) (h2 : Per t n) : Per t (m + n) := by
  obtain ⟨⟨a, ea⟩, ⟨b, eb⟩⟩ := h
  obtain ⟨⟨c, ec⟩, ⟨d, ed⟩⟩ := h2
  unfold Per
  rw [lA_add]
  show t ∣ (lA m).1 * (lA n).1 + 3 * ((lA m).2 * (lA n).2) - 1 ∧ t ∣ (lA m).1 * (lA n).2 + (lA m).2 * (lA n).1
  have e1 : (lA m).1 = t * a + 1 := by omega
  have e2 : (lA n).1 = t * c + 1 := by omega
  refine ⟨⟨t * a * c + a + c + 3 * (b * (lA n).2), ?_⟩, ⟨a * (lA n).2 + d + b * (lA n).1, ?_⟩⟩
  · rw [e1, e2, eb]
    grind
  · rw [e1, ed, eb]
    grind
theorem Per.mul {t : Int} {m : Nat} (h : Per t m) : ∀ k, Per t (m * k)
  | 0 => ⟨⟨0, by show (1 : Int) - 1 = t * 0; grind⟩, ⟨0, by show (0 : Int) = t * 0; grind⟩⟩
  | k + 1 => (Per.mul h k).add h
theorem Per.mod {t : Int} {m n : Nat} (h : Per t n) (h2 : Per t m) : Per t (n % m) := by
  have := Nat.div_add_mod n m
  rw [← this] at h
  exact h.sub (h2.mul _)
theorem Per.gcd {t : Int} : ∀ (m n : Nat), Per t m → Per t n → Per t (Nat.gcd m n) := by
  intro m
  induction m using Nat.strongRecOn with
  | ind m ih =>
    intro n h1 h2
    rcases Nat.eq_zero_or_pos m with e | e
    · subst e
      rw [Nat.gcd_zero_left]
      exact h2
    · rw [Nat.gcd_rec]
      exact ih (n % m) (Nat.mod_lt _ e) m (h2.mod h1) h1
/-- no more numbers than places -/
theorem pigeon : ∀ (m n : Nat) (f : Nat → Nat), (∀ i, i < n → f i < m) → (∀ i j, i < j → j < n → f i ≠ f j) → n ≤ m
  | 0, n, f, h, _ => by
    apply Nat.le_of_not_lt
    intro z
    exact absurd (h 0 z) (Nat.not_lt_zero _)
  | m + 1, 0, _, _, _ => Nat.zero_le _
  | m + 1, n + 1, f, h, inj => by
    have := pigeon m n (fun i => if f i = m then f n else f i) (fun i hi => by
      have h1 := h i (by omega)
      have h2 := h n (by omega)
      have h3 := inj i n hi (by omega)
      show (if f i = m then f n else f i) < m
      split <;> omega) (fun i j hij hj => by
      have h1 := inj i j hij (by omega)
      have h2 := inj i n (by omega) (by omega)
      have h3 := inj j n hj (by omega)
      show (if f i = m then f n else f i) ≠ (if f j = m then f n else f j)
      split <;> split <;> omega)
    omega
theorem llit_is {m : Nat} (hm : 2 ≤ m) : ∀ (k n x : Nat), (m : Int) ∣ 2 * (lA n).1 - (x : Int) → (m : Int) ∣ 2 * (lA (n * 2 ^ k)).1 - (llit m k x : Int)
  | 0, n, x, h => by
    rw [Nat.pow_zero, Nat.mul_one]
    exact h
  | k + 1, n, x, h => by
    have e : n * 2 ^ (k + 1) = (n + n) * 2 ^ k := by
      rw [Nat.pow_succ]
      grind
    rw [e]
    refine llit_is hm k (n + n) ((x * x + m - 2) % m) ?_
    obtain ⟨c, hc⟩ := h
    have d := Nat.div_add_mod (x * x + m - 2) m
    generalize (x * x + m - 2) % m = r at d
    generalize (x * x + m - 2) / m = q at d
    have d2 : (m : Int) * (q : Int) + (r : Int) = (x : Int) * (x : Int) + (m : Int) - 2 := by
      have : ((m * q + r : Nat) : Int) = ((x * x + m - 2 : Nat) : Int) := congrArg _ d
      rw [Int.natCast_add, Int.natCast_mul, Int.natCast_sub (by omega), Int.natCast_add, Int.natCast_mul] at this
      exact this
    rw [(lA_dbl n).1]
    have ex : 2 * (lA n).1 = (m : Int) * c + (x : Int) := by omega
    refine ⟨c * (2 * (lA n).1) + (x : Int) * c + (q : Int) - 1, ?_⟩
    grind
theorem dvd_half {g p : Nat} (h : g ∣ 2 ^ (p + 1)) (h2 : g ≠ 2 ^ (p + 1)) : g ∣ 2 ^ p := by
  obtain ⟨c, hc⟩ := h
  obtain ⟨k, e⟩ : ∃ k, c = 2 * k ∨ c = 2 * k + 1 := ⟨c / 2, by omega⟩
  rcases e with e | e
  · refine ⟨k, ?_⟩
    rw [Nat.pow_succ, e] at hc
    have : 2 ^ p * 2 = g * k * 2 := by rw [hc]; grind
    omega
  · exfalso
    have co : Nat.Coprime c (2 ^ (p + 1)) := Nat.Coprime.pow_right _ (by
      rw [e]
      show Nat.gcd (2 * k + 1) 2 = 1
      rw [Nat.gcd_comm, Nat.gcd_rec]
      have : (2 * k + 1) % 2 = 1 := by omega
      rw [this]
      rfl)
    have d : c ∣ 2 ^ (p + 1) := ⟨g, by rw [hc, Nat.mul_comm]⟩
    have c1 : c = 1 := by
      have := Nat.Coprime.eq_one_of_dvd co d
      exact this
    rw [c1, Nat.mul_one] at hc
    exact h2 hc.symm
theorem lA_back {x y u v X Y : Int} (nn : x * x - 3 * (y * y) = 1) (a3 : X = x * u + 3 * (y * v)) (a4 : Y = x * v + y * u) : u = X * x - 3 * (Y * y) ∧ v = Y * x - X * y := by
  rw [a3, a4]
  have h1 : u * (x * x - 3 * (y * y)) = u := by rw [nn, Int.mul_one]
  have h2 : v * (x * x - 3 * (y * y)) = v := by rw [nn, Int.mul_one]
  constructor
  · rw [← h1]
    have : (x * u + 3 * (y * v)) * x - 3 * ((x * v + y * u) * y) = u * (x * x - 3 * (y * y)) := by grind
    rw [h1] at this ⊢
    exact this.symm
  · have : (x * v + y * u) * x - (x * u + 3 * (y * v)) * y = v * (x * x - 3 * (y * y)) := by grind
    rw [h2] at this
    exact this.symm
theorem lA_per {x y t c e : Int} (nn : x * x - 3 * (y * y) = 1) : (x - t * c) * x - 3 * ((y - t * e) * y) - 1 = t * (-(c * x) + 3 * (e * y)) ∧ (y - t * e) * x - (x - t * c) * y = t * (-(e * x) + c * y) := by
  constructor
  · have : (x - t * c) * x - 3 * ((y - t * e) * y) - 1 = (x * x - 3 * (y * y)) - 1 + t * (-(c * x) + 3 * (e * y)) := by grind
    rw [this, nn]
    grind
  · grind
/-- no divisor up to the root -/
theorem mers_no {p : Nat} (h : llit (2 ^ (p + 2) - 1) p 4 = 0) {t : Nat} (t1 : 1 < t) (tt : t * t ≤ 2 ^ (p + 2) - 1) : ¬ t ∣ 2 ^ (p + 2) - 1 := by
  intro dv
  have p4 : 4 ≤ 2 ^ (p + 2) := by
    have := Nat.pow_le_pow_right (show 0 < 2 by decide) (show 2 ≤ p + 2 by omega)
    omega
  have h1 := llit_is (m := 2 ^ (p + 2) - 1) (by omega) p 1 4 ⟨0, by show 2 * (lA 1).1 - 4 = _; rw [show (lA 1).1 = 2 from rfl]; grind⟩
  rw [h, Nat.one_mul] at h1
  have h2 : (t : Int) ∣ 2 * (lA (2 ^ p)).1 := by
    have := Int.dvd_trans (Int.ofNat_dvd.mpr dv) h1
    rw [show ((0 : Nat) : Int) = 0 from rfl, Int.sub_zero] at this
    exact this
  -- t is odd
  obtain ⟨c, hc⟩ := dv
  have e2 : 2 ^ (p + 2) = 2 * (2 * 2 ^ p) := by
    rw [Nat.pow_add]
    omega
  have todd : t % 2 = 1 := by
    rcases Nat.mod_two_eq_zero_or_one t with e | e
    · exfalso
      obtain ⟨k, hk⟩ : ∃ k, t = 2 * k := ⟨t / 2, by omega⟩
      rw [hk, Nat.mul_assoc] at hc
      omega
    · exact e
  have h3 : (t : Int) ∣ (lA (2 ^ p)).1 := by
    obtain ⟨k, hk⟩ := h2
    obtain ⟨s, hs⟩ : ∃ s, t = 2 * s + 1 := ⟨t / 2, by omega⟩
    have hs2 : (t : Int) = 2 * (s : Int) + 1 := by omega
    -- A = t A - 2 s A
    refine ⟨(lA (2 ^ p)).1 - (s : Int) * k, ?_⟩
    have : (s : Int) * (2 * (lA (2 ^ p)).1) = (s : Int) * ((t : Int) * k) := by rw [hk]
    grind
  -- the powers of two
  have q1 : 2 ^ (p + 1) = 2 ^ p + 2 ^ p := by rw [Nat.pow_succ]; omega
  have q2 : 2 ^ (p + 2) = 2 ^ (p + 1) + 2 ^ (p + 1) := by rw [Nat.pow_succ 2 (p + 1)]; omega
  obtain ⟨a1, b1⟩ := lA_dbl (2 ^ p)
  rw [← q1] at a1 b1
  obtain ⟨a2, b2⟩ := lA_dbl (2 ^ (p + 1))
  rw [← q2] at a2 b2
  obtain ⟨k, hk⟩ := h3
  have per : Per t (2 ^ (p + 2)) := by
    refine ⟨?_, ?_⟩
    · rw [a2, a1, hk]
      generalize hX : (t : Int) * k = X
      exact ⟨8 * (k * (X * X * X)) - 8 * (k * X), by
        have : (t : Int) * (8 * (k * (X * X * X)) - 8 * (k * X)) = 8 * (((t : Int) * k) * (X * X * X)) - 8 * (((t : Int) * k) * X) := by grind
        rw [this, hX]
        grind⟩
    · rw [b2, b1, hk]
      exact ⟨2 * ((lA (2 ^ (p + 1))).1 * (2 * (k * (lA (2 ^ p)).2))), by grind⟩
  have nper : ¬ Per t (2 ^ (p + 1)) := by
    rintro ⟨⟨c1, hc1⟩, _⟩
    rw [a1, hk] at hc1
    have : (t : Int) ∣ 2 := ⟨2 * (k * ((t : Int) * k)) - c1, by grind⟩
    have := Int.le_of_dvd (by decide) this
    omega
  have small : ∀ d, 0 < d → d < 2 ^ (p + 2) → ¬ Per t d := by
    intro d d0 d1 hd
    have hg := Per.gcd d (2 ^ (p + 2)) hd per
    have g1 : Nat.gcd d (2 ^ (p + 2)) ∣ 2 ^ (p + 2) := Nat.gcd_dvd_right _ _
    have g2 : Nat.gcd d (2 ^ (p + 2)) ≠ 2 ^ (p + 2) := by
      have := Nat.le_of_dvd d0 (Nat.gcd_dvd_left d (2 ^ (p + 2)))
      omega
    obtain ⟨c2, hc2⟩ := dvd_half g1 g2
    have := Per.mul hg c2
    rw [← hc2] at this
    exact nper this
  have t0 : 0 < t := by omega
  have tI : (0 : Int) < (t : Int) := by omega
  have key := pigeon (t * t) (2 ^ (p + 2)) (fun i => ((lA i).1 % (t : Int)).toNat * t + ((lA i).2 % (t : Int)).toNat) (fun i _ => by
    have x1 := Int.emod_nonneg (lA i).1 (show (t : Int) ≠ 0 by omega)
    have x2 := Int.emod_lt_of_pos (lA i).1 tI
    have y1 := Int.emod_nonneg (lA i).2 (show (t : Int) ≠ 0 by omega)
    have y2 := Int.emod_lt_of_pos (lA i).2 tI
    show ((lA i).1 % (t : Int)).toNat * t + ((lA i).2 % (t : Int)).toNat < t * t
    have u1 : ((lA i).1 % (t : Int)).toNat + 1 ≤ t := by omega
    have u2 : ((lA i).2 % (t : Int)).toNat < t := by omega
    have := Nat.mul_le_mul_right t u1
    rw [Nat.add_mul, Nat.one_mul] at this
    omega) (fun i j hij hj e => by
    have x1 := Int.emod_nonneg (lA i).1 (show (t : Int) ≠ 0 by omega)
    have x3 := Int.emod_nonneg (lA j).1 (show (t : Int) ≠ 0 by omega)
    have y1 := Int.emod_nonneg (lA i).2 (show (t : Int) ≠ 0 by omega)
    have y2 := Int.emod_lt_of_pos (lA i).2 tI
    have y3 := Int.emod_nonneg (lA j).2 (show (t : Int) ≠ 0 by omega)
    have y4 := Int.emod_lt_of_pos (lA j).2 tI
    have e : ((lA i).1 % (t : Int)).toNat * t + ((lA i).2 % (t : Int)).toNat = ((lA j).1 % (t : Int)).toNat * t + ((lA j).2 % (t : Int)).toNat := e
    have em : ((lA i).2 % (t : Int)).toNat = ((lA j).2 % (t : Int)).toNat := by
      have h1 : (((lA i).1 % (t : Int)).toNat * t + ((lA i).2 % (t : Int)).toNat) % t = ((lA i).2 % (t : Int)).toNat := by
        rw [Nat.mul_comm, Nat.mul_add_mod, Nat.mod_eq_of_lt (by omega)]
      have h2 : (((lA j).1 % (t : Int)).toNat * t + ((lA j).2 % (t : Int)).toNat) % t = ((lA j).2 % (t : Int)).toNat := by
        rw [Nat.mul_comm, Nat.mul_add_mod, Nat.mod_eq_of_lt (by omega)]
      rw [← h1, ← h2, e]
    have ed : ((lA i).1 % (t : Int)).toNat = ((lA j).1 % (t : Int)).toNat := by
      have : ((lA i).1 % (t : Int)).toNat * t = ((lA j).1 % (t : Int)).toNat * t := by omega
      exact Nat.eq_of_mul_eq_mul_right t0 this
    have f1 : (lA i).1 % (t : Int) = (lA j).1 % (t : Int) := by omega
    have f2 : (lA i).2 % (t : Int) = (lA j).2 % (t : Int) := by omega
    obtain ⟨c3, hc3⟩ := Int.dvd_of_emod_eq_zero (Int.emod_eq_emod_iff_emod_sub_eq_zero.mp f1)
    obtain ⟨c4, hc4⟩ := Int.dvd_of_emod_eq_zero (Int.emod_eq_emod_iff_emod_sub_eq_zero.mp f2)
    obtain ⟨d, hd⟩ : ∃ d, j = i + d := ⟨j - i, by omega⟩
    refine small d (by omega) (by omega) ?_
    have nn := lA_norm i
    have aj := lA_add i d
    rw [← hd] at aj
    have a3 : (lA j).1 = (lA i).1 * (lA d).1 + 3 * ((lA i).2 * (lA d).2) := by rw [aj]
    have a4 : (lA j).2 = (lA i).1 * (lA d).2 + (lA i).2 * (lA d).1 := by rw [aj]
    obtain ⟨da, db⟩ := lA_back nn a3 a4
    have k1 : (lA j).1 = (lA i).1 - (t : Int) * c3 := by omega
    have k2 : (lA j).2 = (lA i).2 - (t : Int) * c4 := by omega
    obtain ⟨z1, z2⟩ := lA_per (t := (t : Int)) (c := c3) (e := c4) nn
    rw [← k1, ← k2] at z1 z2
    exact ⟨⟨-(c3 * (lA i).1) + 3 * (c4 * (lA i).2), by rw [da]; exact z1⟩, ⟨-(c4 * (lA i).1) + c3 * (lA i).2, by rw [db]; exact z2⟩⟩)
  omega
/-- a number with no divisor up to its root is coprime to every smaller one -/
theorem mers_cop {p : Nat} (h : llit (2 ^ (p + 2) - 1) p 4 = 0) {n : Nat} (n0 : 0 < n) (n1 : n < 2 ^ (p + 2) - 1) : Nat.gcd n (2 ^ (p + 2) - 1) = 1 := by
  generalize hM : 2 ^ (p + 2) - 1 = M at *
  apply Classical.byContradiction
  intro hg
  have g1 : Nat.gcd n M ∣ M := Nat.gcd_dvd_right _ _
  have g2 : Nat.gcd n M ≤ n := Nat.le_of_dvd n0 (Nat.gcd_dvd_left _ _)
  have g0 : 0 < Nat.gcd n M := Nat.gcd_pos_of_pos_left _ n0
  obtain ⟨c, hc⟩ := g1
  generalize Nat.gcd n M = g at *
  have no : ∀ t, 1 < t → t * t ≤ M → ¬ t ∣ M := fun t t1 tt => by
    have := mers_no (p := p) (by rw [hM]; exact h) t1 (by rw [hM]; exact tt)
    rw [hM] at this
    exact this
  rcases Nat.le_total g c with z | z
  · exact no g (by omega) (by rw [hc]; exact Nat.mul_le_mul_left _ z) ⟨c, hc⟩
  · have c1 : 1 < c := by
      rcases Nat.eq_zero_or_pos c with e | e
      · rw [e, Nat.mul_zero] at hc
        omega
      · rcases Nat.eq_or_lt_of_le e with e2 | e2
        · rw [← e2, Nat.mul_one] at hc
          omega
        · exact e2
    exact no c c1 (by rw [hc]; exact Nat.mul_le_mul_right _ z) ⟨g, by rw [hc, Nat.mul_comm]⟩
theorem cop61 {n : Nat} (n0 : 0 < n) (n1 : n < 2 ^ 61 - 1) : Nat.gcd n (2 ^ 61 - 1) = 1 := mers_cop (p := 59) (by decide +kernel) n0 n1
theorem cop521 {n : Nat} (n0 : 0 < n) (n1 : n < 2 ^ 521 - 1) : Nat.gcd n (2 ^ 521 - 1) = 1 := mers_cop (p := 519) (by decide +kernel) n0 n1
theorem cop2203 {n : Nat} (n0 : 0 < n) (n1 : n < 2 ^ 2203 - 1) : Nat.gcd n (2 ^ 2203 - 1) = 1 := mers_cop (p := 2201) (by decide +kernel) n0 n1
theorem cop9689 {n : Nat} (n0 : 0 < n) (n1 : n < 2 ^ 9689 - 1) : Nat.gcd n (2 ^ 9689 - 1) = 1 := mers_cop (p := 9687) (by decide +kernel) n0 n1
end Ind

set_option Elab.async false
set_option linter.all false
set_option maxRecDepth 100000
set_option maxHeartbeats 4000000
set_option exponentiation.threshold 9000
namespace Ind
open PySem PySem.Spec PyProof.Rows L2
open Builtin.Int (intBits)
abbrev sPrR : Stmt := top 15
/-- primitive_row of a list -/
def spPrR : Sp := fun vs H Q _ => ∃ (p : Addr) (ns : List Int) (k : Nat), vs = [.ref p] ∧ H p = some (.lst (ns.map V.int)) ∧ ns.length ≤ 100 ∧ TrimI ns ∧ (∀ n ∈ ns, intBits n ≤ k) ∧ k ≤ 60000000 ∧
  ∀ (H' : Hp) (t : Addr) (ms : List Int), Same H H' → H' t = some (.lst (ms.map V.int)) → ms.length = ns.length → (∀ n ∈ ms, intBits n ≤ k) → (ns ≠ [] → gcdN ms = 1) → (∀ m, ms.getLast? = some m → 0 < m) → (∃ s : Int, s ≠ 0 ∧ ∀ j, ns.getD j 0 = s * ms.getD j 0) → Q (.ref t) H'
theorem last_idx {ns : List Int} {m : Int} (h : ns.getLast? = some m) : atI (ns.map V.int) (-1) = some (.int m) := by
  obtain ⟨k, hk⟩ : ∃ k, ns.length = k + 1 := by
    cases ns with
    | nil => cases h
    | cons a l => exact ⟨l.length, rfl⟩
  have h2 : ns[k]? = some m := by
    rw [List.getLast?_eq_getElem?, hk] at h
    exact h
  exact last_at hk (by rw [List.getD_eq_getElem?_getD, h2]; rfl)
theorem last_ex {ns : List Int} (h : ns ≠ []) : ∃ m, ns.getLast? = some m := ⟨ns.getLast h, List.getLast?_eq_some_getLast h⟩
section
variable {P : Program} {w : World} {K : PySem.W.Frag} {mg : Str → Option Value} {base : Heap} {C Z CP : Addr}
abbrev nPrR : List Str := ["row", "share", "n"]
theorem scPrR : FnScope nPrR ["row"] (defScope sPrR) := ⟨rfl, rfl, rfl, by decide +kernel, rfl, by decide +kernel, by decide +kernel⟩
theorem ok_prr {f fC : Addr} {fd fdC : FuncData} (hN : base.NoSeer) (hT : P.given.tree = none) (F : Fun K "primitive_row" "primitive_row" sPrR f fd) (T : TxL K mg)
    (GC : FnOk P w K mg base CX0 1 fC fdC ["row"] spCont) (kC : PySem.W.keepIn K (.ref fC) = true) (bC : Binds K fdC ["row"] []) (gC : mg "content" = some (.ref fC)) : FnOk P w K mg base CX0 41 f fd ["row"] spPrR := by
  refine F.ok scPrR (fun vs H Q E h => ?_) (fun cdv A outer s H vs Q E hr h => ?_)
  · obtain ⟨p, ns, k, rfl, _⟩ := h
    rfl
  · obtain ⟨p, ns, k, rfl, hp, l1, ht, na, hk, res⟩ := h
    have h1 := hr.mono (show 1 ≤ 40 by decide)
    have h40 := hr.mono (show 40 ≤ 40 by decide)
    refine ⟨_, pss_cons (ps_if (pt_cmpR op_eq (pe_callB call_len_seq (by rfl) T.len PySem.boot_len (pa_cons (pv 0) pa_nil)) pe_int (nomark _)) (pss_one (ps_ret (pe_lst pa_nil))) pss_nil)
      (pss_cons (ps_set (i := 1) scPrR.nd rfl (Or.inr rfl) (pe_call GC h1 (by rfl) gC kC bC .nil pass0 (pa_cons (pv 0) pa_nil)))
      (C8.pss_cut (ps_if (pt_cmpR op_lt (pe_ix ix_list (pv 0) (pe_un un_neg pe_int) fun _ _ => rfl) pe_int (nomark _)) (pss_one (ps_set (i := 1) scPrR.nd rfl (Or.inr rfl) (pe_un un_neg (pv 1)))) pss_nil)
      (pss_one (ps_ret (pe_lc (own := [("n", 2)]) (g := gName 2) (tt := tYes) (te := tOp (rI (fun _ j => j ≠ 0 ∧ intBits j ≤ 60000000) fun i j => .int (i.fdiv j)) (tVar 2) (tVar 1)) rfl scPrR.nd (pi_list (pv 0)) (blkOk_by (N := nPrR) (sc := defScope sPrR) (by decide +kernel))
          (fun _ _ _ _ _ => pg_name (i := 2) scPrR.nd rfl (Or.inl rfl)) (fun _ _ _ _ _ => pts_nil) (fun _ _ _ _ _ => pe_op (op_fdivC ⟨hN, hT, ⟨_, _, rfl, rfl, rfl, rfl, rfl⟩, h40⟩) (pv 2) (pv 1))))))), ?_⟩
    refine ⟨_, rfl, p, _, rfl, .inl (SqL.of hp), rfl, _, rfl, ite2 (fun c => ?_) (fun c => ?_)⟩
    · have c := V.int.inj (of_decide_eq_true c)
      rw [List.length_map] at c
      have e : ns = [] := List.length_eq_zero_iff.mp (by omega)
      subst e
      exact ⟨Nat.zero_le _, fun t ht2 => res _ t [] (same_upd ht2) upd_same rfl (fun n hn => by cases hn) (fun h => absurd rfl h) (fun m hm => by cases hm) ⟨1, by decide, fun j => by simp⟩⟩
    · have c : ns ≠ [] := fun e => c (decide_eq_true (by rw [e]; rfl))
      obtain ⟨m, hm⟩ := last_ex c
      have hm0 := ht m hm
      refine ⟨_, rfl, p, ns, rfl, .inl hp, ?_⟩
      refine ⟨fun σ' H' => H' = H ∧ ∃ sh : Int, σ' = [some (.ref p), some (.int sh), none] ∧ sh = if m < 0 then -((gcdN ns : Nat) : Int) else ((gcdN ns : Nat) : Int), ?_, ?_⟩
      · refine ⟨_, rfl, _, rfl, p, _, _, .int m, rfl, rfl, SqL.of hp, last_idx hm, _, _, rfl, rfl, _, rfl, ite2 (fun c => ?_) (fun c => ?_)⟩
        · exact ⟨_, rfl, _, rfl, rfl, _, rfl, by rw [if_pos (of_decide_eq_true c)]⟩
        · exact ⟨rfl, _, rfl, by rw [if_neg (fun z => c (decide_eq_true z))]⟩
      rintro σ' H' ⟨rfl, sh, rfl, hsh⟩
      obtain ⟨s0, hex, hg1, hpos⟩ := prim_ok hm hm0 hsh
      have bsh : intBits sh ≤ k := by
        have hd := gcdN_dvd (List.mem_of_getLast? hm)
        have hle : gcdN ns ≤ m.natAbs := Nat.le_of_dvd (by omega) hd
        refine PySem.intBits_le_of_natAbs ?_ (na m (List.mem_of_getLast? hm))
        rw [hsh]
        split <;> omega
      refine ⟨_, rfl, p, rfl, ⟨_, SqL.of hp⟩, fun D hD => lc_list (K := K) (a := p) (xs := ns.map V.int) (fun i H2 => ColI D H' H2 ((ns.take i).map fun n => n.fdiv sh)) (ColI.start hD) (fun i H2 _ z => z.s.seq (SqL.of hp)) ?_ ?_⟩
      · rintro i x H2 hx z
        obtain ⟨n, hn, rfl⟩ := int_of hx
        have hi := (List.getElem?_eq_some_iff.mp hn).1
        refine ⟨rfl, _, rfl, _, rfl, _, _, rfl, rfl, ⟨s0, by omega⟩, ?_⟩
        rw [map_take_snoc hn]
        refine z.push hD same_rfl ?_
        rw [List.length_map, List.length_take]
        omega
      rintro H2 z
      rw [List.length_map, List.take_length] at z
      refine res H2 D (ns.map fun n => n.fdiv sh) z.s z.at_ (List.length_map ..) (fun v hv => ?_) (fun _ => hg1) hpos ⟨sh, s0, fun j => ?_⟩
      · obtain ⟨n, hn, rfl⟩ := List.mem_map.mp hv
        exact PySem.intBits_fdiv_le (na n hn)
      · rw [getD_map (f := fun n => n.fdiv sh) (Int.zero_fdiv _)]
        by_cases c : j < ns.length
        · refine (hex _ ?_).symm
          rw [List.getD_eq_getElem?_getD, List.getElem?_eq_getElem c]
          exact List.getElem_mem c
        · have : ns.getD j 0 = 0 := by
            rw [List.getD_eq_getElem?_getD, List.getElem?_eq_none (by omega)]
            rfl
          rw [this, Int.zero_fdiv, Int.mul_zero]
end
end Ind

set_option Elab.async false
set_option linter.all false
set_option maxRecDepth 100000
set_option maxHeartbeats 4000000
set_option exponentiation.threshold 9000
namespace Ind
open PySem PySem.Spec PyProof.Rows L2
open Builtin.Int (intBits)
abbrev sInvM : Stmt := top 20
/-- inverse_modulo -/
def spInvM : Sp := fun vs H Q _ => ∃ n m : Int, vs = [.int n, .int m] ∧ 1 < m ∧ Nat.gcd n.natAbs m.natAbs = 1 ∧ intBits m ≤ 20000 ∧ ∀ r : Int, 0 ≤ r → r < m → m ∣ n * r - 1 → ∀ H', Same H H' → Q (.int r) H'
/-- what holds of Euclid's numbers: low, high, before, found -/
structure IvS (n m low high before found : Int) : Prop where
  ord : 1 ≤ high ∧ high < low ∧ low ≤ m
  g : Nat.gcd low.natAbs high.natAbs = 1
  c1 : m ∣ low - before * n
  c2 : m ∣ high - found * n
  s : (0 ≤ found ∧ before ≤ 0 ∧ low * found - high * before = m) ∨ (found ≤ 0 ∧ 0 ≤ before ∧ high * before - low * found = m)
theorem gcd_mod_eq {n m : Int} (hm : 0 < m) : Nat.gcd m.natAbs (n.fmod m).natAbs = Nat.gcd n.natAbs m.natAbs := by
  have e : n.fmod m = n - m * n.fdiv m := by
    have := Int.mul_fdiv_add_fmod n m
    omega
  apply Nat.dvd_antisymm
  · refine Nat.dvd_gcd ?_ (Nat.gcd_dvd_left _ _)
    have h1 : ((Nat.gcd m.natAbs (n.fmod m).natAbs : Nat) : Int) ∣ m := Int.natAbs_dvd_natAbs.mp (by rw [Int.natAbs_natCast]; exact Nat.gcd_dvd_left _ _)
    have h2 : ((Nat.gcd m.natAbs (n.fmod m).natAbs : Nat) : Int) ∣ n.fmod m := Int.natAbs_dvd_natAbs.mp (by rw [Int.natAbs_natCast]; exact Nat.gcd_dvd_right _ _)
    have h3 : ((Nat.gcd m.natAbs (n.fmod m).natAbs : Nat) : Int) ∣ n := by
      have h4 := Int.dvd_add (Int.dvd_mul_of_dvd_left (c := n.fdiv m) h1) h2
      rwa [Int.mul_fdiv_add_fmod] at h4
    have := Int.natAbs_dvd_natAbs.mpr h3
    rwa [Int.natAbs_natCast] at this
  · refine Nat.dvd_gcd (Nat.gcd_dvd_right _ _) ?_
    have h1 : ((Nat.gcd n.natAbs m.natAbs : Nat) : Int) ∣ m := Int.natAbs_dvd_natAbs.mp (by rw [Int.natAbs_natCast]; exact Nat.gcd_dvd_right _ _)
    have h2 : ((Nat.gcd n.natAbs m.natAbs : Nat) : Int) ∣ n := Int.natAbs_dvd_natAbs.mp (by rw [Int.natAbs_natCast]; exact Nat.gcd_dvd_left _ _)
    have h3 : ((Nat.gcd n.natAbs m.natAbs : Nat) : Int) ∣ n.fmod m := by
      rw [e]
      exact Int.dvd_sub h2 (Int.dvd_mul_of_dvd_left (c := n.fdiv m) h1)
    have := Int.natAbs_dvd_natAbs.mpr h3
    rwa [Int.natAbs_natCast] at this
theorem iv_start {n m : Int} (hm : 1 < m) (hg : Nat.gcd n.natAbs m.natAbs = 1) : IvS n m m (n.fmod m) 0 1 := by
  have h1 := Int.fmod_nonneg_of_pos n (show 0 < m by omega)
  have h2 := Int.fmod_lt_of_pos n (show 0 < m by omega)
  have h3 : n.fmod m ≠ 0 := fun z => by
    have := gcd_mod_eq (n := n) (m := m) (by omega)
    rw [z, hg] at this
    have e : Nat.gcd m.natAbs (0 : Int).natAbs = m.natAbs := Nat.gcd_zero_right _
    rw [e] at this
    omega
  refine ⟨⟨by omega, h2, Int.le_refl _⟩, by rw [gcd_mod_eq (by omega)]; exact hg, ⟨1, by omega⟩, ⟨-(n.fdiv m), ?_⟩, .inl ⟨by decide, by decide, by omega⟩⟩
  have := Int.mul_fdiv_add_fmod n m
  rw [Int.mul_neg]
  omega
theorem iv_step {n m low high before found : Int} (h : IvS n m low high before found) (hh : 1 < high) : IvS n m high (low - low.fdiv high * high) found (before - low.fdiv high * found) := by
  obtain ⟨⟨o1, o2, o3⟩, g, c1, c2, s⟩ := h
  have e : low - low.fdiv high * high = low.fmod high := by
    have := Int.mul_fdiv_add_fmod low high
    rw [Int.mul_comm] at this
    omega
  have h1 := Int.fmod_nonneg_of_pos low (show 0 < high by omega)
  have h2 := Int.fmod_lt_of_pos low (show 0 < high by omega)
  have g2 := gcd_mod_eq (n := low) (m := high) (by omega)
  rw [g] at g2
  have h3 : low.fmod high ≠ 0 := fun z => by
    rw [z] at g2
    have e : Nat.gcd high.natAbs (0 : Int).natAbs = high.natAbs := Nat.gcd_zero_right _
    rw [e] at g2
    omega
  have hq : 0 ≤ low.fdiv high := by
    rw [Int.fdiv_eq_ediv_of_nonneg _ (by omega)]
    exact Int.ediv_nonneg (by omega) (by omega)
  refine ⟨⟨by omega, by omega, by omega⟩, by rw [e]; exact g2, c2, ?_, ?_⟩
  · have := Int.dvd_sub c1 (Int.dvd_mul_of_dvd_right (b := low.fdiv high) c2)
    rwa [show low - before * n - low.fdiv high * (high - found * n) = low - low.fdiv high * high - (before - low.fdiv high * found) * n by grind] at this
  · generalize low.fdiv high = t at *
    rcases s with ⟨s1, s2, s3⟩ | ⟨s1, s2, s3⟩
    · right
      have := Int.mul_nonneg hq s1
      exact ⟨by omega, s1, by grind⟩
    · left
      have := Int.mul_nonneg hq (show 0 ≤ -found by omega)
      rw [Int.mul_neg] at this
      exact ⟨by omega, s1, by grind⟩
theorem iv_bits {n m low high before found : Int} (h : IvS n m low high before found) : found.natAbs ≤ m.natAbs ∧ low.natAbs ≤ m.natAbs ∧ high.natAbs ≤ m.natAbs := by
  obtain ⟨⟨o1, o2, o3⟩, g, c1, c2, s⟩ := h
  refine ⟨?_, by omega, by omega⟩
  rcases s with ⟨s1, s2, s3⟩ | ⟨s1, s2, s3⟩
  · have h1 := Int.mul_nonneg (show 0 ≤ high by omega) (show 0 ≤ -before by omega)
    have h2 := Int.mul_nonneg (show 0 ≤ low - 1 by omega) s1
    rw [Int.mul_neg] at h1
    rw [Int.sub_mul] at h2
    omega
  · have h1 := Int.mul_nonneg (show 0 ≤ high by omega) s2
    have h2 := Int.mul_nonneg (show 0 ≤ low - 1 by omega) (show 0 ≤ -found by omega)
    rw [Int.sub_mul, Int.mul_neg, Int.mul_neg] at h2
    omega
theorem fdiv_abs_le {a b : Int} (ha : 0 ≤ a) (hb : 0 < b) : (a.fdiv b).natAbs ≤ a.natAbs := PySem.natAbs_fdiv_le a b
section
variable {P : Program} {w : World} {K : PySem.W.Frag} {mg : Str → Option Value} {base : Heap} {C Z CP : Addr}
abbrev nInvM : List Str := ["n", "m", "low", "high", "before", "found", "share"]
theorem scInvM : FnScope nInvM ["n", "m"] (defScope sInvM) := ⟨rfl, rfl, rfl, by decide +kernel, rfl, by decide +kernel, by decide +kernel⟩
theorem ok_invm {f : Addr} {fd : FuncData} (hN : base.NoSeer) (hT : P.given.tree = none) (F : Fun K "inverse_modulo" "inverse_modulo" sInvM f fd) : FnOk P w K mg base CX0 41 f fd ["n", "m"] spInvM := by
  refine F.ok scInvM (fun vs H Q E h => ?_) (fun cdv A outer s H vs Q E hr h => ?_)
  · obtain ⟨n, m, rfl, _⟩ := h
    rfl
  · obtain ⟨n, m, rfl, hm, hg, hbm, res⟩ := h
    have h40 := hr.mono (show 40 ≤ 40 by decide)
    refine ⟨_, pss_cons (ps_par (i := 2) (j := 3) rfl scInvM.nd rfl rfl (by decide) rfl rfl (pa_cons (pv 1) (pa_cons (pe_op op_modN (pv 0) (pv 1)) pa_nil)) rfl)
      (pss_cons (ps_asg (pe_tup (pa_cons pe_int (pa_cons pe_int pa_nil))) (pg_tup (by rfl) (pgs_cons (pg_name (i := 4) scInvM.nd rfl (Or.inl rfl)) (pgs_cons (pg_name (i := 5) scInvM.nd rfl (Or.inl rfl)) pgs_nil))))
      (pss_cons (ps_while PassesOwn.never (pt_cmpR op_gt (pv 3) pe_int (nomark _))
        (pss_cons (ps_set (i := 6) scInvM.nd rfl (Or.inl rfl) (pe_op (op_fdivB ⟨hN, hT, ⟨_, _, rfl, rfl, rfl, rfl, rfl⟩, h40⟩) (pv 2) (pv 3)))
        (pss_cons (ps_par (i := 2) (j := 3) rfl scInvM.nd rfl rfl (by decide) rfl rfl (pa_cons (pv 3) (pa_cons (pe_op op_sub (pv 2) (pe_op op_mulB (pv 6) (pv 3))) pa_nil)) rfl)
        (pss_one (ps_par (i := 4) (j := 5) rfl scInvM.nd rfl rfl (by decide) rfl rfl (pa_cons (pv 5) (pa_cons (pe_op op_sub (pv 4) (pe_op op_mulB (pv 6) (pv 5))) pa_nil)) rfl)))))
      (pss_one (ps_ret (pe_op op_modN (pv 5) (pv 1)))))), ?_⟩
    refine ⟨_, rfl, _, rfl, _, rfl, _, _, rfl, rfl, (by show m ≠ 0; omega), _, _, rfl, ?_⟩
    refine ⟨(by show 2 ≤ sizeLine; decide), fun t ht => ⟨t, _, rfl, SqT.of upd_same, rfl, _, _, rfl, _, _, rfl, rfl, ?_⟩⟩
    refine while_by (fun σ' H' => Same H H' ∧ ∃ (low high before found : Int) (v6 : Option V), σ' = [some (.int n), some (.int m), some (.int low), some (.int high), some (.int before), some (.int found), v6] ∧ IvS n m low high before found)
      (fun σ _ => match σ[3]? with | some (some (V.int y)) => y.toNat | _ => 0) ⟨same_upd ht, _, _, _, _, none, rfl, iv_start hm hg⟩ ?_ ?_
    · rintro σ H' ⟨s1, low, high, before, found, v6, rfl, S⟩
      obtain ⟨o1, o2, o3⟩ := S.ord
      obtain ⟨b1, b2, b3⟩ := iv_bits S
      have c1 := PySem.intBits_le_of_natAbs b1 hbm
      have c2 := PySem.intBits_le_of_natAbs b2 hbm
      have c3 := PySem.intBits_le_of_natAbs b3 hbm
      have c4 : intBits (low.fdiv high) ≤ 20000 := PySem.intBits_fdiv_le c2
      refine ⟨_, rfl, _, _, rfl, rfl, _, rfl, ite2 (fun c => ?_) (fun c => ?_)⟩
      · have hh : 1 < high := of_decide_eq_true c
        refine ⟨_, rfl, _, rfl, _, _, rfl, rfl, by omega, ?_⟩
        refine ⟨_, rfl, _, rfl, _, rfl, _, rfl, _, _, rfl, rfl, (by show intBits (low.fdiv high) + intBits high ≤ 134217728; omega), _, _, rfl, rfl, _, _, rfl, ?_⟩
        refine ⟨_, rfl, _, rfl, _, rfl, _, rfl, _, _, rfl, rfl, (by show intBits (low.fdiv high) + intBits found ≤ 134217728; omega), _, _, rfl, rfl, _, _, rfl, ?_⟩
        have S2 := iv_step S hh
        refine ⟨⟨s1, _, _, _, _, _, rfl, S2⟩, ?_⟩
        show (low - low.fdiv high * high).toNat < high.toNat
        have := S2.ord
        omega
      · have hh : high = 1 := by
          have : ¬ (1 : Int) < high := fun z => c (decide_eq_true z)
          omega
        refine ⟨_, rfl, _, rfl, _, _, rfl, rfl, (by show m ≠ 0; omega), ?_⟩
        refine res _ (Int.fmod_nonneg_of_pos _ (by omega)) (Int.fmod_lt_of_pos _ (by omega)) ?_ _ s1
        have e : found.fmod m = found - m * found.fdiv m := by
          have := Int.mul_fdiv_add_fmod found m
          omega
        obtain ⟨t, ht⟩ := S.c2
        rw [hh] at ht
        refine ⟨-t - n * found.fdiv m, ?_⟩
        rw [e]
        grind
    · rintro σ H' R R' hR ⟨v, e1, i, j, e2, e3, b1, e4, h3⟩
      exact ⟨v, e1, i, j, e2, e3, b1, e4, hR _ _ h3⟩
end
end Ind

set_option Elab.async false
set_option linter.all false
set_option maxRecDepth 100000
set_option maxHeartbeats 4000000
set_option exponentiation.threshold 9000
namespace Ind
open PySem PySem.Spec PyProof.Rows L2
open Builtin.Int (intBits)
abbrev sMonM : Stmt := top 21
abbrev sRemM : Stmt := top 22
abbrev sSym : Stmt := top 24
/-- between 0 and m - 1 -/
def InM (m : Int) (ns : List Int) : Prop := ∀ n ∈ ns, 0 ≤ n ∧ n < m
def spMonM : Sp := fun vs H Q _ => ∃ (p : Addr) (ns : List Int) (m l : Int), vs = [.ref p, .int m] ∧ H p = some (.lst (ns.map V.int)) ∧ ns.length ≤ 100 ∧ ns.getLast? = some l ∧ 1 < m ∧ Nat.gcd l.natAbs m.natAbs = 1 ∧ intBits m ≤ 20000 ∧ InM m ns ∧
  ∀ (H' : Hp) (t : Addr) (ms : List Int) (v : Int), Same H H' → H' t = some (.lst (ms.map V.int)) → ms.length = ns.length → InM m ms → ms.getLast? = some 1 → (∀ j, m ∣ ms.getD j 0 - v * ns.getD j 0) → m ∣ l * v - 1 → Q (.ref t) H'
def spSym : Sp := fun vs H Q _ => ∃ n m : Int, vs = [.int n, .int m] ∧ 0 < m ∧ intBits m ≤ 20000 ∧ ∀ r : Int, m ∣ r - n → 2 * r.natAbs ≤ m.natAbs → Q (.int r) H
theorem inm_bits {m : Int} {ns : List Int} {k : Nat} (h : InM m ns) (hb : intBits m ≤ k) : ∀ n ∈ ns, intBits n ≤ k := fun n hn => PySem.intBits_le_of_natAbs (by have := h n hn; omega) hb
theorem fmod_cong (x m : Int) : m ∣ x.fmod m - x := ⟨-(x.fdiv m), by
  have := Int.mul_fdiv_add_fmod x m
  rw [Int.mul_neg]
  omega⟩
section
variable {P : Program} {w : World} {K : PySem.W.Frag} {mg : Str → Option Value} {base : Heap} {C Z CP : Addr}
abbrev nSym : List Str := ["n", "m", "rest"]
theorem scSym : FnScope nSym ["n", "m"] (defScope sSym) := ⟨rfl, rfl, rfl, by decide +kernel, rfl, by decide +kernel, by decide +kernel⟩
theorem ok_sym {f : Addr} {fd : FuncData} (F : Fun K "symmetric" "symmetric" sSym f fd) : FnOk P w K mg base CX0 1 f fd ["n", "m"] spSym := by
  refine F.ok scSym (fun vs H Q E h => ?_) (fun cdv A outer s H vs Q E hr h => ?_)
  · obtain ⟨n, m, rfl, _⟩ := h
    rfl
  · obtain ⟨n, m, rfl, hm, hb, res⟩ := h
    refine ⟨_, pss_cons (ps_set (i := 2) scSym.nd rfl (Or.inl rfl) (pe_op op_modN (pv 0) (pv 1)))
      (pss_cons (ps_if (pt_cmpR op_gt (pe_op op_mulB pe_int (pv 2)) (pv 1) (nomark _)) (pss_one (ps_ret (pe_op op_sub (pv 2) (pv 1)))) pss_nil)
      (pss_one (ps_ret (pv 2)))), ?_⟩
    have h1 := Int.fmod_nonneg_of_pos n hm
    have h2 := Int.fmod_lt_of_pos n hm
    have h3 := fmod_cong n m
    have b1 : intBits (n.fmod m) ≤ 20000 := PySem.intBits_le_of_natAbs (by omega) hb
    refine ⟨_, rfl, _, rfl, _, _, rfl, rfl, by omega, ?_⟩
    refine ⟨_, rfl, _, _, rfl, rfl, (by show intBits 2 + intBits (n.fmod m) ≤ 134217728; have h22 : intBits 2 ≤ 2 := (by decide); omega), _, rfl, _, _, rfl, rfl, _, rfl, ite2 (fun c => ?_) (fun c => ?_)⟩
    · have c : m < 2 * n.fmod m := of_decide_eq_true c
      refine ⟨_, rfl, _, rfl, _, _, rfl, rfl, res _ ?_ (by omega)⟩
      have := Int.dvd_sub h3 (Int.dvd_refl m)
      rwa [show n.fmod m - n - m = n.fmod m - m - n by omega] at this
    · have c : ¬ m < 2 * n.fmod m := fun z => c (decide_eq_true z)
      exact ⟨_, rfl, res _ h3 (by omega)⟩
abbrev nMonM : List Str := ["row", "m", "inverse", "n"]
theorem scMonM : FnScope nMonM ["row", "m"] (defScope sMonM) := ⟨rfl, rfl, rfl, by decide +kernel, rfl, by decide +kernel, by decide +kernel⟩
theorem ok_monm {f fI : Addr} {fd fdI : FuncData} (F : Fun K "monic_modulo" "monic_modulo" sMonM f fd)
    (GI : FnOk P w K mg base CX0 41 fI fdI ["n", "m"] spInvM) (kI : PySem.W.keepIn K (.ref fI) = true) (bI : Binds K fdI ["n", "m"] []) (gI : mg "inverse_modulo" = some (.ref fI)) : FnOk P w K mg base CX0 42 f fd ["row", "m"] spMonM := by
  refine F.ok scMonM (fun vs H Q E h => ?_) (fun cdv A outer s H vs Q E hr h => ?_)
  · obtain ⟨p, ns, m, l, rfl, _⟩ := h
    rfl
  · obtain ⟨p, ns, m, l, rfl, hp, hl100, hl, hm, hg, hb, hin, res⟩ := h
    have h41 := hr.mono (show 41 ≤ 41 by decide)
    refine ⟨_, pss_cons (ps_set (i := 2) scMonM.nd rfl (Or.inr rfl) (pe_call GI h41 (by rfl) gI kI bI .nil pass0 (pa_cons (pe_ix ix_list (pv 0) (pe_un un_neg pe_int) fun _ _ => rfl) (pa_cons (pv 1) pa_nil))))
      (pss_one (ps_ret (pe_lc (own := [("n", 3)]) (g := gName 3) (tt := tYes) (te := tOp (rI (fun _ j => j ≠ 0) fun i j => .int (i.fmod j)) (tOp (rI (fun i j => intBits i + intBits j ≤ 134217728) fun i j => .int (i * j)) (tVar 3) (tVar 2)) (tVar 1)) rfl scMonM.nd (pi_list (pv 0)) (blkOk_by (N := nMonM) (sc := defScope sMonM) (by decide +kernel))
          (fun _ _ _ _ _ => pg_name (i := 3) scMonM.nd rfl (Or.inl rfl)) (fun _ _ _ _ _ => pts_nil) (fun _ _ _ _ _ => pe_op op_modN (pe_op op_mulB (pv 3) (pv 2)) (pv 1))))), ?_⟩
    refine ⟨_, rfl, _, rfl, p, _, _, .int l, rfl, rfl, SqL.of hp, last_idx hl, _, rfl, l, m, rfl, hm, hg, hb, fun v v0 v1 hv H1 s1 => ?_⟩
    have hp1 := s1 _ _ hp
    have bv : intBits v ≤ 20000 := PySem.intBits_le_of_natAbs (by omega) hb
    refine ⟨_, rfl, p, rfl, ⟨_, SqL.of hp1⟩, fun D hD => lc_list (K := K) (a := p) (xs := ns.map V.int) (fun i H2 => ColI D H1 H2 ((ns.take i).map fun n => (n * v).fmod m)) (ColI.start hD) (fun i H2 _ z => z.s.seq (SqL.of hp1)) ?_ ?_⟩
    · rintro i x H2 hx z
      obtain ⟨n, hn, rfl⟩ := int_of hx
      have hi := (List.getElem?_eq_some_iff.mp hn).1
      have bn := inm_bits hin hb n (List.mem_of_getElem? hn)
      refine ⟨rfl, _, rfl, _, rfl, _, _, rfl, rfl, (by show intBits n + intBits v ≤ 134217728; omega), _, rfl, _, _, rfl, rfl, (by show m ≠ 0; omega), ?_⟩
      rw [map_take_snoc hn]
      refine z.push hD same_rfl ?_
      rw [List.length_map, List.length_take]
      omega
    rintro H2 z
    rw [List.length_map, List.take_length] at z
    refine res H2 D _ v (s1.trans z.s) z.at_ (List.length_map ..) (fun x hx => ?_) ?_ (fun j => ?_) hv
    · obtain ⟨n, hn, rfl⟩ := List.mem_map.mp hx
      exact ⟨Int.fmod_nonneg_of_pos _ (by omega), Int.fmod_lt_of_pos _ (by omega)⟩
    · rw [List.getLast?_map, hl]
      show some ((l * v).fmod m) = some 1
      congr 1
      have h1 := Int.fmod_nonneg_of_pos (l * v) (show 0 < m by omega)
      have h2 := Int.fmod_lt_of_pos (l * v) (show 0 < m by omega)
      have h3 := Int.dvd_add (fmod_cong (l * v) m) hv
      rw [show (l * v).fmod m - l * v + (l * v - 1) = (l * v).fmod m - 1 by omega] at h3
      obtain ⟨c, hc⟩ := h3
      have : c = 0 := by
        apply Classical.byContradiction
        intro hne
        rcases Int.lt_or_gt_of_ne hne with z | z
        · have := Int.mul_le_mul_of_nonneg_left (show c ≤ -1 by omega) (show 0 ≤ m by omega)
          omega
        · have := Int.mul_le_mul_of_nonneg_left (show 1 ≤ c by omega) (show 0 ≤ m by omega)
          omega
      rw [this, Int.mul_zero] at hc
      omega
    · rw [getD_map (f := fun n => (n * v).fmod m) (by rw [Int.zero_mul]; exact Int.zero_fmod m), Int.mul_comm v]
      exact fmod_cong _ m
abbrev nRemM : List Str := ["a", "b", "m", "rest", "at", "share", "k"]
def spRemM : Sp := fun vs H Q _ => ∃ (p q : Addr) (as bs : List Int) (m : Int) (d : Nat), vs = [.ref p, .ref q, .int m] ∧ H p = some (.lst (as.map V.int)) ∧ H q = some (.lst (bs.map V.int)) ∧ as.length ≤ 100 ∧ bs.length = d + 1 ∧ d < 100 ∧ bs.getD d 0 = 1 ∧ 1 < m ∧ intBits m ≤ 20000 ∧ InM m as ∧ InM m bs ∧
  ∀ (H' : Hp) (t : Addr) (ms : List Int) (s : Fr), Same H H' → H' t = some (.lst (ms.map V.int)) → ms.length ≤ d → InM m ms → TrimI ms → Iz s → Fs s 200 → Pd m (fun j => fr as j - (cv s (fr bs) j + fr ms j)) → Q (.ref t) H'
theorem scRemM : FnScope nRemM ["a", "b", "m"] (defScope sRemM) := ⟨rfl, rfl, rfl, by decide +kernel, rfl, by decide +kernel, by decide +kernel⟩
theorem getI_out {ns : List Int} {j : Nat} (h : ns.length ≤ j) : ns.getD j 0 = 0 := by
  rw [List.getD_eq_getElem?_getD, List.getElem?_eq_none h]
  rfl
theorem ok_remm {f fT : Addr} {fd fdT : FuncData} (F : Fun K "remainder_modulo" "remainder_modulo" sRemM f fd) (T : TxL K mg) (TP : TxP K mg CP) (GT : FnOk P w K mg base CX0 1 fT fdT ["row"] spTrim) (kT : PySem.W.keepIn K (.ref fT) = true) (bT : Binds K fdT ["row"] []) (gT : mg "trimmed" = some (.ref fT)) : FnOk P w K mg base CX0 2 f fd ["a", "b", "m"] spRemM := by
  refine F.ok scRemM (fun vs H Q E h => ?_) (fun cdv A outer s0 H vs Q E hr h => ?_)
  · obtain ⟨p, q, as, bs, m, d, rfl, _⟩ := h
    rfl
  · obtain ⟨p, q, as, bs, m, d, rfl, hp, hq, la, lb, ld, hb1, hm, hbm, ia, ib, res⟩ := h
    refine ⟨_, pss_cons (ps_set (i := 3) scRemM.nd rfl (Or.inl rfl) (pe_callTy call_list_of (by rfl) TP.list (by decide +kernel) (pa_cons (pv 0) pa_nil)))
      (pss_cons (ps_for PassesOwn.never rfl (pi_range3 (by rfl) T.range (pa_cons (pe_op op_sub (pe_callB call_len_seq (by rfl) T.len PySem.boot_len (pa_cons (pv 0) pa_nil)) (pe_callB call_len_seq (by rfl) T.len PySem.boot_len (pa_cons (pv 1) pa_nil))) (pa_cons (pe_un un_neg pe_int) (pa_cons (pe_un un_neg pe_int) pa_nil)))) (pg_name (i := 4) scRemM.nd rfl (Or.inl rfl))
        (pss_cons (ps_set (i := 5) scRemM.nd rfl (Or.inl rfl) (pe_ix ix_list (pv 3) (pe_un un_neg pe_int) fun _ _ => rfl))
        (C8.pss_cut (ps_if (pt_cmpR op_ne (pv 5) pe_int (nomark _)) (pss_one (ps_for PassesOwn.never rfl (pi_range1 (by rfl) T.range (pa_cons (pe_op op_sub (pe_callB call_len_seq (by rfl) T.len PySem.boot_len (pa_cons (pv 1) pa_nil)) pe_int) pa_nil)) (pg_name (i := 6) scRemM.nd rfl (Or.inl rfl))
            (pss_one (ps_asg (pe_op op_modN (pe_op op_sub (pe_ix ix_list (pv 3) (pe_op op_add (pv 4) (pv 6)) fun _ _ => rfl) (pe_op op_mulB (pv 5) (pe_ix ix_list (pv 1) (pv 6) fun _ _ => rfl))) (pv 2)) (pg_sub (pv 3) (pe_op op_add (pv 4) (pv 6)) set_list))))) pss_nil)
        (pss_one (ps_expr (pe_bm0 PySem.F.plainAttrs_list PySem.F.slot_list_pop PySem.F.type_list_pop mt_pop (pv 3)))))))
      (pss_one (ps_ret (pe_call GT hr (by rfl) gT kT bT .nil pass0 (pa_cons (pv 3) pa_nil))))), ?_⟩
    refine ⟨_, rfl, p, _, rfl, .inl (SqL.of hp), fun D hD => ?_⟩
    have sD : Same H (upd H D (.lst (as.map V.int))) := same_upd hD
    refine ⟨_, rfl, p, _, rfl, .inl (SqL.of (sD _ _ hp)), _, rfl, q, _, rfl, .inl (SqL.of (sD _ _ hq)), _, _, rfl, rfl, _, rfl, _, rfl, _, _, _, _, rfl, RgC.neg (by rw [List.length_map, List.length_map]; omega) (by rw [List.length_map, List.length_map]; omega) (by decide) (by decide), ?_⟩
    obtain ⟨L, hL⟩ : ∃ L, as.length - d = L := ⟨_, rfl⟩
    rw [List.length_map, List.length_map, show ((as.length : Int) - (bs.length : Int) - -1).toNat = L by omega]
    refine for_it (walk_rangeC (lo := (as.length : Int) - (bs.length : Int)) (c := -1) (n := L))
      (fun i σ H5 => ∃ (rs : List Int) (sq : Fr) (v4 v5 v6 : Option V), σ = [some (.ref p), some (.ref q), some (.int m), some (.ref D), v4, v5, v6] ∧ Same H H5 ∧ H5 D = some (.lst (rs.map V.int)) ∧ rs.length = as.length - i ∧ InM m rs ∧ Iz sq ∧ Fs sq 200 ∧ Pd m (fun j => fr as j - (cv sq (fr bs) j + fr rs j)))
      ⟨as, fun _ => 0, none, none, none, rfl, sD, upd_same, by omega, ia, fun _ => Iq.zero, fun _ _ => rfl, fun j => by
        dsimp only
        rw [cv_zl, show fr as j - (0 + fr as j) = 0 by grind]
        exact Pq.zero m⟩ (fun i σ H5 _ _ => trivial) ?_ ?_
    · rintro i x0 σ H0 H5 hi ⟨rs, sq, v4, v5, v6, rfl, s5, e1, hrl, hin, hiz, hfs, hpd⟩ y
      obtain ⟨rfl, ey⟩ := y
      obtain ⟨a, ea⟩ : ∃ a : Nat, L = a + 1 + i := ⟨L - 1 - i, by omega⟩
      have eat : (as.length : Int) - (bs.length : Int) + (i : Nat) * (-1) = ((a : Nat) : Int) := by omega
      have hrl' : rs.length = a + d + 1 := by omega
      obtain ⟨x, ex⟩ : ∃ x, rs.getD (a + d) 0 = x := ⟨_, rfl⟩
      have ey2 : x0 = V.int ((a : Nat) : Int) := ey.trans (by show V.int _ = _; rw [eat])
      subst ey2
      have ibs := inm_bits hin hbm
      have bx : intBits x ≤ 20000 := by rw [← ex]; exact bits_getD ibs _
      refine ⟨_, rfl, _, rfl, D, _, _, V.int x, rfl, rfl, SqL.of e1, last_at hrl' ex, ?_⟩
      refine ⟨fun σ' H8 => ∃ (v6 : Option V) (ms : List Int), σ' = [some (.ref p), some (.ref q), some (.int m), some (.ref D), some (.int (a : Int)), some (.int x), v6] ∧ Same H H8 ∧ H8 D = some (.lst (ms.map V.int)) ∧ ms.length = a + d + 1 ∧ InM m ms ∧ ∀ j, m ∣ ms.getD j 0 - (rs.getD j 0 - if a ≤ j ∧ j < a + d then x * bs.getD (j - a) 0 else 0), ?_, ?_⟩
      · refine ⟨_, rfl, rfl, _, rfl, ?_⟩
        by_cases cs : x = 0
        · rw [show decide (V.int x = V.int 0) = true from decide_eq_true (by rw [cs])]
          refine iteF ⟨v6, rs, rfl, s5, e1, hrl', hin, fun j => ?_⟩
          rw [cs]
          split
          · rw [Int.zero_mul, Int.sub_zero, Int.sub_self]
            exact Int.dvd_zero m
          · rw [Int.sub_zero, Int.sub_self]
            exact Int.dvd_zero m
        · rw [show decide (V.int x = V.int 0) = false from decide_eq_false (fun z => cs (V.int.inj z))]
          refine iteT ?_
          refine ⟨_, rfl, q, _, rfl, .inl (SqL.of (s5 _ _ hq)), _, _, rfl, rfl, _, rfl, (by rw [List.length_map]; omega), (by rw [List.length_map]; omega), ?_⟩
          rw [List.length_map, show ((bs.length : Int) - 1).toNat = d by omega]
          refine for_it (walk_range (lo := 0) (n := d))
            (fun t σ H8 => ∃ (v6 : Option V) (ms : List Int), σ = [some (.ref p), some (.ref q), some (.int m), some (.ref D), some (.int (a : Int)), some (.int x), v6] ∧ Same H H8 ∧ H8 D = some (.lst (ms.map V.int)) ∧ ms.length = a + d + 1 ∧ InM m ms ∧ (∀ j, a + t ≤ j → ms.getD j 0 = rs.getD j 0) ∧ ∀ j, m ∣ ms.getD j 0 - (rs.getD j 0 - if a ≤ j ∧ j < a + t then x * bs.getD (j - a) 0 else 0))
            ⟨v6, rs, rfl, s5, e1, hrl', hin, fun _ _ => rfl, fun j => by
              rw [if_neg (by omega), Int.sub_zero, Int.sub_self]
              exact Int.dvd_zero m⟩ (fun t σ H8 _ _ => trivial) ?_ ?_
          · rintro t y σ H0 H8 ht ⟨v6', ms, rfl, s8, e8, hml, hmi, hsame, hms⟩ yy
            obtain ⟨rfl, rfl⟩ := yy
            obtain ⟨u, hu⟩ : ∃ u, ms[a + t]? = some u := ⟨_, List.getElem?_eq_getElem (by omega)⟩
            have eu : ms.getD (a + t) 0 = u := by
              rw [List.getD_eq_getElem?_getD, hu]
              rfl
            obtain ⟨v, hv⟩ : ∃ v, bs[t]? = some v := ⟨_, List.getElem?_eq_getElem (by omega)⟩
            have ev : bs.getD t 0 = v := by
              rw [List.getD_eq_getElem?_getD, hv]
              rfl
            have bv := inm_bits ib hbm v (List.mem_of_getElem? hv)
            have eat2 : ((a : Nat) : Int) + (0 + (t : Int)) = ((a + t : Nat) : Int) := by omega
            refine ⟨_, rfl, _, rfl, _, rfl, _, _, rfl, rfl, D, _, _, V.int u, rfl, rfl, SqL.of e8, (by rw [eat2]; exact atI_of (by rw [List.getElem?_map, hu]; rfl)), _, rfl, _, rfl, _, rfl, q, _, _, V.int v, rfl, rfl, SqL.of (s8 _ _ hq), (by rw [Int.zero_add]; exact atI_of (by rw [List.getElem?_map, hv]; rfl)), _, _, rfl, rfl, (by show intBits x + intBits v ≤ 134217728; omega), _, _, rfl, rfl, _, rfl, _, _, rfl, rfl, (by show m ≠ 0; omega), ?_⟩
            have i0 := Int.fmod_nonneg_of_pos (u - x * v) (show 0 < m by omega)
            have i1 := Int.fmod_lt_of_pos (u - x * v) (show 0 < m by omega)
            refine ⟨_, rfl, _, rfl, _, rfl, _, _, rfl, rfl, D, ms.map V.int, _, a + t, rfl, rfl, e8, (by rw [eat2]; exact ixN_of (by rw [List.length_map]; omega)), some (.int (0 + (t : Int))), ms.set (a + t) ((u - x * v).fmod m), rfl, fun b o e => ?_, by rw [upd_same, List.map_set], by rw [List.length_set]; exact hml, fun n hn => ?_, fun j hj => ?_, fun j => ?_⟩
            · rw [upd_ne (ne_of_none e hD)]
              exact s8 b o e
            · rcases List.mem_or_eq_of_mem_set hn with h | h
              · exact hmi n h
              · rw [h]
                exact ⟨i0, i1⟩
            · rw [getD_set (by omega), if_neg (by omega)]
              exact hsame j (by omega)
            · rw [getD_set (by omega)]
              by_cases e : j = a + t
              · subst e
                rw [if_pos rfl, if_pos (by omega), show a + t - a = t by omega, ev]
                have := hsame (a + t) (Nat.le_refl _)
                rw [eu] at this
                rw [← this]
                exact fmod_cong _ m
              · rw [if_neg e]
                have := hms j
                by_cases c : a ≤ j ∧ j < a + t
                · rw [if_pos c] at this
                  rw [if_pos (by omega)]
                  exact this
                · rw [if_neg c] at this
                  rw [if_neg (by omega)]
                  exact this
          · rintro σ H8 ⟨v6', ms, rfl, s8, e8, hml, hmi, _, hms⟩
            exact ⟨v6', ms, rfl, s8, e8, hml, hmi, hms⟩
      rintro σ' H8 ⟨v6', ms, rfl, s8, e8, hml, hmi, hms⟩
      obtain ⟨u, hu⟩ : ∃ u, ms[a + d]? = some u := ⟨_, List.getElem?_eq_getElem (by omega)⟩
      refine ⟨_, rfl, .inl ⟨rfl, _, SqL.of e8⟩, D, _, V.int u, rfl, rfl, e8, ?_, ?_⟩
      · rw [List.length_map, hml, Nat.add_sub_cancel, List.getElem?_map, hu]
        rfl
      refine ⟨ms.dropLast, fun t => sq t + if t = a then ((x : Int) : Rat) else 0, _, _, v6', rfl, fun b o e => ?_, by rw [upd_same, ← List.map_dropLast], by rw [List.length_dropLast]; omega, fun n hn => hmi n (List.dropLast_subset _ hn), fun j => (hiz j).add ?_, fun j hj => ?_, fun j => ?_⟩
      · rw [upd_ne (ne_of_none e hD)]
        exact s8 b o e
      · split
        · exact ⟨x, rfl⟩
        · exact Iq.zero
      · show sq j + (if j = a then _ else 0) = 0
        rw [hfs j hj, if_neg (by omega)]
        grind
      · have h1 := hpd j
        dsimp only at h1 ⊢
        rw [cv_addl, cv_delta0]
        -- the new row is the old one less x times b at a, modulo m
        have key : Pq m (fr rs j - (fr ms.dropLast j + if a ≤ j then ((x : Int) : Rat) * fr bs (j - a) else 0)) := by
          by_cases c : j < a + d
          · have h2 := hms j
            have e2 : ms.dropLast.getD j 0 = ms.getD j 0 := by rw [drop_at, if_pos (by omega)]
            have h3 := (Pq.of_dvd h2).neg
            by_cases c2 : a ≤ j
            · rw [if_pos ⟨c2, c⟩] at h3
              rw [if_pos c2]
              unfold fr
              rw [e2]
              rw [Rat.intCast_sub, Rat.intCast_sub, Rat.intCast_mul] at h3
              rwa [show -(((ms.getD j 0 : Int) : Rat) - (((rs.getD j 0 : Int) : Rat) - ((x : Int) : Rat) * ((bs.getD (j - a) 0 : Int) : Rat))) = ((rs.getD j 0 : Int) : Rat) - (((ms.getD j 0 : Int) : Rat) + ((x : Int) : Rat) * ((bs.getD (j - a) 0 : Int) : Rat)) by grind] at h3
            · rw [if_neg (by omega)] at h3
              rw [if_neg c2]
              unfold fr
              rw [e2]
              rw [Rat.intCast_sub, Rat.intCast_sub] at h3
              rwa [show -(((ms.getD j 0 : Int) : Rat) - (((rs.getD j 0 : Int) : Rat) - ((0 : Int) : Rat))) = ((rs.getD j 0 : Int) : Rat) - (((ms.getD j 0 : Int) : Rat) + 0) by rw [show ((0 : Int) : Rat) = 0 from rfl]; grind] at h3
          · have e2 : ms.dropLast.getD j 0 = 0 := by rw [drop_at, if_neg (by omega)]
            rw [if_pos (by omega)]
            unfold fr
            rw [e2]
            by_cases c3 : j = a + d
            · subst c3
              rw [ex, show a + d - a = d by omega, hb1]
              rw [show ((x : Int) : Rat) - (((0 : Int) : Rat) + ((x : Int) : Rat) * ((1 : Int) : Rat)) = 0 by rw [show ((0 : Int) : Rat) = 0 from rfl, show ((1 : Int) : Rat) = 1 from rfl]; grind]
              exact Pq.zero m
            · rw [getI_out (ns := rs) (by omega), getI_out (ns := bs) (by omega)]
              rw [show ((0 : Int) : Rat) - (((0 : Int) : Rat) + ((x : Int) : Rat) * ((0 : Int) : Rat)) = 0 by rw [show ((0 : Int) : Rat) = 0 from rfl]; grind]
              exact Pq.zero m
        have := h1.add key
        rwa [show fr as j - (cv sq (fr bs) j + fr rs j) + (fr rs j - (fr ms.dropLast j + if a ≤ j then ((x : Int) : Rat) * fr bs (j - a) else 0)) = fr as j - (cv sq (fr bs) j + (if a ≤ j then ((x : Int) : Rat) * fr bs (j - a) else 0) + fr ms.dropLast j) by grind] at this
    · rintro σ H5 ⟨rs, sq, v4, v5, v6, rfl, s5, e1, hrl, hin, hiz, hfs, hpd⟩
      refine ⟨_, rfl, D, rs, rfl, e1, by omega, fun H6 t ms s6 ht hml hmm hmf hmt => ?_⟩
      refine res H6 t ms sq (s5.trans s6) ht (by omega) (fun n hn => hin n (hmm n hn)) hmt hiz hfs fun j => ?_
      show Pq m (fr as j - (cv sq (fr bs) j + fr ms j))
      rw [show fr ms j = fr rs j by unfold fr; rw [hmf]]
      exact hpd j
end
end Ind

set_option Elab.async false
set_option linter.all false
set_option maxRecDepth 100000
set_option maxHeartbeats 4000000
set_option exponentiation.threshold 20000
namespace Ind
open PySem PySem.Spec PyProof.Rows L2
open Builtin.Int (intBits)
abbrev sDivMd : Stmt := top 23
/-- a combination modulo m -/
def Mc (m : Int) (A B F : Fr) : Prop := ∃ u v N, Iz u ∧ Iz v ∧ Fs u N ∧ Fs v N ∧ Pd m fun j => F j - (cv u A j + cv v B j)
theorem Md.rem {m : Int} {g A B R s : Fr} {N : Nat} (is : Iz s) (hs : Fs s N) (e : Pd m fun j => A j - (cv s B j + R j)) (h1 : Md m g A) (h2 : Md m g B) : Md m g R := by
  refine ((h1.add ((h2.mul is hs).sc (c := -1) (Iq.neg Iq.one)))).cong fun j => ?_
  have := (e j).neg
  dsimp only at this ⊢
  rwa [show -(A j - (cv s B j + R j)) = R j - (A j + -1 * cv s B j) by grind] at this
theorem Md.back {m : Int} {g A B R s : Fr} {N : Nat} (is : Iz s) (hs : Fs s N) (e : Pd m fun j => A j - (cv s B j + R j)) (h1 : Md m g B) (h2 : Md m g R) : Md m g A := by
  refine ((h1.mul is hs).add h2).cong fun j => ?_
  exact e j
theorem Mc.cong {m : Int} {A B F F' : Fr} (h : Mc m A B F) (e : Pd m fun j => F' j - F j) : Mc m A B F' := by
  obtain ⟨u, v, N, iu, iv, hu, hv, p⟩ := h
  refine ⟨u, v, N, iu, iv, hu, hv, fun j => ?_⟩
  have := (p j).add (e j)
  dsimp only at this ⊢
  rwa [show F j - (cv u A j + cv v B j) + (F' j - F j) = F' j - (cv u A j + cv v B j) by grind] at this
theorem Mc.add {m : Int} {A B F G : Fr} (h1 : Mc m A B F) (h2 : Mc m A B G) : Mc m A B fun j => F j + G j := by
  obtain ⟨u, v, N, iu, iv, hu, hv, p⟩ := h1
  obtain ⟨u2, v2, N2, iu2, iv2, hu2, hv2, p2⟩ := h2
  refine ⟨fun j => u j + u2 j, fun j => v j + v2 j, max N N2, fun j => (iu j).add (iu2 j), fun j => (iv j).add (iv2 j), fun j hj => ?_, fun j hj => ?_, fun j => ?_⟩
  · show u j + u2 j = 0
    rw [hu j (by omega), hu2 j (by omega)]
    grind
  · show v j + v2 j = 0
    rw [hv j (by omega), hv2 j (by omega)]
    grind
  · dsimp only
    rw [cv_addl, cv_addl]
    have := (p j).add (p2 j)
    dsimp only at this
    rwa [show F j - (cv u A j + cv v B j) + (G j - (cv u2 A j + cv v2 B j)) = F j + G j - (cv u A j + cv u2 A j + (cv v B j + cv v2 B j)) by grind] at this
theorem Mc.mul {m : Int} {A B F s : Fr} {M : Nat} (is : Iz s) (hs : Fs s M) (h : Mc m A B F) : Mc m A B (cv s F) := by
  obtain ⟨u, v, N, iu, iv, hu, hv, p⟩ := h
  refine ⟨cv s u, cv s v, M + N, is.cv iu, is.cv iv, cv_out hs hu, cv_out hs hv, fun j => ?_⟩
  have := Pd.cvr is p j
  dsimp only
  have e : cv s (fun j => F j - (cv u A j + cv v B j)) j = cv s F j - (cv (cv s u) A j + cv (cv s v) B j) := by
    rw [cv_assoc, cv_assoc, cv_comm, show (fun j => F j - (cv u A j + cv v B j)) = fun j => (-1 : Rat) * (fun j => cv u A j + cv v B j) j + F j from funext fun j => by grind, cv_lin, cv_addl, cv_comm, cv_comm (cv v B), cv_comm F s]
    grind
  rwa [e] at this
theorem Mc.sc {m : Int} {A B F : Fr} {c : Rat} (ic : Iq c) (h : Mc m A B F) : Mc m A B fun j => c * F j := by
  have := h.mul (s := fun j => if j = 0 then c else 0) (M := 1) (fun j => by dsimp only; split; exact ic; exact Iq.zero) fun j hj => if_neg (by omega)
  rwa [show cv (fun j => if j = 0 then c else 0) F = fun j => c * F j from funext fun j => d0_one c F j] at this
theorem Mc.rem {m : Int} {A B F G R s : Fr} {N : Nat} (is : Iz s) (hs : Fs s N) (e : Pd m fun j => F j - (cv s G j + R j)) (h1 : Mc m A B F) (h2 : Mc m A B G) : Mc m A B R := by
  refine ((h1.add ((h2.mul is hs).sc (c := -1) (Iq.neg Iq.one)))).cong fun j => ?_
  have := (e j).neg
  dsimp only at this ⊢
  rwa [show -(F j - (cv s G j + R j)) = R j - (F j + -1 * cv s G j) by grind] at this
theorem Mc.l (m : Int) (A B : Fr) : Mc m A B A := ⟨one1, fun _ => 0, 1, fun j => by unfold one1; split; exact Iq.one; exact Iq.zero, fun _ => Iq.zero, fs_one, fun _ _ => rfl, fun j => by
  dsimp only
  rw [cv_one, cv_zl, show A j - (A j + 0) = 0 by grind]
  exact Pq.zero m⟩
theorem Mc.r (m : Int) (A B : Fr) : Mc m A B B := ⟨fun _ => 0, one1, 1, fun _ => Iq.zero, fun j => by unfold one1; split; exact Iq.one; exact Iq.zero, fun _ _ => rfl, fs_one, fun j => by
  dsimp only
  rw [cv_one, cv_zl, show B j - (0 + B j) = 0 by grind]
  exact Pq.zero m⟩
theorem iz_fr (ns : List Int) : Iz (fr ns) := fun j => ⟨ns.getD j 0, rfl⟩
theorem fs_fr (ns : List Int) : Fs (fr ns) ns.length := fun j hj => by
  unfold fr
  rw [getI_out hj]
  rfl
/-- below a prime all are coprime to it -/
theorem gcd_prm {m l : Int} (hm : Prm m) (h0 : 0 < l) (h1 : l < m) : Nat.gcd l.natAbs m.natAbs = 1 := by
  have hb := hm.big
  have hd := Nat.gcd_dvd_right l.natAbs m.natAbs
  obtain ⟨e, he⟩ := hd
  have hg0 : 0 < Nat.gcd l.natAbs m.natAbs := Nat.gcd_pos_of_pos_left _ (by omega)
  have hgl : Nat.gcd l.natAbs m.natAbs ≤ l.natAbs := Nat.le_of_dvd (by omega) (Nat.gcd_dvd_left _ _)
  generalize Nat.gcd l.natAbs m.natAbs = g at *
  have e0 : 0 < e := Nat.pos_of_ne_zero fun z => by
    rw [z, Nat.mul_zero] at he
    omega
  have hme : m = (g : Int) * (e : Int) := by
    rw [← Int.natCast_mul, ← he]
    omega
  rcases hm.or (g : Int) (e : Int) (by rw [← hme]; exact Int.dvd_refl m) with z | z
  · have := Int.le_of_dvd (by omega) z
    omega
  · have h2 := Int.le_of_dvd (by omega) z
    have h3 : m.natAbs ≤ e := by omega
    rw [he] at h3
    have h4 : g * e ≤ 1 * e := by omega
    have := Nat.le_of_mul_le_mul_right h4 e0
    omega
theorem dvd_small {m x : Int} (h0 : 0 ≤ x) (h1 : x < m) (h : m ∣ x) : x = 0 := by
  apply Classical.byContradiction
  intro hne
  have := Int.le_of_dvd (by omega) h
  omega
def spDivMd : Sp := fun vs H Q _ => ∃ (p q : Addr) (as bs : List Int) (m : Int) (k : Nat), vs = [.ref p, .ref q, .int m] ∧ IntsAt H p as ∧ IntsAt H q bs ∧ as.length ≤ 100 ∧ bs.length ≤ 100 ∧ (∀ n ∈ as, intBits n ≤ k) ∧ (∀ n ∈ bs, intBits n ≤ k) ∧ Prm m ∧ intBits m ≤ 20000 ∧ (∃ j, ¬ m ∣ as.getD j 0) ∧
  ∀ (H' : Hp) (t : Addr) (ms : List Int), Same H H' → H' t = some (.lst (ms.map V.int)) → ms.length ≤ 100 → InM m ms → ms.getLast? = some 1 → (∀ (g : Fr) (N : Nat), Iz g → Fs g N → Md m g (fr as) → Md m g (fr bs) → Md m g (fr ms)) → Md m (fr ms) (fr as) → Md m (fr ms) (fr bs) → Mc m (fr as) (fr bs) (fr ms) → Q (.ref t) H'
/-- the pair of rows that Euclid's steps have reached -/
structure DmS (m : Int) (fa fb : Fr) (as bs : List Int) : Prop where
  ia : InM m as
  ib : InM m bs
  ta : TrimI as
  tb : TrimI bs
  na : as ≠ []
  la : as.length ≤ 100
  lb : bs.length ≤ 100
  dn : ∀ (g : Fr) (N : Nat), Iz g → Fs g N → Md m g fa → Md m g fb → Md m g (fr as) ∧ Md m g (fr bs)
  up : ∀ (g : Fr) (N : Nat), Iz g → Fs g N → Md m g (fr as) → Md m g (fr bs) → Md m g fa ∧ Md m g fb
  ca : Mc m fa fb (fr as)
  cb : Mc m fa fb (fr bs)
/-- rows in the same proportions modulo m -/
theorem Md.prop {m : Int} {g : Fr} {ns ms : List Int} {v l : Int} (h : ∀ j, m ∣ ms.getD j 0 - v * ns.getD j 0) (hv : m ∣ l * v - 1) : (Md m g (fr ns) → Md m g (fr ms)) ∧ (Md m g (fr ms) → Md m g (fr ns)) := by
  have e : Pd m fun j => fr ms j - ((v : Int) : Rat) * fr ns j := fun j => by
    have := Pq.of_dvd (h j)
    rw [Rat.intCast_sub, Rat.intCast_mul] at this
    exact this
  constructor
  · exact fun d => (d.sc ⟨v, rfl⟩).cong e
  · refine fun d => (d.sc (c := ((l : Int) : Rat)) ⟨l, rfl⟩).cong fun j => ?_
    -- ns = l ms modulo m
    obtain ⟨a, ha⟩ := h j
    obtain ⟨b, hb⟩ := hv
    have : m ∣ ns.getD j 0 - l * ms.getD j 0 := ⟨-(b * ns.getD j 0) - l * a, by grind⟩
    have := Pq.of_dvd this
    rw [Rat.intCast_sub, Rat.intCast_mul] at this
    exact this
theorem Mc.prop {m : Int} {A B : Fr} {ns ms : List Int} {v : Int} (h : ∀ j, m ∣ ms.getD j 0 - v * ns.getD j 0) (c : Mc m A B (fr ns)) : Mc m A B (fr ms) := (c.sc ⟨v, rfl⟩).cong fun j => by
  have := Pq.of_dvd (h j)
  rw [Rat.intCast_sub, Rat.intCast_mul] at this
  exact this
section
variable {P : Program} {w : World} {K : PySem.W.Frag} {mg : Str → Option Value} {base : Heap} {C Z CP : Addr}
abbrev nDivMd : List Str := ["a", "b", "m", "n"]
theorem scDivMd : FnScope nDivMd ["a", "b", "m"] (defScope sDivMd) := ⟨rfl, rfl, rfl, by decide +kernel, rfl, by decide +kernel, by decide +kernel⟩
structure TxDm (P : Program) (w : World) (K : PySem.W.Frag) (mg : Str → Option Value) (base : Heap) (fT fM fR : Addr) (fdT fdM fdR : FuncData) : Prop where
  GT : FnOk P w K mg base CX0 1 fT fdT ["row"] spTrim
  kT : PySem.W.keepIn K (.ref fT) = true
  bT : Binds K fdT ["row"] []
  gT : mg "trimmed" = some (.ref fT)
  GM : FnOk P w K mg base CX0 42 fM fdM ["row", "m"] spMonM
  kM : PySem.W.keepIn K (.ref fM) = true
  bM : Binds K fdM ["row", "m"] []
  gM : mg "monic_modulo" = some (.ref fM)
  GR : FnOk P w K mg base CX0 2 fR fdR ["a", "b", "m"] spRemM
  kR : PySem.W.keepIn K (.ref fR) = true
  bR : Binds K fdR ["a", "b", "m"] []
  gR : mg "remainder_modulo" = some (.ref fR)
theorem trim_cong {m : Int} {as : List Int} {ms : List Int} (e : ∀ j, ms.getD j 0 = (as.map fun n => n.fmod m).getD j 0) : ∀ j, m ∣ ms.getD j 0 - 1 * as.getD j 0 := fun j => by
  rw [e j, getD_map (f := fun n => n.fmod m) (Int.zero_fmod m), Int.one_mul]
  exact fmod_cong _ m
theorem ok_divmd {f fT fM fR : Addr} {fd fdT fdM fdR : FuncData} (F : Fun K "divisor_modulo" "divisor_modulo" sDivMd f fd) (T : TxL K mg) (D : TxDm P w K mg base fT fM fR fdT fdM fdR) : FnOk P w K mg base CX0 43 f fd ["a", "b", "m"] spDivMd := by
  refine F.ok scDivMd (fun vs H Q E h => ?_) (fun cdv A outer s H vs Q E hr h => ?_)
  · obtain ⟨p, q, as, bs, m, k, rfl, _⟩ := h
    rfl
  · obtain ⟨p, q, as, bs, m, kk, rfl, hp, hq, la, lb, ba, bb, hm, hbm, ⟨j0, hj0⟩, res⟩ := h
    have h1 := hr.mono (show 1 ≤ 42 by decide)
    have h2 := hr.mono (show 2 ≤ 42 by decide)
    have hb1 := hm.big
    have h43 := hr.mono (show 42 ≤ 42 by decide)
    refine ⟨_, C8.pss_cut (ps_set (i := 0) scDivMd.nd rfl (Or.inl rfl) (pe_call D.GT h1 (by rfl) D.gT D.kT D.bT .nil pass0 (pa_cons (pe_lc (own := [("n", 3)]) (g := gName 3) (tt := tYes) (te := tOp (rI (fun _ j => j ≠ 0) fun i j => .int (i.fmod j)) (tVar 3) (tVar 2)) rfl scDivMd.nd (PI.or (pi_list (pv 0)) (pi_tup (pv 0))) (blkOk_by (N := nDivMd) (sc := defScope sDivMd) (by decide +kernel))
          (fun _ _ _ _ _ => pg_name (i := 3) scDivMd.nd rfl (Or.inl rfl)) (fun _ _ _ _ _ => pts_nil) (fun _ _ _ _ _ => pe_op op_modN (pv 3) (pv 2))) pa_nil)))
      (C8.pss_cut (ps_set (i := 1) scDivMd.nd rfl (Or.inl rfl) (pe_call D.GT h1 (by rfl) D.gT D.kT D.bT .nil pass0 (pa_cons (pe_lc (own := [("n", 3)]) (g := gName 3) (tt := tYes) (te := tOp (rI (fun _ j => j ≠ 0) fun i j => .int (i.fmod j)) (tVar 3) (tVar 2)) rfl scDivMd.nd (PI.or (pi_list (pv 1)) (pi_tup (pv 1))) (blkOk_by (N := nDivMd) (sc := defScope sDivMd) (by decide +kernel))
          (fun _ _ _ _ _ => pg_name (i := 3) scDivMd.nd rfl (Or.inl rfl)) (fun _ _ _ _ _ => pts_nil) (fun _ _ _ _ _ => pe_op op_modN (pv 3) (pv 2))) pa_nil)))
      (pss_cons (ps_while PassesOwn.never (pt_cmpR op_gt (pe_callB call_len_seq (by rfl) T.len PySem.boot_len (pa_cons (pv 1) pa_nil)) pe_int (nomark _))
        (pss_cons (ps_set (i := 1) scDivMd.nd rfl (Or.inl rfl) (pe_call D.GM h43 (by rfl) D.gM D.kM D.bM .nil pass0 (pa_cons (pv 1) (pa_cons (pv 2) pa_nil))))
        (pss_one (ps_par (i := 0) (j := 1) rfl scDivMd.nd rfl rfl (by decide) rfl rfl (pa_cons (pv 1) (pa_cons (pe_call D.GR h2 (by rfl) D.gR D.kR D.bR .nil pass0 (pa_cons (pv 0) (pa_cons (pv 1) (pa_cons (pv 2) pa_nil)))) pa_nil)) rfl))))
      (pss_one (ps_ret (pe_call D.GM h43 (by rfl) D.gM D.kM D.bM .nil pass0 (pa_cons (pv 0) (pa_cons (pv 2) pa_nil))))))), ?_⟩
    have inm : ∀ ns : List Int, InM m (ns.map fun n => n.fmod m) := fun ns x hx => by
      obtain ⟨n, _, rfl⟩ := List.mem_map.mp hx
      exact ⟨Int.fmod_nonneg_of_pos _ (by omega), Int.fmod_lt_of_pos _ (by omega)⟩
    -- one turn of a comprehension
    have one : ∀ {σ : L2.St} {H0 : Hp} {D : Addr} {H2 : Hp} {i : Nat} {x : V} {ns : List Int} (_ : σ[3]? = some (some x)) (_ : σ[2]? = some (some (V.int m))) (_ : H0 D = none) (_ : ns.length ≤ 100) (_ : (ns.map V.int)[i]? = some x) (_ : ColI D H0 H2 ((ns.take i).map fun n => n.fmod m)),
        (tOp (rI (fun _ j => j ≠ 0) fun i j => V.int (i.fmod j)) (tVar 3) (tVar 2)) σ H2 (fun v H3 => ∃ acc, H3 D = some (.lst acc) ∧ acc.length < sizeLine ∧ ColI D H0 (upd H3 D (.lst (acc ++ [v]))) ((ns.take (i + 1)).map fun n => n.fmod m)) := fun {σ H0 D H2 i x ns} e3 e2 hD hl hx z => by
      obtain ⟨n, hn, rfl⟩ := int_of hx
      have hi := (List.getElem?_eq_some_iff.mp hn).1
      refine ⟨_, e3, _, e2, _, _, rfl, rfl, (by show m ≠ 0; omega), ?_⟩
      rw [map_take_snoc hn]
      refine z.push hD same_rfl ?_
      rw [List.length_map, List.length_take]
      omega
    have fin : ∀ {H0 : Hp} {D : Addr} {H2 : Hp} {ns : List Int} (Q2 : VK), ns.length ≤ 100 → ColI D H0 H2 ((ns.take (ns.map V.int).length).map fun n => n.fmod m) → (∀ (H3 : Hp) (t : Addr) (ms : List Int), Same H0 H3 → H3 t = some (.lst (ms.map V.int)) → ms.length ≤ 100 → InM m ms → TrimI ms → (∀ j, m ∣ ms.getD j 0 - 1 * ns.getD j 0) → Q2 (.ref t) H3) → spTrim [.ref D] H2 Q2 E0 := fun {H0 D H2 ns} Q2 hl z k => by
      rw [List.length_map, List.take_length] at z
      exact ⟨D, _, rfl, z.at_, by rw [List.length_map]; omega, fun H3 t ms s3 ht hml hmm hmf hmt => k H3 t ms (z.s.trans s3) ht (by rw [List.length_map] at hml; omega) (fun x hx => inm ns x (hmm x hx)) hmt (trim_cong hmf)⟩
    refine ⟨fun σ' H' => Same H H' ∧ ∃ (u : Addr) (xs : List Int), σ' = [some (.ref u), some (.ref q), some (.int m), none] ∧ H' u = some (.lst (xs.map V.int)) ∧ xs.length ≤ 100 ∧ InM m xs ∧ TrimI xs ∧ ∀ j, m ∣ xs.getD j 0 - 1 * as.getD j 0, ?_, ?_⟩
    · rcases hp with hp | hp
      · refine .inl ⟨_, rfl, p, rfl, ⟨_, SqL.of hp⟩, fun D hD => lc_list (K := K) (a := p) (xs := as.map V.int) (fun i H2 => ColI D H H2 ((as.take i).map fun n : Int => n.fmod m)) (ColI.start hD) (fun i H2 _ z => z.s.seq (SqL.of hp)) ?_ ?_⟩
        · intro i x H2 hx z
          exact ⟨rfl, one (by rfl) (by rfl) hD la hx z⟩
        · intro H2 z
          unfold tNil
          exact fin _ la z fun H3 t ms s3 ht hl hi ht2 hc => ⟨s3, t, ms, rfl, ht, hl, hi, ht2, hc⟩
      · refine .inr ⟨_, rfl, p, rfl, ⟨_, SqT.of hp⟩, fun D hD => lc_tup (K := K) (a := p) (xs := as.map V.int) (fun i H2 => ColI D H H2 ((as.take i).map fun n : Int => n.fmod m)) (ColI.start hD) (fun i H2 _ z => .of (z.s _ _ hp)) ?_ ?_⟩
        · intro i x H2 hx z
          exact ⟨rfl, one (by rfl) (by rfl) hD la hx z⟩
        · intro H2 z
          unfold tNil
          exact fin _ la z fun H3 t ms s3 ht hl hi ht2 hc => ⟨s3, t, ms, rfl, ht, hl, hi, ht2, hc⟩
    rintro σ' H1 ⟨s1, u, xs, rfl, hu, lx, ix, tx, cx⟩
    refine ⟨fun σ' H' => Same H1 H' ∧ ∃ (v : Addr) (ys : List Int), σ' = [some (.ref u), some (.ref v), some (.int m), none] ∧ H' v = some (.lst (ys.map V.int)) ∧ ys.length ≤ 100 ∧ InM m ys ∧ TrimI ys ∧ ∀ j, m ∣ ys.getD j 0 - 1 * bs.getD j 0, ?_, ?_⟩
    · rcases hq.same s1 with hp | hp
      · refine .inl ⟨_, rfl, q, rfl, ⟨_, SqL.of hp⟩, fun D hD => lc_list (K := K) (a := q) (xs := bs.map V.int) (fun i H2 => ColI D H1 H2 ((bs.take i).map fun n : Int => n.fmod m)) (ColI.start hD) (fun i H2 _ z => z.s.seq (SqL.of hp)) ?_ ?_⟩
        · intro i x H2 hx z
          exact ⟨rfl, one (by rfl) (by rfl) hD lb hx z⟩
        · intro H2 z
          unfold tNil
          exact fin _ lb z fun H3 t ms s3 ht hl hi ht2 hc => ⟨s3, t, ms, rfl, ht, hl, hi, ht2, hc⟩
      · refine .inr ⟨_, rfl, q, rfl, ⟨_, SqT.of hp⟩, fun D hD => lc_tup (K := K) (a := q) (xs := bs.map V.int) (fun i H2 => ColI D H1 H2 ((bs.take i).map fun n : Int => n.fmod m)) (ColI.start hD) (fun i H2 _ z => .of (z.s _ _ hp)) ?_ ?_⟩
        · intro i x H2 hx z
          exact ⟨rfl, one (by rfl) (by rfl) hD lb hx z⟩
        · intro H2 z
          unfold tNil
          exact fin _ lb z fun H3 t ms s3 ht hl hi ht2 hc => ⟨s3, t, ms, rfl, ht, hl, hi, ht2, hc⟩
    rintro σ' H2 ⟨s2, v, ys, rfl, hv, ly, iy, ty, cy⟩
    have one1 : m ∣ 1 * 1 - 1 := by
      rw [show (1 : Int) * 1 - 1 = 0 by decide]
      exact Int.dvd_zero m
    have px := fun g => Md.prop (g := g) cx one1
    have py := fun g => Md.prop (g := g) cy one1
    have S0 : DmS m (fr as) (fr bs) xs ys := ⟨ix, iy, tx, ty, fun e => by
      apply hj0
      have := cx j0
      rw [e] at this
      have h := Int.dvd_neg.mpr this
      rwa [show -((([] : List Int)).getD j0 0 - 1 * as.getD j0 0) = as.getD j0 0 by simp] at h, lx, ly, fun g N ig hg d1 d2 => ⟨(px g).1 d1, (py g).1 d2⟩, fun g N ig hg d1 d2 => ⟨(px g).2 d1, (py g).2 d2⟩, (Mc.l m _ _).prop cx, (Mc.r m _ _).prop cy⟩
    refine while_by (fun σ' H' => Same H H' ∧ ∃ (u v : Addr) (xs ys : List Int), σ' = [some (.ref u), some (.ref v), some (.int m), none] ∧ H' u = some (.lst (xs.map V.int)) ∧ H' v = some (.lst (ys.map V.int)) ∧ DmS m (fr as) (fr bs) xs ys)
      (fun σ H' => match σ[1]? with | some (some (V.ref y)) => (match H' y with | some (.lst zs) => zs.length | _ => 0) | _ => 0) ⟨s1.trans s2, u, v, xs, ys, rfl, s2 _ _ hu, hv, S0⟩ ?_ ?_
    · clear S0 cx cy px py hu hv lx ix tx ly iy ty s1 s2
      rintro σ H5 ⟨s5, u, v, xs, ys, rfl, hu, hv, S⟩
      refine ⟨_, rfl, v, _, rfl, .inl (SqL.of hv), _, _, rfl, rfl, _, rfl, ?_⟩
      rw [List.length_map]
      by_cases c : ys = []
      · -- the end
        subst c
        rw [show decide ((0 : Int) < ((([] : List Int).length : Nat) : Int)) = false by decide]
        refine iteF ?_
        obtain ⟨l, hl⟩ := last_ex S.na
        have hlm := S.ia l (List.mem_of_getLast? hl)
        have hl0 := S.ta l hl
        refine ⟨_, rfl, _, rfl, u, xs, m, l, rfl, hu, S.la, hl, hb1, gcd_prm hm (by omega) hlm.2, hbm, S.ia, fun H6 t ms v s6 ht hml him hlast hcg hlv => ?_⟩
        have pr := fun g => Md.prop (g := g) hcg hlv
        have dz : ∀ g, Md m g (fr []) := fun g => ⟨fun _ => 0, 0, fun _ => Iq.zero, fun _ _ => rfl, fun j => by
          rw [show fr [] = fun _ => 0 from funext fun j => rfl]
          dsimp only
          rw [cv_zl, show (0 : Rat) - 0 = 0 by grind]
          exact Pq.zero m⟩
        have refl : Md m (fr ms) (fr ms) := Md.of (s := Ind.one1) (fun j => by unfold Ind.one1; split; exact Iq.one; exact Iq.zero) fs_one fun j => (cv_one _ j).symm
        have up := S.up (fr ms) _ (iz_fr ms) (fs_fr ms) ((pr _).2 refl) (dz _)
        exact res H6 t ms (s5.trans s6) ht (by rw [hml]; exact S.la) him hlast (fun g N ig hg d1 d2 => (pr g).1 (S.dn g N ig hg d1 d2).1) up.1 up.2 (S.ca.prop hcg)
      · obtain ⟨l, hl⟩ := last_ex c
        have hlm := S.ib l (List.mem_of_getLast? hl)
        have hl0 := S.tb l hl
        have hy0 : 0 < ys.length := List.length_pos_iff.mpr c
        rw [show decide ((0 : Int) < ((ys.length : Nat) : Int)) = true from decide_eq_true (by omega)]
        refine iteT ⟨_, rfl, _, rfl, v, ys, m, l, rfl, hv, S.lb, hl, hb1, gcd_prm hm (by omega) hlm.2, hbm, S.ib, fun H6 t ms v2 s6 ht hml him hlast hcg hlv => ?_⟩
        have pr := fun g => Md.prop (g := g) hcg hlv
        obtain ⟨d, hd⟩ : ∃ d, ms.length = d + 1 := ⟨ms.length - 1, by omega⟩
        have hd1 : ms.getD d 0 = 1 := by
          rw [List.getLast?_eq_getElem?, hd] at hlast
          rw [List.getD_eq_getElem?_getD]
          rw [show ms[d]? = some 1 from hlast]
          rfl
        have lyb := S.lb
        refine ⟨_, rfl, _, rfl, _, rfl, _, rfl, u, t, xs, ms, m, d, rfl, s6 _ _ hu, ht, S.la, hd, by omega, hd1, hb1, hbm, S.ia, him, fun H7 t2 rs sq s7 ht2 hrl hri hrt isq hsq hpd => ?_⟩
        refine ⟨_, _, rfl, ⟨(s5.trans s6).trans s7, t, t2, ms, rs, rfl, s7 _ _ ht, ht2, ⟨him, hri, fun x hx => (by rw [hlast] at hx; cases hx; decide), hrt, fun e => (by rw [e] at hd; cases hd), by omega, by omega, fun g N ig hg d1 d2 => ?_, fun g N ig hg d1 d2 => ?_, S.cb.prop hcg, Mc.rem isq hsq hpd S.ca (S.cb.prop hcg)⟩⟩, ?_⟩
        · obtain ⟨e1, e2⟩ := S.dn g N ig hg d1 d2
          have e3 := (pr g).1 e2
          exact ⟨e3, Md.rem isq hsq hpd e1 e3⟩
        · exact S.up g N ig hg (Md.back isq hsq hpd d1 d2) ((pr g).2 d1)
        · show (match H7 t2 with | some (HO.lst zs) => zs.length | _ => 0) < (match H5 v with | some (HO.lst zs) => zs.length | _ => 0)
          rw [ht2, hv]
          dsimp only
          rw [List.length_map, List.length_map]
          omega
    · rintro σ H' R R' hR ⟨v, e1, p1, ys, e2, e3, i, j, e4, e5, b1, e6, h3⟩
      exact ⟨v, e1, p1, ys, e2, e3, i, j, e4, e5, b1, e6, hR _ _ h3⟩
end
end Ind

set_option Elab.async false
set_option linter.all false
set_option maxRecDepth 100000
set_option maxHeartbeats 4000000
set_option exponentiation.threshold 20000
namespace Ind
open PySem PySem.Spec PyProof.Rows L2
open Builtin.Int (intBits)
abbrev sDvR : Stmt := top 25
abbrev sEu : Stmt := top 27
/-- a primitive row -/
structure Pr (ns : List Int) : Prop where
  ne : ns ≠ []
  g : gcdN ns = 1
  pos : ∀ m, ns.getLast? = some m → 0 < m
theorem Pr.trim {ns : List Int} (h : Pr ns) : TrimI ns := fun m hm => by have := h.pos m hm; omega
theorem pr_last {ns : List Int} (h : ns ≠ []) : ∃ n l, ns.length = n + 1 ∧ ns.getLast? = some l ∧ ns.getD n 0 = l := by
  obtain ⟨l, hl⟩ := last_ex h
  obtain ⟨n, hn⟩ : ∃ n, ns.length = n + 1 := ⟨ns.length - 1, by have := List.length_pos_iff.mpr h; omega⟩
  refine ⟨n, l, hn, hl, ?_⟩
  rw [List.getLast?_eq_getElem?, hn] at hl
  rw [List.getD_eq_getElem?_getD, show ns[n]? = some l from hl]
  rfl
theorem dg_fr {ns : List Int} (h : ns ≠ []) (t : TrimI ns) : Dg (fr ns) (ns.length - 1) := by
  obtain ⟨n, l, hn, hl, e⟩ := pr_last h
  refine ⟨by rw [show ns.length - 1 + 1 = ns.length by omega]; exact fs_fr ns, ?_⟩
  rw [show ns.length - 1 = n by omega]
  unfold fr
  rw [e]
  exact cst_ne (t l hl)
theorem Pr.pri {ns : List Int} (h : Pr ns) : Pri (fr ns) := fun p hp hd => by
  have hb := hp.big
  have : p.natAbs ∣ gcdN ns := gcdN_great fun n hn => by
    obtain ⟨j, _, e⟩ := mem_getD hn
    have := Pq.int (hd j)
    rw [e] at this
    exact Int.natAbs_dvd_natAbs.mpr this
  rw [h.g] at this
  have := Nat.dvd_one.mp this
  omega
theorem Gc.scr {a b g : Fr} {c : Rat} (hc : c ≠ 0) (h : Gc a b g) : Gc a (fun j => c * b j) g := ⟨h.l, h.r.sc c, by
  obtain ⟨u, v, N, hu, hv, e⟩ := h.m
  refine ⟨u, fun j => 1 / c * v j, N, hu, fun j hj => by dsimp only; rw [hv j hj]; grind, fun j => ?_⟩
  rw [cv_sc', cv_scr', e j]
  grind⟩
def spDvR : Sp := fun vs H Q _ => ∃ (p q : Addr) (as bs : List Int) (k d : Nat), vs = [.ref p, .ref q] ∧ IntsAt H p as ∧ IntsAt H q bs ∧ as ≠ [] ∧ bs ≠ [] ∧ TrimI as ∧ as.length ≤ 60 ∧ bs.length ≤ 60 ∧ (∀ n ∈ as, intBits n ≤ d) ∧ (∀ n ∈ bs, intBits n ≤ k) ∧ k + bs.length * (d + 1) + d ≤ 60000000 ∧
  ∀ (H' : Hp) (r : Bool), Same H H' → (r = true → Dv (fr as) (fr bs)) → (Pr as → Pr bs → Dv (fr as) (fr bs) → r = true) → Q (.bl r) H'
def spEu : Sp := fun vs H Q _ => ∃ (p q : Addr) (as bs : List Int) (k : Nat), vs = [.ref p, .ref q] ∧ IntsAt H p as ∧ IntsAt H q bs ∧ Pr as ∧ Pr bs ∧ as.length ≤ 60 ∧ bs.length ≤ 60 ∧ (∀ n ∈ as, intBits n ≤ k) ∧ (∀ n ∈ bs, intBits n ≤ k) ∧ (k + 3) * 3 ^ (max as.length bs.length + 1) ≤ 10000000 ∧
  ∀ (H' : Hp) (t : Addr) (ms : List Int), Same H H' → IntsAt H' t ms → Pr ms → Gc (fr as) (fr bs) (fr ms) → Q (.ref t) H'
/-- sizes along Euclid's steps -/
def EuC (la lb M : Nat) : Prop := (lb < la ∧ M * 3 ^ la ≤ 10000000) ∨ (la ≤ lb ∧ M * 3 ^ (lb + 1) ≤ 10000000)
theorem euc_start {la lb M : Nat} (h : M * 3 ^ (max la lb + 1) ≤ 10000000) : EuC la lb M := by
  by_cases c : lb < la
  · left
    refine ⟨c, Nat.le_trans (Nat.mul_le_mul_left _ (Nat.pow_le_pow_right (by decide) (by omega))) h⟩
  · right
    rw [Nat.max_eq_right (by omega)] at h
    exact ⟨by omega, h⟩
theorem three_pow : ∀ g, 1 ≤ g → g + 2 ≤ 3 ^ g
  | 1, _ => by decide
  | g + 2, _ => by
    have ih := three_pow (g + 1) (by omega)
    rw [Nat.pow_succ]
    omega
theorem euc_step {la m M : Nat} (h : EuC la (m + 1) M) (hM : 3 ≤ M) (hla : 1 ≤ la) : (M - 3) + (la - m) * (M - 3 + 1) + (M - 3) ≤ 60000000 ∧ ∃ M', M ≤ M' ∧ (M - 3) + (la - m) * (M - 3 + 1) + 3 ≤ M' ∧ ∀ lb', lb' ≤ m → EuC (m + 1) lb' M' := by
  rcases h with ⟨h1, h2⟩ | ⟨h1, h2⟩
  · obtain ⟨g, hg⟩ : ∃ g, la = m + 1 + g := ⟨la - (m + 1), by omega⟩
    subst hg
    have hg1 : 1 ≤ g := by omega
    have e3 := three_pow g hg1
    have e1 : m + 1 + g - m = g + 1 := by omega
    rw [e1]
    have key : (g + 2) * M * 3 ^ (m + 1) ≤ 10000000 := by
      refine Nat.le_trans ?_ h2
      rw [Nat.pow_add 3 (m + 1) g]
      have := Nat.mul_le_mul_right (M * 3 ^ (m + 1)) e3
      have a1 : (g + 2) * M * 3 ^ (m + 1) = (g + 2) * (M * 3 ^ (m + 1)) := Nat.mul_assoc _ _ _
      have a2 : M * (3 ^ (m + 1) * 3 ^ g) = 3 ^ g * (M * 3 ^ (m + 1)) := by rw [Nat.mul_comm (3 ^ g), Nat.mul_assoc]
      omega
    have p1 : 1 ≤ 3 ^ (m + 1) := Nat.pow_pos (by decide)
    have big : (g + 2) * M ≤ 10000000 := Nat.le_trans (Nat.le_mul_of_pos_right _ p1) key
    have b1 : (g + 1) * (M - 3 + 1) ≤ (g + 1) * M := Nat.mul_le_mul_left _ (by omega)
    have b2 : (g + 2) * M = (g + 1) * M + M := by rw [show g + 2 = g + 1 + 1 by omega, Nat.add_mul _ 1, Nat.one_mul]
    refine ⟨by omega, (g + 2) * M, by omega, by omega, fun lb' hlb => .inl ⟨by omega, key⟩⟩
  · have p1 : 1 ≤ 3 ^ (m + 1) := Nat.pow_pos (by decide)
    have e0 : M * 3 ^ (m + 1 + 1) = 3 * (M * 3 ^ (m + 1)) := by rw [Nat.pow_succ 3 (m + 1), Nat.mul_comm (3 ^ (m + 1)) 3, Nat.mul_left_comm]
    have e1 := Nat.le_mul_of_pos_right M (show 0 < 3 ^ (m + 1) by omega)
    have e2 : la - m ≤ 1 := by omega
    have e3 : (la - m) * (M - 3 + 1) ≤ 1 * (M - 3 + 1) := Nat.mul_le_mul_right _ e2
    refine ⟨by omega, 2 * M, by omega, by omega, fun lb' hlb => .inl ⟨by omega, ?_⟩⟩
    rw [Nat.mul_assoc]
    omega
section
variable {P : Program} {w : World} {K : PySem.W.Frag} {mg : Str → Option Value} {base : Heap} {C Z CP : Addr}
abbrev nDvR : List Str := ["a", "b"]
theorem scDvR : FnScope nDvR ["a", "b"] (defScope sDvR) := ⟨rfl, rfl, rfl, by decide +kernel, rfl, by decide +kernel, by decide +kernel⟩
theorem ok_dvr {f fL : Addr} {fd fdL : FuncData} (F : Fun K "divides_row" "divides_row" sDvR f fd) (T : TxL K mg)
    (GL : FnOk P w K mg base CX0 41 fL fdL ["a", "b"] spLd) (kL : PySem.W.keepIn K (.ref fL) = true) (bL : Binds K fdL ["a", "b"] []) (gL : mg "long_division" = some (.ref fL)) : FnOk P w K mg base CX0 42 f fd ["a", "b"] spDvR := by
  refine F.ok scDvR (fun vs H Q E h => ?_) (fun cdv A outer s H vs Q E hr h => ?_)
  · obtain ⟨p, q, as, bs, k, d, rfl, _⟩ := h
    rfl
  · obtain ⟨p, q, as, bs, kk, d, rfl, hp, hq, na, nb, ta, la, lb, ba, bb, hsz, res⟩ := h
    have h41 := hr.mono (show 41 ≤ 41 by decide)
    refine ⟨_, pss_cons (ps_if (PW.pt (pw_or (pt_cmpR op_gt (pe_callB call_len_seq (by rfl) T.len PySem.boot_len (pa_cons (pv 0) pa_nil)) (pe_callB call_len_seq (by rfl) T.len PySem.boot_len (pa_cons (pv 1) pa_nil)) (nomark _)) (pw_or1 (pt_cmpR op_ne (pe_op op_modN (pe_ix ix_seq (pv 1) (pe_un un_neg pe_int) fun _ _ => rfl) (pe_ix ix_seq (pv 0) (pe_un un_neg pe_int) fun _ _ => rfl)) pe_int (nomark _))))) (pss_one (ps_ret pe_bl)) pss_nil)
      (pss_one (ps_ret (pe_cmpR op_eq (pe_callB call_len_seq (by rfl) T.len PySem.boot_len (pa_cons (pe_ix ix_tup (pe_call GL h41 (by rfl) gL kL bL .nil pass0 (pa_cons (pv 1) (pa_cons (pv 0) pa_nil))) pe_int fun _ _ => rfl) pa_nil)) pe_int (nomark _)))), ?_⟩
    obtain ⟨n, l, hn, hl, el⟩ := pr_last na
    obtain ⟨n2, l2, hn2, hl2, el2⟩ := pr_last nb
    have l0 := ta l hl
    have no : ∀ H', Same H H' → (Pr as → Pr bs → Dv (fr as) (fr bs) → False) → Q (.bl false) H' := fun H' s f => res H' false s (fun z => by cases z) fun p1 p2 d => (f p1 p2 d).elim
    refine ⟨_, rfl, p, _, rfl, hp.sq, _, rfl, q, _, rfl, hq.sq, _, _, rfl, rfl, _, rfl, ite2 (fun c => ?_) (fun c => ?_)⟩
    · exact iteT (no H same_rfl fun p1 p2 dv => by
        have := dv.dg (dg_fr p1.ne p1.trim) (dg_fr p2.ne p2.trim)
        have c := of_decide_eq_true c
        rw [List.length_map, List.length_map] at c
        omega)
    have c : ¬ ((bs.map V.int).length : Int) < ((as.map V.int).length : Int) := fun z => c (decide_eq_true z)
    rw [List.length_map, List.length_map] at c
    refine ⟨_, rfl, _, rfl, q, _, _, .int l2, rfl, rfl, hq.sq, last_idx hl2, _, rfl, _, rfl, p, _, _, .int l, rfl, rfl, hp.sq, last_idx hl, _, _, rfl, rfl, l0, rfl, _, rfl, ite2 (fun c2 => ?_) (fun c2 => ?_)⟩
    · refine no H same_rfl fun p1 p2 dv => ?_
      obtain ⟨sq, N, hsq, eq⟩ := dv
      have isq := gauss (iz_fr bs) (iz_fr as) p1.pri hsq eq
      have D1 := dg_fr p1.ne p1.trim
      have D2 := dg_fr p2.ne p2.trim
      rw [show as.length - 1 = n by omega] at D1
      rw [show bs.length - 1 = n2 by omega] at D2
      rcases dg_or hsq with zz | ⟨i, _, di⟩
      · exact absurd (by rw [eq, show sq = fun _ => 0 from funext zz, cv_zl]) D2.t
      · have d3 := dg_cv di D1
        rw [← funext eq] at d3
        have en := dg_uniq d3 D2
        have e3 := eq n2
        rw [← en, cv_top di.s D1.s, en] at e3
        obtain ⟨y, hy⟩ := isq i
        have e4 : fr bs n2 = ((l2 : Int) : Rat) := by unfold fr; rw [el2]
        have e5 : fr as n = ((l : Int) : Rat) := by unfold fr; rw [el]
        rw [e4, e5, hy, ← Rat.intCast_mul] at e3
        have e6 : l2 = y * l := by exact_mod_cast e3
        have e7 : l2.fmod l = 0 := Int.fmod_eq_zero_of_dvd ⟨y, by rw [e6, Int.mul_comm]⟩
        simp [e7] at c2
    have sz : (bs.length - n) * (d + 1) ≤ bs.length * (d + 1) := Nat.mul_le_mul_right _ (Nat.sub_le _ _)
    refine ⟨_, rfl, _, rfl, q, p, bs, as, n, kk, d, rfl, hq, hp, hn, by rw [el]; exact l0, lb, la, bb, ba, by omega, fun H1 t lq lr qs rs c s1 ht hlq hlr hc0 hql hrl hqb hrb hcb hid hrt => ?_⟩
    refine ⟨t, _, _, _, rfl, rfl, SqT.of ht, atI_of (k := 1) rfl, lr, _, rfl, .inl (SqL.of hlr), rfl, res H1 _ s1 (fun z => ?_) (fun p1 p2 dv => ?_)⟩
    rotate_left
    · obtain ⟨sq, N, hsq, eq⟩ := dv
      have D1 := dg_fr p1.ne p1.trim
      rw [show as.length - 1 = n by omega] at D1
      have hr0 := (div_uniq (N := max N qs.length) (s := fun j => ((c : Int) : Rat) * sq j) (r := fun _ => 0) (s' := fr qs) (r' := fr rs) D1.s D1.t (fun j hj => by dsimp only; rw [hsq j (by omega)]; grind) ((fs_fr qs).mono (Nat.le_max_right _ _)) (fun _ _ => rfl) (fun j hj => fs_fr rs j (by omega)) fun j => by
        rw [cv_sc', ← eq j, ← hid j]
        grind).2
      have er : rs = [] := Classical.byContradiction fun ne => by
        have := dg_fr ne hrt
        exact this.t (hr0 _).symm
      rw [er]
      exact decide_eq_true rfl
    have z := V.int.inj (of_decide_eq_true z)
    rw [List.length_map] at z
    have er : rs = [] := List.length_eq_zero_iff.mp (by omega)
    subst er
    have hcc := cst_ne (show c ≠ 0 by omega)
    refine ⟨fun j => 1 / ((c : Int) : Rat) * fr qs j, qs.length, fun j hj => by dsimp only; rw [fs_fr qs j hj]; grind, fun j => ?_⟩
    have e := hid j
    rw [show fr [] j = 0 from rfl] at e
    rw [cv_sc']
    grind
abbrev nEu : List Str := ["a", "b", "rest"]
theorem scEu : FnScope nEu ["a", "b"] (defScope sEu) := ⟨rfl, rfl, rfl, by decide +kernel, rfl, by decide +kernel, by decide +kernel⟩
def slen (H : Hp) (y : Addr) : Nat := match H y with | some (.lst zs) => zs.length | some (.tup zs) => zs.length | _ => 0
theorem slen_of {H : Hp} {y : Addr} {ns : List Int} (h : IntsAt H y ns) : slen H y = ns.length := by
  unfold slen
  rcases h with h | h <;> rw [h] <;> dsimp only <;> rw [List.length_map]
theorem ok_eu {f fL fP : Addr} {fd fdL fdP : FuncData} (F : Fun K "euclid_divisor" "euclid_divisor" sEu f fd) (T : TxL K mg)
    (GL : FnOk P w K mg base CX0 41 fL fdL ["a", "b"] spLd) (kL : PySem.W.keepIn K (.ref fL) = true) (bL : Binds K fdL ["a", "b"] []) (gL : mg "long_division" = some (.ref fL))
    (GP : FnOk P w K mg base CX0 41 fP fdP ["row"] spPrR) (kP : PySem.W.keepIn K (.ref fP) = true) (bP : Binds K fdP ["row"] []) (gP : mg "primitive_row" = some (.ref fP)) : FnOk P w K mg base CX0 42 f fd ["a", "b"] spEu := by
  refine F.ok scEu (fun vs H Q E h => ?_) (fun cdv A outer s H vs Q E hr h => ?_)
  · obtain ⟨p, q, as, bs, k, rfl, _⟩ := h
    rfl
  · obtain ⟨p, q, as, bs, kk, rfl, hp, hq, pa, pb, la, lb, ba, bb, hsz, res⟩ := h
    have h41 := hr.mono (show 41 ≤ 41 by decide)
    refine ⟨_, pss_cons (ps_while PassesOwn.never (pt_cmpR op_gt (pe_callB call_len_seq (by rfl) T.len PySem.boot_len (pa_cons (pv 1) pa_nil)) pe_int (nomark _))
        (pss_cons (ps_set (i := 2) scEu.nd rfl (Or.inl rfl) (pe_ix ix_tup (pe_call GL h41 (by rfl) gL kL bL .nil pass0 (pa_cons (pv 0) (pa_cons (pv 1) pa_nil))) pe_int fun _ _ => rfl))
        (pss_one (ps_par (i := 0) (j := 1) rfl scEu.nd rfl rfl (by decide) rfl rfl (pa_cons (pv 1) (pa_cons (pe_call GP h41 (by rfl) gP kP bP .nil pass0 (pa_cons (pv 2) pa_nil)) pa_nil)) rfl))))
      (pss_one (ps_ret (pv 0))), ?_⟩
    refine while_by (fun σ' H' => Same H H' ∧ ∃ (u v : Addr) (xs ys : List Int) (M : Nat) (v2 : Option V), σ' = [some (.ref u), some (.ref v), v2] ∧ IntsAt H' u xs ∧ IntsAt H' v ys ∧ Pr xs ∧ (ys ≠ [] → Pr ys) ∧ xs.length ≤ 60 ∧ ys.length ≤ 60 ∧ 3 ≤ M ∧ (∀ n ∈ xs, intBits n ≤ M - 3) ∧ (∀ n ∈ ys, intBits n ≤ M - 3) ∧ EuC xs.length ys.length M ∧ ∀ g, Gc (fr xs) (fr ys) g → Gc (fr as) (fr bs) g)
      (fun σ H' => match σ[1]? with | some (some (V.ref y)) => slen H' y | _ => 0) ⟨same_rfl, p, q, as, bs, kk + 3, none, rfl, hp, hq, pa, fun _ => pb, la, lb, by omega, fun n hn => by rw [Nat.add_sub_cancel]; exact ba n hn, fun n hn => by rw [Nat.add_sub_cancel]; exact bb n hn, euc_start hsz, fun g h => h⟩ ?_ ?_
    · rintro σ H5 ⟨s5, u, v, xs, ys, M, v2, rfl, hu, hv, px, py, lx, ly, hM, bx, by_, hE, hG⟩
      refine ⟨_, rfl, v, _, rfl, hv.sq, _, _, rfl, rfl, _, rfl, ?_⟩
      rw [List.length_map]
      by_cases c : ys = []
      · subst c
        rw [show decide ((0 : Int) < ((([] : List Int).length : Nat) : Int)) = false by decide]
        refine iteF ⟨_, rfl, res H5 u xs s5 hu px (hG _ ?_)⟩
        rw [show fr [] = fun _ => 0 from funext fun j => rfl]
        exact Gc.zr
      · have py := py c
        obtain ⟨m, l, hm, hl, el⟩ := pr_last c
        have l0 := py.trim l hl
        rw [show decide ((0 : Int) < ((ys.length : Nat) : Int)) = true from decide_eq_true (by omega)]
        rw [hm] at hE
        have lx1 : 1 ≤ xs.length := List.length_pos_iff.mpr px.ne
        obtain ⟨e1, M', e2, e3, e4⟩ := euc_step hE hM lx1
        refine iteT ⟨_, rfl, _, rfl, u, v, xs, ys, m, M - 3, M - 3, rfl, hu, hv, hm, by rw [el]; exact l0, lx, ly, bx, by_, e1, fun H6 t lq lr qs rs c6 s6 ht hlq hlr hc0 hql hrl hqb hrb hcb hid hrt => ?_⟩
        refine ⟨t, _, _, _, rfl, rfl, SqT.of ht, atI_of (k := 1) rfl, ?_⟩
        refine ⟨_, rfl, _, rfl, lr, rs, M' - 3, rfl, hlr, by omega, hrt, fun n hn => by have := hrb n hn; omega, ?_, fun H7 t2 ms s7 ht2 hml hmb hmg hmp hms => ?_⟩
        · have := e4 0 (Nat.zero_le _)
          rcases this with ⟨_, h⟩ | ⟨h, _⟩
          · have p1 : 1 ≤ 3 ^ (m + 1) := Nat.pow_pos (by decide)
            have := Nat.le_mul_of_pos_right M' p1
            omega
          · omega
        obtain ⟨sc, sc0, hsc⟩ := hms
        have hcc := cst_ne (show c6 ≠ 0 by omega)
        refine ⟨_, _, rfl, ⟨(s5.trans s6).trans s7, v, t2, ys, ms, M', _, rfl, (hv.same s6).same s7, .inl ht2, py, fun hne => ⟨hne, hmg fun e => hne (List.length_eq_zero_iff.mp (by rw [hml, e]; rfl)), hmp⟩, ly, by omega, by omega, fun n hn => by have := by_ n hn; omega, fun n hn => hmb n hn, by rw [hm]; exact e4 _ (by omega), fun g h => hG g ?_⟩, ?_⟩
        · have h2 := h.scr (cst_ne sc0)
          rw [show (fun j => ((sc : Int) : Rat) * fr ms j) = fr rs from funext fun j => by
            unfold fr
            rw [hsc j, Rat.intCast_mul]] at h2
          exact Gc.step hcc (fs_fr qs) hid h2
        · show slen H7 t2 < slen H5 v
          rw [slen_of (.inl ht2), slen_of hv]
          omega
    · rintro σ H' R R' hR ⟨v, e1, p1, ys, e2, e3, i, j, e4, e5, b1, e6, h3⟩
      exact ⟨v, e1, p1, ys, e2, e3, i, j, e4, e5, b1, e6, hR _ _ h3⟩
end
end Ind

set_option Elab.async false
set_option linter.all false
set_option maxRecDepth 100000
set_option maxHeartbeats 4000000
namespace Ind
/-! ### two places with one value, and small combinations of two rows -/
theorem pig : ∀ (B : Nat) {A : Nat} (f : Nat → Nat), (∀ n, n < A → f n < B) → B < A → ∃ i j, i < j ∧ j < A ∧ f i = f j
  | 0, A, f, h, l => absurd (h 0 l) (Nat.not_lt_zero _)
  | B + 1, A, f, h, l => by
    obtain ⟨a, rfl⟩ : ∃ a, A = a + 1 := ⟨A - 1, by omega⟩
    by_cases c : ∃ i, i < a ∧ f i = f a
    · obtain ⟨i, hi, e⟩ := c
      exact ⟨i, a, hi, Nat.lt_succ_self _, e⟩
    · have ne : ∀ i, i < a → f i ≠ f a := fun i hi e => c ⟨i, hi, e⟩
      obtain ⟨i, j, hij, hj, e⟩ := pig B (A := a) (fun n => if f n = B then f a else f n) (fun n hn => by
        have h1 := h n (by omega)
        have h2 := h a (by omega)
        have h3 := ne n hn
        show (if f n = B then f a else f n) < B
        split <;> omega) (by omega)
      have h1 := ne i (by omega)
      have h2 := ne j hj
      refine ⟨i, j, hij, by omega, ?_⟩
      split at e <;> split at e <;> omega
def dig (T n t : Nat) : Nat := n / T ^ t % T
theorem dig_ext {T : Nat} (hT : 0 < T) : ∀ (N : Nat) {n m : Nat}, n < T ^ N → m < T ^ N → (∀ t, t < N → dig T n t = dig T m t) → n = m
  | 0, n, m, h1, h2, _ => by
    rw [Nat.pow_zero] at h1 h2
    omega
  | N + 1, n, m, h1, h2, h => by
    have e0 := h 0 (Nat.succ_pos _)
    unfold dig at e0
    rw [Nat.pow_zero, Nat.div_one, Nat.div_one] at e0
    have key := dig_ext hT N (n := n / T) (m := m / T) (Nat.div_lt_of_lt_mul (by rw [Nat.mul_comm]; rw [Nat.pow_succ] at h1; exact h1)) (Nat.div_lt_of_lt_mul (by rw [Nat.mul_comm]; rw [Nat.pow_succ] at h2; exact h2)) fun t ht => by
      have := h (t + 1) (by omega)
      unfold dig at this ⊢
      rw [Nat.div_div_eq_div_mul, Nat.div_div_eq_div_mul, ← Nat.pow_succ']
      exact this
    rw [← Nat.div_add_mod n T, ← Nat.div_add_mod m T, key, e0]
def code (Y : Nat) : Nat → (Nat → Int) → Nat
  | 0, _ => 0
  | M + 1, c => (c 0 + Y).toNat + (2 * Y + 1) * code Y M fun i => c (i + 1)
theorem code_lt (Y : Nat) : ∀ (M : Nat) {c : Nat → Int}, (∀ i, i < M → (c i).natAbs ≤ Y) → code Y M c < (2 * Y + 1) ^ M
  | 0, _, _ => by
    rw [Nat.pow_zero]
    exact Nat.zero_lt_one
  | M + 1, c, h => by
    have h0 := h 0 (Nat.succ_pos _)
    have ih := code_lt Y M (c := fun i => c (i + 1)) fun i hi => h (i + 1) (by omega)
    show (c 0 + Y).toNat + (2 * Y + 1) * code Y M (fun i => c (i + 1)) < _
    rw [Nat.pow_succ, Nat.mul_comm]
    have h1 : (c 0 + (Y : Int)).toNat < 2 * Y + 1 := by omega
    have h2 : (code Y M (fun i => c (i + 1)) + 1) * (2 * Y + 1) ≤ (2 * Y + 1) ^ M * (2 * Y + 1) := Nat.mul_le_mul_right _ ih
    rw [Nat.add_mul, Nat.one_mul] at h2
    omega
theorem code_inj (Y : Nat) : ∀ (M : Nat) {c d : Nat → Int}, (∀ i, i < M → (c i).natAbs ≤ Y) → (∀ i, i < M → (d i).natAbs ≤ Y) → code Y M c = code Y M d → ∀ i, i < M → c i = d i
  | 0, _, _, _, _, _, i, hi => absurd hi (Nat.not_lt_zero _)
  | M + 1, c, d, hc, hd, e, i, hi => by
    have c0 := hc 0 (Nat.succ_pos _)
    have d0 := hd 0 (Nat.succ_pos _)
    have e' : (c 0 + (Y : Int)).toNat + (2 * Y + 1) * code Y M (fun i => c (i + 1)) = (d 0 + (Y : Int)).toNat + (2 * Y + 1) * code Y M (fun i => d (i + 1)) := e
    have h1 : (c 0 + (Y : Int)).toNat < 2 * Y + 1 := by omega
    have h2 : (d 0 + (Y : Int)).toNat < 2 * Y + 1 := by omega
    have m1 := congrArg (· % (2 * Y + 1)) e'
    try simp only at m1
    rw [Nat.add_mul_mod_self_left, Nat.add_mul_mod_self_left, Nat.mod_eq_of_lt h1, Nat.mod_eq_of_lt h2] at m1
    have q1 := congrArg (· / (2 * Y + 1)) e'
    try simp only at q1
    rw [Nat.add_mul_div_left _ _ (by omega), Nat.add_mul_div_left _ _ (by omega), Nat.div_eq_of_lt h1, Nat.div_eq_of_lt h2, Nat.zero_add, Nat.zero_add] at q1
    cases i with
    | zero => omega
    | succ i => exact code_inj Y M (fun i hi => hc (i + 1) (by omega)) (fun i hi => hd (i + 1) (by omega)) q1 i (by omega)
def sI : Nat → (Nat → Int) → Int
  | 0, _ => 0
  | n + 1, f => sI n f + f n
theorem sI_bound {f : Nat → Int} {p C : Nat} (h1 : ∀ t, (f t).natAbs ≤ C) (h2 : ∀ t, p ≤ t → f t = 0) : ∀ n, (sI n f).natAbs ≤ min n p * C
  | 0 => by
    show (0 : Int).natAbs ≤ _
    exact Nat.zero_le _
  | n + 1 => by
    have ih := sI_bound h1 h2 n
    show (sI n f + f n).natAbs ≤ _
    by_cases c : p ≤ n
    · rw [h2 n c, Int.add_zero, Nat.min_eq_right (by omega)]
      rw [Nat.min_eq_right c] at ih
      exact ih
    · rw [Nat.min_eq_left (by omega)]
      rw [Nat.min_eq_left (by omega)] at ih
      have := Int.natAbs_add_le (sI n f) (f n)
      have := h1 n
      rw [Nat.add_mul, Nat.one_mul]
      omega
def cI (f g : Nat → Int) (j : Nat) : Int := sI (j + 1) fun t => f t * g (j - t)
theorem cI_bound {f g : Nat → Int} {p X A : Nat} (hf : ∀ t, (f t).natAbs ≤ X) (hp : ∀ t, p ≤ t → f t = 0) (hg : ∀ t, (g t).natAbs ≤ A) (j : Nat) : (cI f g j).natAbs ≤ p * (X * A) := by
  refine Nat.le_trans (sI_bound (p := p) (C := X * A) (fun t => ?_) (fun t ht => ?_) (j + 1)) (Nat.mul_le_mul_right _ (Nat.min_le_right _ _))
  · rw [Int.natAbs_mul]
    exact Nat.mul_le_mul (hf t) (hg _)
  · rw [hp t ht, Int.zero_mul]
theorem sI_sub (f g : Nat → Int) : ∀ n, sI n (fun t => f t - g t) = sI n f - sI n g
  | 0 => rfl
  | n + 1 => by
    show sI n (fun t => f t - g t) + (f n - g n) = sI n f + f n - (sI n g + g n)
    rw [sI_sub f g n]
    omega
theorem cI_sub (f f' g : Nat → Int) (j : Nat) : cI (fun t => f t - f' t) g j = cI f g j - cI f' g j := by
  unfold cI
  rw [← sI_sub]
  congr 1
  funext t
  exact Int.sub_mul _ _ _
def ofI (f : Nat → Int) : Fr := fun j => ((f j : Int) : Rat)
theorem sI_sum (f : Nat → Int) : ∀ n, ((sI n f : Int) : Rat) = sumTo n (ofI f)
  | 0 => rfl
  | n + 1 => by
    show ((sI n f + f n : Int) : Rat) = sumTo n (ofI f) + ofI f n
    rw [Rat.intCast_add, sI_sum f n]
    rfl
theorem cI_cv (f g : Nat → Int) (j : Nat) : ((cI f g j : Int) : Rat) = cv (ofI f) (ofI g) j := by
  unfold cI cv
  rw [sI_sum]
  congr 1
  funext t
  show ((f t * g (j - t) : Int) : Rat) = _
  rw [Rat.intCast_mul]
  rfl
/-- a combination that vanishes above a place, with a small item there -/
theorem sig {a b : Nat → Int} {p q d A : Nat} (ha : ∀ j, (a j).natAbs ≤ A) (hb : ∀ j, (b j).natAbs ≤ A) (hN : 0 < p + q) :
    ∃ u v : Nat → Int, (∀ t, p ≤ t → u t = 0) ∧ (∀ t, q ≤ t → v t = 0) ∧ ((∃ t, u t ≠ 0) ∨ ∃ t, v t ≠ 0) ∧ (∀ i, d < i → i < d + (p + q) → cI u a i + cI v b i = 0) ∧ (cI u a d + cI v b d).natAbs ≤ 2 * ((p + q) * ((2 * ((p + q) * A) + 1) ^ (p + q - 1) * A)) := by
  obtain ⟨N, hNe⟩ : ∃ N, p + q = N + 1 := ⟨p + q - 1, by omega⟩
  obtain ⟨T, hT⟩ : ∃ T, T = (2 * ((p + q) * A) + 1) ^ N + 1 := ⟨_, rfl⟩
  obtain ⟨X, hX⟩ : ∃ X, X = (2 * ((p + q) * A) + 1) ^ N := ⟨_, rfl⟩
  have T1 : T = X + 1 := by rw [hT, hX]
  have X1 : 0 < X := by rw [hX]; exact Nat.pow_pos (by omega)
  obtain ⟨uu, huu⟩ : ∃ uu : Nat → Nat → Int, uu = fun n t => if t < p then ((dig T n t : Nat) : Int) else 0 := ⟨_, rfl⟩
  obtain ⟨vv, hvv⟩ : ∃ vv : Nat → Nat → Int, vv = fun n t => if t < q then ((dig T n (p + t) : Nat) : Int) else 0 := ⟨_, rfl⟩
  have dX : ∀ n t, dig T n t ≤ X := fun n t => by
    have : dig T n t < T := Nat.mod_lt _ (by omega)
    omega
  have bu : ∀ n t, (uu n t).natAbs ≤ X := fun n t => by
    rw [huu]
    have := dX n t
    dsimp only
    split <;> omega
  have bv : ∀ n t, (vv n t).natAbs ≤ X := fun n t => by
    rw [hvv]
    have := dX n (p + t)
    dsimp only
    split <;> omega
  have zu : ∀ n t, p ≤ t → uu n t = 0 := fun n t h => by
    rw [huu]
    exact if_neg (by omega)
  have zv : ∀ n t, q ≤ t → vv n t = 0 := fun n t h => by
    rw [hvv]
    exact if_neg (by omega)
  obtain ⟨Y, hY⟩ : ∃ Y, Y = (p + q) * (X * A) := ⟨_, rfl⟩
  obtain ⟨L, hL⟩ : ∃ L : Nat → Nat → Int, L = fun n i => cI (uu n) a i + cI (vv n) b i := ⟨_, rfl⟩
  have bL : ∀ n i, (L n i).natAbs ≤ Y := fun n i => by
    rw [hL]
    have h1 := cI_bound (bu n) (zu n) ha i
    have h2 := cI_bound (bv n) (zv n) hb i
    have h3 := Int.natAbs_add_le (cI (uu n) a i) (cI (vv n) b i)
    rw [hY, Nat.add_mul]
    dsimp only
    omega
  have W : (2 * Y + 1) ^ N < T ^ (N + 1) := by
    have h1 : 2 * Y + 1 ≤ (2 * ((p + q) * A) + 1) * X := by
      have e : 2 * Y = 2 * ((p + q) * A) * X := by
        rw [hY, Nat.mul_comm X A, ← Nat.mul_assoc (p + q) A X, Nat.mul_assoc 2]
      rw [Nat.add_mul, Nat.one_mul, e]
      omega
    have h2 : (2 * Y + 1) ^ N ≤ ((2 * ((p + q) * A) + 1) * X) ^ N := Nat.pow_le_pow_left h1 N
    rw [Nat.mul_pow, ← hX] at h2
    have h3 : X * X ^ N = X ^ (N + 1) := by rw [Nat.pow_succ, Nat.mul_comm]
    have h4 : X ^ (N + 1) < T ^ (N + 1) := Nat.pow_lt_pow_left (by omega) (by omega)
    omega
  obtain ⟨n1, n2, h12, h2A, ec⟩ := pig ((2 * Y + 1) ^ N) (A := T ^ (N + 1)) (fun n => code Y N fun i => L n (d + 1 + i)) (fun n _ => code_lt Y N fun i _ => bL n _) W
  have eL := code_inj Y N (fun i _ => bL n1 _) (fun i _ => bL n2 _) ec
  have nd : ¬ ∀ t, t < N + 1 → dig T n1 t = dig T n2 t := fun h => by
    have := dig_ext (T := T) (by omega) (N + 1) (Nat.lt_trans h12 h2A) h2A h
    omega
  have sL : ∀ i, cI (fun t => uu n1 t - uu n2 t) a i + cI (fun t => vv n1 t - vv n2 t) b i = L n1 i - L n2 i := fun i => by
    rw [cI_sub, cI_sub, hL]
    dsimp only
    omega
  refine ⟨fun t => uu n1 t - uu n2 t, fun t => vv n1 t - vv n2 t, fun t h => ?_, fun t h => ?_, ?_, fun i h1 h2 => ?_, ?_⟩
  · dsimp only
    rw [zu n1 t h, zu n2 t h]
    rfl
  · dsimp only
    rw [zv n1 t h, zv n2 t h]
    rfl
  · refine Classical.byContradiction fun z => nd fun t ht => ?_
    have zu' : ∀ t, uu n1 t = uu n2 t := fun t => Classical.byContradiction fun w => z (.inl ⟨t, by dsimp only; omega⟩)
    have zv' : ∀ t, vv n1 t = vv n2 t := fun t => Classical.byContradiction fun w => z (.inr ⟨t, by dsimp only; omega⟩)
    by_cases c : t < p
    · have := zu' t
      rw [huu] at this
      dsimp only at this
      rw [if_pos c, if_pos c] at this
      omega
    · have := zv' (t - p)
      rw [hvv] at this
      dsimp only at this
      rw [if_pos (by omega), if_pos (by omega), show p + (t - p) = t by omega] at this
      omega
  · rw [sL]
    have := eL (i - (d + 1)) (by omega)
    rw [show d + 1 + (i - (d + 1)) = i by omega] at this
    omega
  · rw [sL, show p + q - 1 = N by omega, ← hX, ← hY]
    have h1 := bL n1 d
    have h2 := bL n2 d
    omega
end Ind

set_option Elab.async false
set_option linter.all false
set_option maxRecDepth 100000
set_option maxHeartbeats 4000000
set_option exponentiation.threshold 20000
namespace Ind
open PySem PySem.Spec PyProof.Rows L2
open Builtin.Int (intBits)
theorem iz_ofI (f : Nat → Int) : Iz (ofI f) := fun j => ⟨f j, rfl⟩
theorem fr_ofI (as : List Int) : fr as = ofI fun j => as.getD j 0 := rfl
theorem Pq.not_one {m : Int} (hm : Prm m) : ¬ Pq m (1 : Rat) := fun z => by
  have := Pq.int (z := 1) z
  have := Int.le_of_dvd (by decide) this
  have := hm.big
  omega
theorem sig_size {S N kk : Nat} (hS : (N + 2) * (kk + 8) ≤ S) (hN : N ≤ 120) (h0 : 0 < N) : 2 * (N * ((2 * (N * 2 ^ kk) + 1) ^ (N - 1) * 2 ^ kk)) < 2 ^ S := by
  have p0 : 0 < 2 ^ kk := Nat.pow_pos (by decide)
  have e8 : 2 ^ (kk + 8) = 2 ^ kk * 256 := by rw [Nat.pow_add]
  have h1 : 2 * (N * 2 ^ kk) + 1 ≤ 2 ^ (kk + 8) := by
    have := Nat.mul_le_mul_right (2 ^ kk) hN
    omega
  have h2 := Nat.pow_le_pow_left h1 (N - 1)
  have h3 : 2 * (N * 2 ^ kk) ≤ 2 ^ (kk + 8) := by omega
  have h4 := Nat.mul_le_mul h2 h3
  have e1 : 2 * (N * ((2 * (N * 2 ^ kk) + 1) ^ (N - 1) * 2 ^ kk)) = (2 * (N * 2 ^ kk) + 1) ^ (N - 1) * (2 * (N * 2 ^ kk)) := by
    rw [Nat.mul_left_comm N, Nat.mul_left_comm 2]
  have e2 : (2 ^ (kk + 8)) ^ (N - 1) * 2 ^ (kk + 8) = 2 ^ ((kk + 8) * N) := by
    rw [← Nat.pow_succ, Nat.succ_eq_add_one, show N - 1 + 1 = N by omega, ← Nat.pow_mul]
  have e3 : (kk + 8) * N < S := by
    rw [Nat.add_mul, Nat.mul_comm N] at hS
    omega
  have := Nat.pow_lt_pow_right (show 1 < 2 by decide) e3
  omega
/-- modulo a great prime a common divisor is no longer than over the whole numbers -/
theorem sig_mod {as bs : List Int} {h rs : Fr} {k r kk : Nat} {m : Int} (pa : Pr as) (pb : Pr bs) (G : Gc (fr as) (fr bs) h) (ih : Iz h) (pr : Pri h) (dh : Dg h k) (ba : ∀ n ∈ as, intBits n ≤ kk) (bb : ∀ n ∈ bs, intBits n ≤ kk) (la : as.length ≤ 60) (lb : bs.length ≤ 60)
    (hsz : (as.length + bs.length) * (kk + 8) ≤ 9600) (hm : Prm m) (hbig : ∀ x : Int, x ≠ 0 → x.natAbs < 2 ^ 9600 → ¬ m ∣ x) (irs : Iz rs) (drs : Fs rs (r + 1)) (t1 : rs r = 1) (h1 : Md m rs (fr as)) (h2 : Md m rs (fr bs)) : r ≤ k := by
  have Da := dg_fr pa.ne pa.trim
  have Db := dg_fr pb.ne pb.trim
  have la1 := List.length_pos_iff.mpr pa.ne
  have lb1 := List.length_pos_iff.mpr pb.ne
  obtain ⟨s, Ns, hs, es⟩ := id G.l
  obtain ⟨t, Nt, ht, et⟩ := id G.r
  have is := gauss (iz_fr as) ih pr hs es
  have it := gauss (iz_fr bs) ih pr ht et
  have nt1 : ¬ Pq m (rs r) := by
    rw [t1]
    exact Pq.not_one hm
  have bA : ∀ (xs : List Int), (∀ n ∈ xs, intBits n ≤ kk) → ∀ j, (xs.getD j 0).natAbs ≤ 2 ^ kk := fun xs h j => Nat.le_of_lt (PySem.intBits_le_iff.mp (bits_getD h j))
  have kk96 : kk ≤ 9600 := by
    have := Nat.mul_le_mul_right (kk + 8) (show 1 ≤ as.length + bs.length by omega)
    omega
  -- the degrees of the quotients
  obtain ⟨ds, Ds⟩ : ∃ ds, Dg s ds := by
    rcases dg_or hs with z | ⟨i, _, di⟩
    · exact absurd (by rw [es, show s = fun _ => 0 from funext z, cv_zl]) Da.t
    · exact ⟨i, di⟩
  obtain ⟨dt, Dt⟩ : ∃ dt, Dg t dt := by
    rcases dg_or ht with z | ⟨i, _, di⟩
    · exact absurd (by rw [et, show t = fun _ => 0 from funext z, cv_zl]) Db.t
    · exact ⟨i, di⟩
  have eda : ds + k = as.length - 1 := by
    have := dg_cv Ds dh
    rw [← funext es] at this
    exact dg_uniq this Da
  have edb : dt + k = bs.length - 1 := by
    have := dg_cv Dt dh
    rw [← funext et] at this
    exact dg_uniq this Db
  by_cases hN : 0 < dt + ds
  rotate_left
  · -- one row is a multiple of the divisor by a number
    have := mod_deg hm irs drs nt1 Da.s (fun z => by
      obtain ⟨y, hy⟩ : ∃ y : Int, fr as (as.length - 1) = ((y : Int) : Rat) := iz_fr as _
      rw [hy] at z
      refine hbig y (fun e => Da.t (by rw [hy, e]; rfl)) ?_ z.int
      have e2 : y = as.getD (as.length - 1) 0 := by
        have : ((y : Int) : Rat) = ((as.getD (as.length - 1) 0 : Int) : Rat) := hy.symm
        exact_mod_cast this
      rw [e2]
      exact Nat.lt_of_lt_of_le (PySem.intBits_le_iff.mp (bits_getD ba _)) (Nat.pow_le_pow_right (by decide) kk96)) h1
    omega
  have hNN : dt + ds + 2 ≤ as.length + bs.length := by omega
  obtain ⟨u, v, hu, hv, huv, hz, hb⟩ := sig (p := dt) (q := ds) (d := k) (bA as ba) (bA bs bb) hN
  have key : ∀ i, ((cI u (fun j => as.getD j 0) i + cI v (fun j => bs.getD j 0) i : Int) : Rat) = cv (fun j => cv (ofI u) s j + cv (ofI v) t j) h i := fun i => by
    rw [Rat.intCast_add, cI_cv, cI_cv, ← fr_ofI, ← fr_ofI, cv_addl, cv_assoc, cv_assoc, ← show fr as = cv s h from funext es, ← show fr bs = cv t h from funext et]
  have fu : Fs (ofI u) dt := fun j hj => by
    show ((u j : Int) : Rat) = 0
    rw [hu j hj]
    rfl
  have fv : Fs (ofI v) ds := fun j hj => by
    show ((v j : Int) : Rat) = 0
    rw [hv j hj]
    rfl
  have fw : Fs (fun j => cv (ofI u) s j + cv (ofI v) t j) (dt + ds) := fun j hj => by
    dsimp only
    have z1 : cv (ofI u) s j = 0 := by
      rcases Nat.eq_zero_or_pos dt with e | e
      · rw [show ofI u = fun _ => 0 from funext fun j => fu j (by omega), cv_zl]
      · obtain ⟨d', rfl⟩ : ∃ d', dt = d' + 1 := ⟨dt - 1, by omega⟩
        exact cv_out1 fu Ds.s j (by omega)
    have z2 : cv (ofI v) t j = 0 := by
      rcases Nat.eq_zero_or_pos ds with e | e
      · rw [show ofI v = fun _ => 0 from funext fun j => fv j (by omega), cv_zl]
      · obtain ⟨d', rfl⟩ : ∃ d', ds = d' + 1 := ⟨ds - 1, by omega⟩
        exact cv_out1 fv Dt.s j (by omega)
    rw [z1, z2]
    grind
  rcases dg_or fw with z | ⟨e, he, De⟩
  · -- the combination cannot vanish
    exfalso
    obtain ⟨U, V, N, hU, hV, eg⟩ := G.m
    have one : ∀ j, cv U s j + cv V t j = one1 j := by
      have := cancel (u := one1) (v := fun j => cv U s j + cv V t j) (N := max 1 (max (N + (ds + 1)) (N + (dt + 1)))) dh.s dh.t (fs_one.mono (Nat.le_max_left _ _)) (fun j hj => by
        show cv U s j + cv V t j = 0
        rw [cv_out hU Ds.s j (by omega), cv_out hV Dt.s j (by omega)]
        grind) fun j => by
        rw [cv_one, cv_addl, cv_assoc, cv_assoc, ← show fr as = cv s h from funext es, ← show fr bs = cv t h from funext et]
        exact eg j
      exact fun j => (this j).symm
    have eus : cv (ofI u) s = fun j => -1 * cv (ofI v) t j := funext fun j => by
      have := z j
      try dsimp only at this
      grind
    have du : Dv t (ofI u) := by
      refine ⟨fun j => -1 * cv U (ofI v) j + cv V (ofI u) j, max (N + ds) (N + dt), fun j hj => ?_, fun j => ?_⟩
      · dsimp only
        rw [cv_out hU fv j (by omega), cv_out hV fu j (by omega)]
        grind
      · have e1 : ofI u = cv (fun j => cv U s j + cv V t j) (ofI u) := by
          rw [show (fun j => cv U s j + cv V t j) = one1 from funext one]
          exact funext fun j => (cv_one _ j).symm
        have e2 : cv (fun j => cv U s j + cv V t j) (ofI u) j = cv U (cv (ofI u) s) j + cv (cv V (ofI u)) t j := by
          rw [cv_addl, cv_assoc, cv_assoc, cv_assoc, show cv s (ofI u) = cv (ofI u) s from funext fun j => cv_comm _ _ j, show cv t (ofI u) = cv (ofI u) t from funext fun j => cv_comm _ _ j]
        rw [cv_addl, cv_sc', cv_assoc U (ofI v) t]
        have e3 := congrFun e1 j
        rw [e2, eus, cv_scr'] at e3
        exact e3
    have u0 : ∀ j, ofI u j = 0 := by
      rcases dg_or fu with zz | ⟨i, hi, di⟩
      · exact zz
      · have := du.dg Dt di
        omega
    have v0 : ∀ j, ofI v j = 0 := by
      rcases dg_or fv with zz | ⟨i, hi, di⟩
      · exact zz
      · exfalso
        apply (dg_cv di Dt).t
        have := z (i + dt)
        try dsimp only at this
        rw [show ofI u = fun _ => 0 from funext u0, cv_zl] at this
        grind
    rcases huv with ⟨j, hj⟩ | ⟨j, hj⟩
    · exact hj (by have := u0 j; unfold ofI at this; exact_mod_cast this)
    · exact hj (by have := v0 j; unfold ofI at this; exact_mod_cast this)
  · have Dw := dg_cv De dh
    have e0 : e = 0 := by
      refine Classical.byContradiction fun ne => Dw.t ?_
      rw [← key, hz (e + k) (by omega) (by omega)]
      rfl
    subst e0
    rw [Nat.zero_add] at Dw
    refine mod_deg hm irs drs nt1 Dw.s (fun z => ?_) ((((h1.mul (iz_ofI u) fu)).add (h2.mul (iz_ofI v) fv)).cong fun j => ?_)
    · rw [← key] at z
      have n0 : cI u (fun j => as.getD j 0) k + cI v (fun j => bs.getD j 0) k ≠ 0 := fun e => Dw.t (by rw [← key, e]; rfl)
      refine hbig _ n0 (Nat.lt_of_le_of_lt hb (sig_size (N := dt + ds) (Nat.le_trans (Nat.mul_le_mul_right _ hNN) hsz) (by omega) hN)) z.int
    · dsimp only
      rw [cv_addl, cv_assoc, cv_assoc, ← show fr as = cv s h from funext es, ← show fr bs = cv t h from funext et, show cv (ofI u) (fr as) j + cv (ofI v) (fr bs) j - (cv (ofI u) (fr as) j + cv (ofI v) (fr bs) j) = 0 by grind]
      exact Pq.zero m
end Ind

set_option Elab.async false
set_option linter.all false
set_option maxRecDepth 100000
set_option maxHeartbeats 4000000
set_option exponentiation.threshold 20000
namespace Ind
open PySem PySem.Spec PyProof.Rows L2
open Builtin.Int (intBits)
theorem div_nat {as : List Int} {h s : Fr} {k kk N : Nat} (pa : Pr as) (ba : ∀ n ∈ as, intBits n ≤ kk) (la : as.length ≤ 60) (ih : Iz h) (dh : Dg h k) (is : Iz s) (hs : Fs s N) (e : ∀ j, fr as j = cv s h j) {j : Nat} {y : Int} (hy : h j = ((y : Int) : Rat)) : y.natAbs < 2 ^ (kk + 16 * as.length) := by
  have da := dg_fr pa.ne pa.trim
  have hkl : k ≤ as.length - 1 := Dv.dg dh da ⟨s, N, hs, e⟩
  have l1 := List.length_pos_iff.mpr pa.ne
  have hA : ∀ j, Bdr (fr as j) (((2 ^ kk : Nat) : Int) : Rat) := fun j => by
    have h1 := PySem.intBits_le_iff.mp (bits_getD ba j)
    unfold fr Bdr
    have h2 : -((2 ^ kk : Nat) : Int) ≤ as.getD j 0 := by omega
    have h3 : as.getD j 0 ≤ ((2 ^ kk : Nat) : Int) := by omega
    have h4 := Rat.intCast_le_intCast.mpr h2
    have h5 := Rat.intCast_le_intCast.mpr h3
    rw [Rat.intCast_neg] at h4
    exact ⟨h4, h5⟩
  have hb := div_bits hA da ih dh is hs e (by omega) j
  unfold Bdr at hb
  rw [hy] at hb
  obtain ⟨b1, b2⟩ := hb
  have e2 : (256 ^ k * (2 ^ kk * 128 ^ (as.length - 1 + 1)) : Nat) = 2 ^ (8 * k + (kk + 7 * (as.length - 1 + 1))) := by
    rw [show (256 : Nat) = 2 ^ 8 by decide, show (128 : Nat) = 2 ^ 7 by decide, ← Nat.pow_mul, ← Nat.pow_mul, ← Nat.pow_add, ← Nat.pow_add]
  rw [e2] at b1 b2
  rw [← Rat.intCast_neg] at b1
  have c1 := Rat.intCast_le_intCast.mp b1
  have c2 := Rat.intCast_le_intCast.mp b2
  have c3 : y.natAbs ≤ 2 ^ (8 * k + (kk + 7 * (as.length - 1 + 1))) := by omega
  exact Nat.lt_of_le_of_lt c3 (Nat.pow_lt_pow_right (by decide) (by omega))
/-- the lift of a common divisor modulo a great prime -/
theorem sig_lift {as bs rs zs : List Int} {h : Fr} {k kk : Nat} {m sc la lb : Int} (pa : Pr as) (pb : Pr bs) (G : Gc (fr as) (fr bs) h) (ih : Iz h) (pr : Pri h) (dh : Dg h k) (ba : ∀ n ∈ as, intBits n ≤ kk) (hl60 : as.length ≤ 60) (hsz : 2 * kk + 16 * as.length + 2 ≤ 9600) (hm : Prm m) (hmb : 2 ^ 9600 ≤ m.natAbs)
    (hla : as.getLast? = some la) (hlb : bs.getLast? = some lb) (hml : ¬ m ∣ la) (hrl : rs.length = k + 1) (hr1 : rs.getD k 0 = 1) (hdn : ∀ (g : Fr) (N : Nat), Iz g → Fs g N → Md m g (fr as) → Md m g (fr bs) → Md m g (fr rs)) (hsc : ((Nat.gcd la.natAbs lb.natAbs : Nat) : Int) = sc) (s0 : sc ≠ 0) (sb : intBits sc ≤ kk)
    (hzl : zs.length = rs.length) (hz : ∀ j, j < rs.length → m ∣ zs.getD j 0 - sc * rs.getD j 0 ∧ 2 * (zs.getD j 0).natAbs ≤ m.natAbs) : ∃ c : Rat, c ≠ 0 ∧ ∀ j, fr zs j = c * h j := by
  have Da := dg_fr pa.ne pa.trim
  have Db := dg_fr pb.ne pb.trim
  obtain ⟨s, Ns, hs, es⟩ := id G.l
  obtain ⟨t, Nt, ht, et⟩ := id G.r
  have is := gauss (iz_fr as) ih pr hs es
  have it := gauss (iz_fr bs) ih pr ht et
  obtain ⟨Hf, hHf⟩ : ∃ Hf : Nat → Int, ∀ j, h j = ((Hf j : Int) : Rat) := ⟨fun j => (ih j).choose, fun j => (ih j).choose_spec⟩
  have lcdvd : ∀ (xs : List Int) (l : Int) (q : Fr) (N : Nat), Pr xs → xs.getLast? = some l → Iz q → Fs q N → (∀ j, fr xs j = cv q h j) → Hf k ∣ l := fun xs l q N px hl iq hq e => by
    obtain ⟨n, l2, hn, hl2, el2⟩ := pr_last px.ne
    have : l2 = l := by rw [hl2] at hl; exact Option.some.inj hl
    subst this
    have dx := dg_fr px.ne px.trim
    rw [show xs.length - 1 = n by omega] at dx
    rcases dg_or hq with zz | ⟨i, _, di⟩
    · exact absurd (by rw [e, show q = fun _ => 0 from funext zz, cv_zl]) dx.t
    · have d2 := dg_cv di dh
      rw [← funext e] at d2
      have en := dg_uniq d2 dx
      have e3 := e n
      rw [← en, cv_top di.s dh.s, en] at e3
      have e4 : fr xs n = ((l2 : Int) : Rat) := by unfold fr; rw [el2]
      obtain ⟨y, hy⟩ := iq i
      rw [e4, hy, hHf k, ← Rat.intCast_mul] at e3
      have e5 : l2 = y * Hf k := by exact_mod_cast e3
      exact ⟨y, by rw [e5, Int.mul_comm]⟩
  have d1 := lcdvd as la s Ns pa hla is hs es
  have d2 := lcdvd bs lb t Nt pb hlb it ht et
  obtain ⟨c, hc⟩ : Hf k ∣ sc := by
    rw [← hsc]
    refine Int.natAbs_dvd_natAbs.mp ?_
    rw [Int.natAbs_natCast]
    exact Nat.dvd_gcd (Int.natAbs_dvd_natAbs.mpr d1) (Int.natAbs_dvd_natAbs.mpr d2)
  have c0 : c ≠ 0 := fun z => s0 (by rw [hc, z, Int.mul_zero])
  have nhk : ¬ Pq m (h k) := fun z => by
    rw [hHf k] at z
    exact hml (Int.dvd_trans z.int d1)
  obtain ⟨e, N, ie, he, pe⟩ := hdn h _ ih dh.s (Md.of is hs es) (Md.of it ht et)
  have rs1 : fr rs k = 1 := by
    unfold fr
    rw [hr1]
    rfl
  have npe : ¬ Pd m e := fun z => by
    have h1 := Pd.cvl z ih k
    have h2 := (pe k).add h1
    dsimp only at h2
    rw [show fr rs k - cv e h k + cv e h k = fr rs k by grind, rs1] at h2
    exact Pq.not_one hm h2
  obtain ⟨t0, ht1, hl⟩ := top_ex he npe
  have t00 : t0 = 0 := Classical.byContradiction fun ne => by
    have h2 := pe (t0 + k)
    dsimp only at h2
    rw [fs_fr rs (t0 + k) (by omega)] at h2
    have h3 : Pq m (cv e h (t0 + k)) := by
      have := h2.neg
      rwa [show -(0 - cv e h (t0 + k)) = cv e h (t0 + k) by grind] at this
    have h4 : Pq m (e t0 * h (t0 + k - t0)) := Pq.one (f := fun x => e x * h (t0 + k - x)) (i := t0) (n := t0 + k + 1) (by omega) (fun j hj hne => by
      by_cases c2 : t0 < j
      · exact (hl j c2).mulr (ih _)
      · rw [dh.s (t0 + k - j) (by omega)]
        rw [show e j * 0 = 0 by grind]
        exact Pq.zero m) h3
    rw [show t0 + k - t0 = k by omega] at h4
    rcases hm.orq (ie t0) (ih k) h4 with z | z
    · exact ht1 z
    · exact nhk z
  subst t00
  have near : ∀ j, Pq m (fr rs j - e 0 * h j) := fun j => by
    have h1 : Pd m fun x => e x - (if x = 0 then e 0 else 0) := fun x => by
      dsimp only
      by_cases z : x = 0
      · rw [if_pos z, z, show e 0 - e 0 = 0 by grind]
        exact Pq.zero m
      · rw [if_neg z, show e x - 0 = e x by grind]
        exact hl x (by omega)
    have h2 := Pd.cvl h1 ih j
    have e1 : cv (fun x => e x - (if x = 0 then e 0 else 0)) h j = cv e h j - e 0 * h j := by
      have e2 : (fun x => e x - (if x = 0 then e 0 else 0)) = fun x => e x + (-1) * (fun y => if y = 0 then e 0 else 0) x := funext fun x => by dsimp only; grind
      rw [e2, cv_addl, cv_sc', d0_one]
      grind
    rw [e1] at h2
    have h3 := (pe j).add h2
    dsimp only at h3
    rwa [show fr rs j - cv e h j + (cv e h j - e 0 * h j) = fr rs j - e 0 * h j by grind] at h3
  obtain ⟨E, hE⟩ := ie 0
  have dk : m ∣ 1 - E * Hf k := by
    have := near k
    rw [rs1, hE, hHf k] at this
    rw [← Rat.intCast_mul] at this
    have e1 : (1 : Rat) - ((E * Hf k : Int) : Rat) = ((1 - E * Hf k : Int) : Rat) := by
      rw [Rat.intCast_sub]
      rfl
    rw [e1] at this
    exact this.int
  have dj : ∀ j, m ∣ rs.getD j 0 - E * Hf j := fun j => by
    have := near j
    rw [hE, hHf j, ← Rat.intCast_mul] at this
    unfold fr at this
    rw [← Rat.intCast_sub] at this
    exact this.int
  refine ⟨((c : Int) : Rat), cst_ne c0, fun j => ?_⟩
  by_cases hj : j < rs.length
  rotate_left
  · rw [fs_fr zs j (by omega), dh.s j (by omega)]
    grind
  obtain ⟨z1, z2⟩ := hz j hj
  have cong : m ∣ zs.getD j 0 - c * Hf j := by
    obtain ⟨y1, h1⟩ := z1
    obtain ⟨y2, h2⟩ := dj j
    obtain ⟨y3, h3⟩ := dk
    refine ⟨y1 + sc * y2 - c * Hf j * y3, ?_⟩
    have e1 : zs.getD j 0 = m * y1 + sc * rs.getD j 0 := by omega
    have e2 : rs.getD j 0 = m * y2 + E * Hf j := by omega
    have e3 : E * Hf k = 1 - m * y3 := by omega
    rw [e1, e2, hc]
    have e4 : Hf k * c * (m * y2 + E * Hf j) = Hf k * c * (m * y2) + c * Hf j * (E * Hf k) := by grind
    rw [e4, e3]
    grind
  have bH := div_nat pa ba hl60 ih dh is hs es (hHf j)
  have bc : c.natAbs < 2 ^ kk := by
    have h1 := PySem.intBits_le_iff.mp sb
    rw [hc, Int.natAbs_mul] at h1
    have hk0 : Hf k ≠ 0 := fun z => dh.t (by rw [hHf k, z]; rfl)
    have := Nat.le_mul_of_pos_left c.natAbs (show 0 < (Hf k).natAbs by omega)
    omega
  have bcH : 2 * (c * Hf j).natAbs < m.natAbs := by
    rw [Int.natAbs_mul]
    have h1 := Nat.mul_lt_mul'' bc bH
    rw [← Nat.pow_add] at h1
    have h2 : 2 ^ (kk + (kk + 16 * as.length)) * 2 ≤ 2 ^ 9600 := by
      rw [← Nat.pow_succ]
      exact Nat.pow_le_pow_right (by decide) (by omega)
    omega
  have eq : zs.getD j 0 = c * Hf j := by
    have h1 : (zs.getD j 0 - c * Hf j).natAbs < m.natAbs := by
      have := Int.natAbs_sub_le (zs.getD j 0) (c * Hf j)
      omega
    have := Int.eq_zero_of_dvd_of_natAbs_lt_natAbs cong h1
    omega
  unfold fr
  rw [eq, hHf j, Rat.intCast_mul]
end Ind

set_option Elab.async false
set_option linter.all false
set_option maxRecDepth 100000
set_option maxHeartbeats 4000000
set_option exponentiation.threshold 20000
namespace Ind
open PySem PySem.Spec PyProof.Rows L2
open Builtin.Int (intBits)
abbrev sRowD : Stmt := top 26
/-- the greatest common divisor as a primitive row of whole numbers -/
theorem gc_pri {a b : Fr} {n m : Nat} (ha : Fs a n) (hb : Dg b m) : ∃ h k, Iz h ∧ Pri h ∧ Dg h k ∧ Gc a b h := by
  obtain ⟨g, k, dg, G⟩ := gc_ex m a b n ha hb
  obtain ⟨D, d0, iD⟩ := den_row dg.s
  have hD : ((D : Int) : Rat) ≠ 0 := cst_ne (by omega)
  obtain ⟨z, hz⟩ := iD k
  obtain ⟨c, h, hc, ih, pr, e⟩ := pri_ex _ (fun j => ((D : Int) : Rat) * g j) k iD (dg_sc dg hD) ⟨z, hz, rfl⟩
  have eh : h = fun j => (((D : Int) : Rat) / c) * g j := funext fun j => by
    have := e j
    grind
  have hc2 : ((D : Int) : Rat) / c ≠ 0 := fun w => by
    have : ((D : Int) : Rat) = 0 := by
      have : ((D : Int) : Rat) / c * c = 0 := by rw [w]; grind
      grind
    exact hD this
  exact ⟨h, k, ih, pr, by rw [eh]; exact dg_sc dg hc2, by rw [eh]; exact G.sc hc2⟩
theorem mod_top {as bs rs : List Int} {m : Int} (hm : Prm m) (pa : Pr as) (pb : Pr bs) {l : Int} (hl : as.getLast? = some l) (hml : ¬ m ∣ l) (hrs : rs.getLast? = some 1)
    (dn : ∀ (g : Fr) (N : Nat), Iz g → Fs g N → Md m g (fr as) → Md m g (fr bs) → Md m g (fr rs)) : ∃ h k, Gc (fr as) (fr bs) h ∧ Dg h k ∧ k ≤ rs.length - 1 ∧ Iz h ∧ Pri h := by
  obtain ⟨h, k, ih, pr, dh, G⟩ := gc_pri (fs_fr as) (dg_fr pb.ne pb.trim)
  refine ⟨h, k, G, dh, ?_, ih, pr⟩
  obtain ⟨s, N, hs, e⟩ := id G.l
  obtain ⟨t, M, ht, e2⟩ := id G.r
  have is := gauss (iz_fr as) ih pr hs e
  have it := gauss (iz_fr bs) ih pr ht e2
  have d := dn h _ ih dh.s (Md.of is hs e) (Md.of it ht e2)
  have hrn : rs ≠ [] := fun z => by rw [z] at hrs; cases hrs
  obtain ⟨r, l1, hr, hl1, el1⟩ := pr_last hrn
  have : l1 = 1 := by rw [hl1] at hrs; cases hrs; rfl
  subst this
  rw [hr, Nat.add_sub_cancel]
  refine mod_deg hm ih dh.s (fun z => hml ?_) (by rw [← hr]; exact fs_fr rs) (fun z => ?_) d
  · -- the last item of as is that of s times that of h
    obtain ⟨n, l2, hn, hl2, el2⟩ := pr_last pa.ne
    have : l2 = l := by rw [hl2] at hl; exact Option.some.inj hl
    subst this
    have da := dg_fr pa.ne pa.trim
    rw [show as.length - 1 = n by omega] at da
    rcases dg_or hs with zz | ⟨i, _, di⟩
    · exfalso
      apply da.t
      rw [e n, show s = fun _ => 0 from funext zz, cv_zl]
    · have d2 := dg_cv di dh
      rw [← funext e] at d2
      have en := dg_uniq d2 da
      have e3 := e n
      rw [← en, cv_top di.s dh.s, en] at e3
      have e4 : fr as n = ((l2 : Int) : Rat) := by unfold fr; rw [el2]
      rw [e4] at e3
      have := Pq.mull (is i) z
      rw [← e3] at this
      exact this.int
  · have hz : fr rs r = ((1 : Int) : Rat) := by unfold fr; rw [el1]
    rw [hz] at z
    have := z.int
    have hb := hm.big
    have := Int.le_of_dvd (by decide) this
    omega
theorem prm_cop {m : Nat} (h1 : 1 < m) (h : ∀ n, 0 < n → n < m → Nat.gcd n m = 1) : Prm (m : Int) := prm_of h1 fun d hd => by
  have d0 : 0 < d := Nat.pos_of_dvd_of_pos hd (by omega)
  have dl := Nat.le_of_dvd (by omega) hd
  by_cases c : d = m
  · exact .inr c
  · left
    have := h d d0 (by omega)
    rwa [Nat.gcd_eq_left hd] at this
def fieldsN : List Nat := [2 ^ 61 - 1, 2 ^ 521 - 1, 2 ^ 2203 - 1, 2 ^ 9689 - 1]
theorem field_ok : ∀ m ∈ fieldsN, Prm (m : Int) ∧ intBits (m : Int) ≤ 20000 := by
  have big : ∀ k : Nat, 2 ≤ k → 1 < 2 ^ k - 1 := fun k hk => by
    have : 2 ^ 2 ≤ 2 ^ k := Nat.pow_le_pow_right (by decide) hk
    omega
  have bits : ∀ k : Nat, k ≤ 20000 → intBits (((2 ^ k - 1 : Nat) : Int)) ≤ 20000 := fun k hk => PySem.intBits_le_iff.mpr (by
    rw [Int.natAbs_natCast]
    have : 2 ^ k ≤ 2 ^ 20000 := Nat.pow_le_pow_right (by decide) hk
    have : 0 < 2 ^ k := Nat.pow_pos (by decide)
    omega)
  intro m hm
  unfold fieldsN at hm
  simp only [List.mem_cons, List.not_mem_nil, or_false] at hm
  rcases hm with rfl | rfl | rfl | rfl
  · exact ⟨prm_cop (big 61 (by decide)) fun n h0 h1 => cop61 h0 h1, bits 61 (by decide)⟩
  · exact ⟨prm_cop (big 521 (by decide)) fun n h0 h1 => cop521 h0 h1, bits 521 (by decide)⟩
  · exact ⟨prm_cop (big 2203 (by decide)) fun n h0 h1 => cop2203 h0 h1, bits 2203 (by decide)⟩
  · exact ⟨prm_cop (big 9689 (by decide)) fun n h0 h1 => cop9689 h0 h1, bits 9689 (by decide)⟩
def fieldsL : List Int := fieldsN.map fun n : Nat => (n : Int)
theorem field_big : 2 ^ 9600 ≤ (2 ^ 9689 - 1 : Nat) := by decide +kernel
theorem field3 {m : Int} (h : fieldsL[3]? = some m) : 2 ^ 9600 ≤ m.natAbs := by
  have e : fieldsL[3]? = some ((2 ^ 9689 - 1 : Nat) : Int) := rfl
  have e2 := Option.some.inj (e.symm.trans h)
  rw [← e2, Int.natAbs_natCast]
  exact field_big
theorem pr_one : Pr [1] := ⟨by simp, by decide, fun m hm => by cases hm; decide⟩
theorem fr_one : fr [1] = one1 := funext fun j => by
  unfold fr one1
  cases j with
  | zero => rfl
  | succ j => rfl
theorem dv_one (a : Fr) {N : Nat} (h : Fs a N) : Dv one1 a := ⟨a, N, h, fun j => by rw [cv_comm, cv_one]⟩
theorem dg_one : Dg one1 0 := ⟨fs_one, by show (if 0 = 0 then (1 : Rat) else 0) ≠ 0; rw [if_pos rfl]; decide⟩
def spRowD : Sp := fun vs H Q _ => ∃ (p q : Addr) (as bs : List Int) (k : Nat), vs = [.ref p, .ref q] ∧ IntsAt H p as ∧ IntsAt H q bs ∧ Pr as ∧ Pr bs ∧ as.length ≤ 60 ∧ bs.length ≤ 60 ∧ (∀ n ∈ as, intBits n ≤ k) ∧ (∀ n ∈ bs, intBits n ≤ k) ∧ (as.length + bs.length) * (k + 8) ≤ 9600 ∧ 2 * k + 16 * as.length + 2 ≤ 9600 ∧
  ∀ (H' : Hp) (t : Addr) (ms : List Int), Same H H' → IntsAt H' t ms → Pr ms → Gc (fr as) (fr bs) (fr ms) → Q (.ref t) H'
section
variable {P : Program} {w : World} {K : PySem.W.Frag} {mg : Str → Option Value} {base : Heap} {C Z CP : Addr}
abbrev nRowD : List Str := ["a", "b", "m", "row", "scale", "found", "n"]
theorem scRowD : FnScope nRowD ["a", "b"] (defScope sRowD) := ⟨rfl, rfl, rfl, by decide +kernel, rfl, by decide +kernel, by decide +kernel⟩
structure TxRd (P : Program) (w : World) (K : PySem.W.Frag) (mg : Str → Option Value) (base : Heap) (fD fS fP fV fE fF : Addr) (fdD fdS fdP fdV fdE : FuncData) : Prop where
  GD : FnOk P w K mg base CX0 43 fD fdD ["a", "b", "m"] spDivMd
  kD : PySem.W.keepIn K (.ref fD) = true
  bD : Binds K fdD ["a", "b", "m"] []
  gD : mg "divisor_modulo" = some (.ref fD)
  GS : FnOk P w K mg base CX0 1 fS fdS ["n", "m"] spSym
  kS : PySem.W.keepIn K (.ref fS) = true
  bS : Binds K fdS ["n", "m"] []
  gS : mg "symmetric" = some (.ref fS)
  GP : FnOk P w K mg base CX0 41 fP fdP ["row"] spPrR
  kP : PySem.W.keepIn K (.ref fP) = true
  bP : Binds K fdP ["row"] []
  gP : mg "primitive_row" = some (.ref fP)
  GV : FnOk P w K mg base CX0 42 fV fdV ["a", "b"] spDvR
  kV : PySem.W.keepIn K (.ref fV) = true
  bV : Binds K fdV ["a", "b"] []
  gV : mg "divides_row" = some (.ref fV)
  GE : FnOk P w K mg base CX0 42 fE fdE ["a", "b"] spEu
  kE : PySem.W.keepIn K (.ref fE) = true
  bE : Binds K fdE ["a", "b"] []
  gE : mg "euclid_divisor" = some (.ref fE)
  gF : mg "FIELDS" = some (.ref fF)
  sF : ∀ H : Hp, SqT K H fF (fieldsL.map V.int)
  gcd : mg "gcd" = some (.builtin "math.gcd")
theorem ok_rowd {f fD fS fP fV fE fF : Addr} {fd fdD fdS fdP fdV fdE : FuncData} (F : Fun K "row_divisor" "row_divisor" sRowD f fd) (T : TxL K mg) (D : TxRd P w K mg base fD fS fP fV fE fF fdD fdS fdP fdV fdE) : FnOk P w K mg base CX0 44 f fd ["a", "b"] spRowD := by
  refine F.ok scRowD (fun vs H Q E h => ?_) (fun cdv A outer s H vs Q E hr h => ?_)
  · obtain ⟨p, q, as, bs, k, rfl, _⟩ := h
    rfl
  · obtain ⟨p, q, as, bs, kk, rfl, hp, hq, pa, pb, la, lb, ba, bb, hsz, hsz2, res⟩ := h
    have h1 := hr.mono (show 1 ≤ 43 by decide)
    have h41 := hr.mono (show 41 ≤ 43 by decide)
    have h42 := hr.mono (show 42 ≤ 43 by decide)
    refine ⟨_, pss_cons (ps_for PassesOwn.never rfl (pi_tup (pe_glob (v := .ref fF) (by rfl) D.gF rfl)) (pg_name (i := 2) scRowD.nd rfl (Or.inr rfl))
        (pss_one (ps_if (PW.pt (pw_and (pt_cmpR op_ne (pe_op op_modN (pe_ix ix_seq (pv 0) (pe_un un_neg pe_int) fun _ _ => rfl) (pv 2)) pe_int (nomark _)) (pw_and1 (pt_cmpR op_ne (pe_op op_modN (pe_ix ix_seq (pv 1) (pe_un un_neg pe_int) fun _ _ => rfl) (pv 2)) pe_int (nomark _)))))
          (pss_cons (ps_set (i := 3) scRowD.nd rfl (Or.inl rfl) (pe_call D.GD hr (by rfl) D.gD D.kD D.bD .nil pass0 (pa_cons (pv 0) (pa_cons (pv 1) (pa_cons (pv 2) pa_nil)))))
          (pss_cons (ps_if (pt_cmpR op_eq (pe_callB call_len_seq (by rfl) T.len PySem.boot_len (pa_cons (pv 3) pa_nil)) pe_int (nomark _)) (pss_one (ps_ret (pe_lst (pa_cons pe_int pa_nil)))) pss_nil)
          (pss_cons (ps_set (i := 4) scRowD.nd rfl (Or.inr rfl) (pe_callBfun cr_gcd (by rfl) D.gcd (pa_cons (pe_ix ix_seq (pv 0) (pe_un un_neg pe_int) fun _ _ => rfl) (pa_cons (pe_ix ix_seq (pv 1) (pe_un un_neg pe_int) fun _ _ => rfl) pa_nil))))
          (pss_cons (ps_set (i := 5) scRowD.nd rfl (Or.inl rfl) (pe_call D.GP h41 (by rfl) D.gP D.kP D.bP .nil pass0 (pa_cons (pe_lc (own := [("n", 6)]) (g := gName 6) (tt := tYes) rfl scRowD.nd (pi_list (pv 3)) (blkOk_by (N := nRowD) (sc := defScope sRowD) (by decide +kernel))
              (fun _ _ _ _ _ => pg_name (i := 6) scRowD.nd rfl (Or.inl rfl)) (fun _ _ _ _ _ => pts_nil) (fun _ _ _ _ _ => pe_call D.GS h1 (by rfl) D.gS D.kS D.bS .nil pass0 (pa_cons (pe_op op_mulB (pv 4) (pv 6)) (pa_cons (pv 2) pa_nil)))) pa_nil)))
          (pss_one (ps_if (PW.pt (pw_and (pt_val (pe_call D.GV h42 (by rfl) D.gV D.kV D.bV .nil pass0 (pa_cons (pv 5) (pa_cons (pv 0) pa_nil)))) (pw_and1 (pt_val (pe_call D.GV h42 (by rfl) D.gV D.kV D.bV .nil pass0 (pa_cons (pv 5) (pa_cons (pv 1) pa_nil))))))) (pss_one (ps_ret (pv 5))) pss_nil))))))
          pss_nil)))
      (pss_one (ps_ret (pe_call D.GE h42 (by rfl) D.gE D.kE D.bE .nil pass0 (pa_cons (pv 0) (pa_cons (pv 1) pa_nil))))), ?_⟩
    obtain ⟨na, ll, hna, hla, ela⟩ := pr_last pa.ne
    obtain ⟨nb, lr, hnb, hlb, elb⟩ := pr_last pb.ne
    have kk10 : kk ≤ 9600 := by omega
    have lap' := pa.pos ll hla
    have lbp' := pb.pos lr hlb
    have bll : ll.natAbs < 2 ^ 9600 := Nat.lt_of_lt_of_le (PySem.intBits_le_iff.mp (ba ll (List.mem_of_getLast? hla))) (Nat.pow_le_pow_right (by decide) kk10)
    have blr : lr.natAbs < 2 ^ 9600 := Nat.lt_of_lt_of_le (PySem.intBits_le_iff.mp (bb lr (List.mem_of_getLast? hlb))) (Nat.pow_le_pow_right (by decide) kk10)
    refine ⟨fF, rfl, ⟨_, D.sF _⟩, for_tup (K := K) (a := fF) (xs := fieldsL.map V.int) (fun i σ H5 => i ≤ 3 ∧ Same H H5 ∧ ∃ v2 v3 v4 v5 : Option V, σ = [some (.ref p), some (.ref q), v2, v3, v4, v5, none]) ⟨by decide, same_rfl, none, none, none, none, rfl⟩ (fun i σ H5 _ _ => D.sF _) ?_ ?_⟩
    · rintro i x σ H5 hx ⟨hi3, s5, v2, v3, v4, v5, rfl⟩
      obtain ⟨m, hmi, rfl⟩ := int_of hx
      have hb3 : i = 3 → 2 ^ 9600 ≤ m.natAbs := fun e => by
        subst e
        exact field3 hmi
      obtain ⟨mN, hmN, rfl⟩ := List.mem_map.mp (List.mem_of_getElem? hmi)
      obtain ⟨hm, hbm⟩ := field_ok mN hmN
      generalize ((mN : Nat) : Int) = m at hm hbm hb3
      have hbig : i = 3 → ∀ x : Int, x ≠ 0 → x.natAbs < 2 ^ 9600 → ¬ m ∣ x := fun e x x0 xb hd => by
        have h1 := hb3 e
        have h2 := Nat.le_of_dvd (by omega) (Int.natAbs_dvd_natAbs.mpr hd)
        exact absurd (Nat.lt_of_lt_of_le xb (Nat.le_trans h1 h2)) (Nat.lt_irrefl _)
      have hb1 := hm.big
      have hp5 := hp.same s5
      have hq5 := hq.same s5
      refine ⟨_, rfl, _, rfl, p, _, _, V.int ll, rfl, rfl, hp5.sq, last_idx hla, _, rfl, _, _, rfl, rfl, (by show m ≠ 0; omega), rfl, _, rfl, ite2 (fun c => ?_) (fun c => ?_)⟩
      rotate_left
      · have n3 : i ≠ 3 := fun e => by
          refine hbig e ll (by omega) bll (Int.dvd_of_fmod_eq_zero ?_)
          simpa using c
        exact iteF ⟨by omega, s5, _, _, _, _, rfl⟩
      have ca : ¬ m ∣ ll := fun z => by
        simp [Int.fmod_eq_zero_of_dvd z] at c
      refine ⟨_, rfl, _, rfl, q, _, _, V.int lr, rfl, rfl, hq5.sq, last_idx hlb, _, rfl, _, _, rfl, rfl, (by show m ≠ 0; omega), rfl, _, rfl, ite2 (fun c2 => ?_) (fun c2 => ?_)⟩
      rotate_left
      · have n3 : i ≠ 3 := fun e => by
          refine hbig e lr (by omega) blr (Int.dvd_of_fmod_eq_zero ?_)
          simpa using c2
        exact ⟨by omega, s5, _, _, _, _, rfl⟩
      refine ⟨_, rfl, _, rfl, _, rfl, p, q, as, bs, m, kk, rfl, hp5, hq5, by omega, by omega, ba, bb, hm, hbm, ⟨na, by rw [ela]; exact ca⟩, fun H6 t rs s6 ht hrl hri hrlast hdn hda hdb hmc => ?_⟩
      obtain ⟨h, k, G, dh, hk, ih, prh⟩ := mod_top hm pa pb hla ca hrlast hdn
      refine ⟨_, rfl, t, _, rfl, .inl (SqL.of ht), rfl, _, rfl, ite2 (fun c3 => ?_) (fun c3 => ?_)⟩
      · have c3 := V.int.inj (of_decide_eq_true c3)
        rw [List.length_map] at c3
        refine ⟨(by show 1 ≤ sizeLine; decide), fun t2 ht2 => res _ t2 [1] ((s5.trans s6).trans (same_upd ht2)) (.inl upd_same) pr_one ?_⟩
        rw [fr_one]
        exact gc_deg G dh dg_one (dv_one _ (fs_fr as)) (dv_one _ (fs_fr bs)) (by omega)
      have hp6 := hp5.same s6
      have hq6 := hq5.same s6
      refine ⟨_, rfl, _, rfl, p, _, _, V.int ll, rfl, rfl, hp6.sq, last_idx hla, _, rfl, _, rfl, q, _, _, V.int lr, rfl, rfl, hq6.sq, last_idx hlb, _, _, rfl, ?_⟩
      obtain ⟨sc, esc⟩ : ∃ sc : Int, ((Nat.gcd ll.natAbs lr.natAbs : Nat) : Int) = sc := ⟨_, rfl⟩
      have lap := pa.pos ll hla
      have sc1 : sc ∣ ll := Int.natAbs_dvd_natAbs.mp (by rw [← esc, Int.natAbs_natCast]; exact Nat.gcd_dvd_left _ _)
      have bsc : intBits sc ≤ kk := by
        refine PySem.intBits_le_of_natAbs ?_ (ba ll (List.mem_of_getLast? hla))
        exact Nat.le_of_dvd (by omega) (Int.natAbs_dvd_natAbs.mpr sc1)
      rw [esc]
      refine ⟨_, rfl, t, rfl, ⟨_, SqL.of ht⟩, fun D2 hD2 => lc_list (K := K) (a := t) (xs := rs.map V.int) (fun i H7 => ∃ zs : List Int, ColI D2 H6 H7 zs ∧ zs.length = i ∧ ∀ j, j < i → m ∣ zs.getD j 0 - sc * rs.getD j 0 ∧ 2 * (zs.getD j 0).natAbs ≤ m.natAbs) ⟨[], ColI.start hD2, rfl, fun j hj => absurd hj (Nat.not_lt_zero _)⟩ (fun i H7 _ ⟨_, z, _⟩ => z.s.seq (SqL.of ht)) ?_ ?_⟩
      · rintro i x H7 hx ⟨zs, z, hzl, hz⟩
        obtain ⟨n, hn, rfl⟩ := int_of hx
        have hi := (List.getElem?_eq_some_iff.mp hn).1
        have bn := inm_bits hri hbm n (List.mem_of_getElem? hn)
        have en : rs.getD i 0 = n := by rw [List.getD_eq_getElem?_getD, hn]; rfl
        refine ⟨rfl, _, rfl, _, rfl, _, _, rfl, rfl, (by show intBits sc + intBits n ≤ 134217728; omega), _, rfl, sc * n, m, rfl, by omega, hbm, fun r hr1 hr2 => ?_⟩
        obtain ⟨acc, h1, h2, h3⟩ := z.push (n := r) hD2 same_rfl (by omega)
        refine ⟨acc, h1, h2, zs ++ [r], h3, by rw [List.length_append, hzl]; rfl, fun j hj => ?_⟩
        rw [List.getD_eq_getElem?_getD, List.getElem?_append]
        by_cases e : j < zs.length
        · rw [if_pos e]
          have := hz j (by omega)
          rw [List.getD_eq_getElem?_getD] at this
          exact this
        · have ej : j = i := by omega
          subst ej
          rw [if_neg e, hzl, Nat.sub_self, en]
          exact ⟨hr1, hr2⟩
      rintro H7 ⟨zs, z, hzl, hz⟩
      rw [List.length_map] at hzl hz
      have hrne : rs ≠ [] := fun e => by rw [e] at hrlast; cases hrlast
      obtain ⟨r, l1, hr, hl1, el1⟩ := pr_last hrne
      have l1e : l1 = 1 := by rw [hl1] at hrlast; exact Option.some.inj hrlast
      rw [l1e] at el1
      have zne : zs ≠ [] := fun e => by rw [e] at hzl; rw [hr] at hzl; cases hzl
      obtain ⟨z1, lz, hz1, hlz, elz⟩ := pr_last zne
      have ez1 : z1 = r := by omega
      subst ez1
      have tz : TrimI zs := fun y hy e => by
        rw [hlz] at hy
        have hy := Option.some.inj hy
        rw [e] at hy
        have h1 := (hz z1 (by omega)).1
        rw [elz, el1, hy, Int.mul_one, Int.zero_sub] at h1
        exact ca (Int.dvd_trans (Int.dvd_neg.mp h1) sc1)
      have bz : ∀ n ∈ zs, intBits n ≤ 20000 := fun n hn => by
        obtain ⟨j, hj, e⟩ := mem_getD hn
        have := (hz j (by omega)).2
        rw [e] at this
        exact PySem.intBits_le_of_natAbs (by omega) hbm
      refine ⟨D2, zs, 20000, rfl, z.at_, by omega, tz, bz, by decide, fun H8 u fs s8 hu hfl hfb hfg hfp hprop => ?_⟩
      have pf : Pr fs := ⟨fun e => (by rw [e] at hfl; rw [hzl, hr] at hfl; cases hfl), hfg zne, hfp⟩
      have s68 := z.s.trans s8
      have df := dg_fr pf.ne pf.trim
      rw [show fs.length - 1 = z1 by omega] at df
      have fl60 : fs.length ≤ 100 := by omega
      -- the divisor is no longer than the row
      have cl : fs.length ≤ 60 := by
        have := mod_deg hm (iz_fr rs) (by rw [← hr]; exact fs_fr rs) (fun z => by
          rw [show fr rs z1 = ((1 : Int) : Rat) by unfold fr; rw [el1]] at z
          have := Int.le_of_dvd (by decide) z.int
          omega) (by rw [← hna]; exact fs_fr as) (fun z => ca (by
          rw [show fr as na = ((ll : Int) : Rat) by unfold fr; rw [ela]] at z
          exact z.int)) hda
        omega
      have dvf : i = 3 → Dv (fr fs) (fr as) ∧ Dv (fr fs) (fr bs) := fun e => by
        have hr1 : fr rs z1 = 1 := by
          unfold fr
          rw [el1]
          rfl
        have rk := sig_mod (r := z1) pa pb G ih prh dh ba bb la lb hsz hm (hbig e) (iz_fr rs) (by rw [← hr]; exact fs_fr rs) hr1 hda hdb
        have ek : z1 = k := by omega
        obtain ⟨c, c0, ec⟩ := sig_lift pa pb G ih prh dh ba la hsz2 hm (hb3 e) hla hlb ca (by omega) (by rw [← ek]; exact el1) hdn esc (fun z => by
          rw [z] at sc1
          obtain ⟨y, hy⟩ := sc1
          rw [Int.zero_mul] at hy
          omega) bsc hzl hz
        obtain ⟨s, sn0, es⟩ := hprop
        have hs0 := cst_ne sn0
        have ef : fr fs = fun j => (c / ((s : Int) : Rat)) * h j := funext fun j => by
          have e1 := ec j
          have e2 : fr zs j = ((s : Int) : Rat) * fr fs j := by
            unfold fr
            rw [es j, Rat.intCast_mul]
          rw [e2] at e1
          grind
        rw [ef]
        have cs0 : c / ((s : Int) : Rat) ≠ 0 := fun w => by
          have : c / ((s : Int) : Rat) * ((s : Int) : Rat) = 0 := by rw [w]; grind
          exact c0 (by grind)
        exact ⟨G.l.scl cs0, G.r.scl cs0⟩
      · refine ⟨_, rfl, _, rfl, u, p, fs, as, kk, 20000, rfl, .inl hu, (hp6.same s68), pf.ne, pa.ne, pf.trim, cl, la, hfb, ba, by omega, fun H9 r1 s9 hr1 hr1' => ⟨_, rfl, ?_⟩⟩
        cases r1 with
        | false =>
          have n3 : i ≠ 3 := fun e => Bool.noConfusion (hr1' pf pa (dvf e).1)
          exact iteF ⟨by omega, ((s5.trans s6).trans s68).trans s9, _, _, _, _, rfl⟩
        | true =>
          refine iteT ⟨_, rfl, _, rfl, u, q, fs, bs, kk, 20000, rfl, .inl (s9 _ _ hu), (hq6.same s68).same s9, pf.ne, pb.ne, pf.trim, cl, lb, hfb, bb, by omega, fun H10 r2 s10 hr2 hr2' => ⟨_, rfl, ?_⟩⟩
          cases r2 with
          | false =>
            have n3 : i ≠ 3 := fun e => Bool.noConfusion (hr2' pf pb (dvf e).2)
            exact iteF ⟨by omega, (((s5.trans s6).trans s68).trans s9).trans s10, _, _, _, _, rfl⟩
          | true =>
            exact iteT ⟨_, rfl, res H10 u fs ((((s5.trans s6).trans s68).trans s9).trans s10) (.inl (s10 _ _ (s9 _ _ hu))) pf (gc_deg G dh df (hr1 rfl) (hr2 rfl) (by omega))⟩
    · rintro σ H5 ⟨h4, _⟩
      exact absurd h4 (by decide)
end
end Ind

set_option Elab.async false
set_option linter.all false
set_option maxRecDepth 100000
set_option maxHeartbeats 4000000
set_option exponentiation.threshold 20000
namespace Ind
open PySem PySem.Spec PyProof.Rows L2
open Builtin.Int (intBits)
abbrev sPMo : Stmt := inClass (top 34) 17
abbrev sInvR : Stmt := inClass (top 29) 7
/-- monic(): zero, or the row divided by its last item -/
def spPMo (C CP : Addr) : Sp := fun vs H Q _ => ∃ (p : Addr) (as : List Q2) (k : Nat), vs = [.ref p] ∧ PolyAt C CP H p as ∧ PSz k as ∧ k ≤ 40000000 ∧ (as = [] → Q (.ref p) H) ∧
  (∀ q, as.getLast? = some q → ResQ C CP k as.length (fun j => rowF as j / rv q) H Q)
/-- inverse() of a number that is not zero -/
def spInvR (C : Addr) : Sp := fun vs H Q _ => ∃ (p : Addr) (q : Q2), vs = [.ref p] ∧ RatQ C H p q ∧ q.1 ≠ 0 ∧ ∀ (H' : Hp) (t : Addr), Same H H' → RatQ C H' t (mkq q.2 q.1) → Q (.ref t) H'
theorem mix_ints {C : Addr} {H : Hp} : ∀ ms : List Int, Paired (MixV C H) (ms.map V.int) (ms.map fun n => ((n, 1) : Q2))
  | [] => .nil
  | n :: ms => .cons (.inr ⟨n, rfl, rfl⟩) (mix_ints ms)
theorem row_ints (ms : List Int) : rowF (ms.map fun n => ((n, 1) : Q2)) = fr ms := funext fun j => by
  unfold rowF fr
  rw [List.getD_eq_getElem?_getD, List.getElem?_map, List.getD_eq_getElem?_getD]
  cases e : ms[j]? with
  | none => exact rv_q0
  | some n =>
    show ((n : Int) : Rat) / ((1 : Int) : Rat) = ((n : Int) : Rat)
    grind
theorem psz_ints {ms : List Int} {k : Nat} (hk : 1 ≤ k) (hl : ms.length ≤ 100) (h : ∀ n ∈ ms, intBits n ≤ k) : PSz k (ms.map fun n => ((n, 1) : Q2)) := by
  refine ⟨fun q hq => ?_, by rw [List.length_map]; exact hl, 1, by decide, Nat.le_trans (show intBits 1 ≤ 1 by decide) hk, fun q hq => ?_⟩
  · obtain ⟨n, _, rfl⟩ := List.mem_map.mp hq
    exact ⟨show (0 : Int) < 1 by decide, by show Nat.gcd n.natAbs 1 = 1; exact Nat.gcd_one_right _⟩
  · obtain ⟨n, hn, rfl⟩ := List.mem_map.mp hq
    refine ⟨⟨1, rfl⟩, ?_⟩
    show intBits (n * (1 : Int).fdiv 1) ≤ k
    rw [show (1 : Int).fdiv 1 = 1 by decide, Int.mul_one]
    exact h n hn
theorem psz_bq {k : Nat} {qs : List Q2} (h : PSz k qs) {q : Q2} (hq : q ∈ qs) : Bq k q := by
  obtain ⟨M, m0, mb, hM⟩ := psz_low h
  exact (hM q hq).2.1
section
variable {P : Program} {w : World} {K : PySem.W.Frag} {mg : Str → Option Value} {base : Heap} {C Z CP : Addr}
/-- behind Poly(l), whatever follows -/
theorem mkP_ok2 {l : Addr} {xs : List V} {qs : List Q2} {k : Nat} {H1 : Hp} {Q0 : VK} {E : XK} (hl : H1 l = some (.lst xs) ∨ H1 l = some (.tup xs)) (hP : Paired (MixV C H1) xs qs) (hs : PSz k qs) (hk : k ≤ 40000000) {x dx : Addr} (nx : H1 x = none) (nd : H1 dx = none) (ne : dx ≠ x)
    (h : ∀ H' : Hp, PolyAt C CP H' x (trimQ qs) → Same H1 H' → Q0 .non H') : spPI C CP [.ref x, .ref l] (upd (upd H1 dx (.own x)) x (.ins CP dx [])) Q0 E := by
  have nx2 : (upd H1 dx (.own x)) x = none := by
    rw [upd_ne (Ne.symm ne)]
    exact nx
  have s : Same H1 (upd (upd H1 dx (.own x)) x (.ins CP dx [])) := (same_upd nd).trans (same_upd nx2)
  exact ⟨x, dx, l, xs, qs, k, rfl, upd_same, hl.imp (s _ _) (s _ _), Paired.imp (fun _ _ f => MixV.same s f) hP, hs, hk, fun H' r kk => h H' r (Same.made nx nd kk)⟩
theorem pos_trim {ms : List Int} (h : ∀ m, ms.getLast? = some m → 0 < m) : Trim (ms.map fun n => ((n, 1) : Q2)) := fun q hq => by
  rw [List.getLast?_map] at hq
  cases e : ms.getLast? with
  | none =>
    rw [e] at hq
    cases hq
  | some m =>
    rw [e] at hq
    cases hq
    have := h m e
    show m ≠ 0
    omega
theorem scPMo : FnScope nSf ["self"] (defScope sPMo) := ⟨rfl, rfl, rfl, by decide +kernel, rfl, by decide +kernel, by decide +kernel⟩
theorem ok_pmo {f fI fN fS fP : Addr} {fd fdI fdN fdS fdP : FuncData} (F : Fun K "monic" "Poly.monic" sPMo f fd) (TP : TxP K mg CP) (O : TxO P w K mg base C CP fN fS fP fdN fdS fdP)
    (GI : FnOk P w K mg base CX0 1 fI fdI ["self"] (spPIz C CP)) (bI : Binds K fdI ["self"] []) (mI : Meth K CP "is_zero" fI) : FnOk P w K mg base CX0 46 f fd ["self"] (spPMo C CP) := by
  refine F.ok scPMo (fun vs H Q E h => ?_) (fun cdv A outer s H vs Q E hr h => ?_)
  · obtain ⟨p, as, k, rfl, _⟩ := h
    rfl
  · obtain ⟨p, as, k, rfl, hpo, za, hk, r0, r1⟩ := h
    have hpo' := hpo
    obtain ⟨dp, rp, np, ep, _, hnp, ht⟩ := hpo'
    have h1 := hr.mono (show 1 ≤ 45 by decide)
    refine ⟨_, pss_cons (ps_if (pt_val (pe_meth0 (pv 0) TP.cl mI GI h1 bI .nil pass0)) (pss_one (ps_ret (pv 0))) pss_nil)
      (pss_one (ps_ret (pe_call O.fnN hr (by rfl) O.gN O.kN O.bN .nil pass0 (pa_cons (pe_fld (pv 0) rfl) (pa_cons (pe_ix ix_tup (pe_fld (pv 0) rfl) (pe_un un_neg pe_int) fun _ _ => rfl) pa_nil))))), ?_⟩
    refine ⟨_, rfl, p, dp, _, rfl, ep, by rfl, p, as, rfl, hpo, _, rfl, ite2 (fun c => ?_) (fun c => ?_)⟩
    · have c := of_decide_eq_true c
      exact ⟨_, rfl, r0 (List.length_eq_zero_iff.mp c)⟩
    · have c : ¬ as.length = 0 := fun z => c (decide_eq_true z)
      obtain ⟨q, hq⟩ : ∃ q, as[as.length - 1]? = some q := ⟨_, List.getElem?_eq_getElem (by omega)⟩
      have hlast : as.getLast? = some q := by rw [List.getLast?_eq_getElem?]; exact hq
      have res := r1 q hlast
      obtain ⟨ba, na⟩ := psz_lcm za
      have pa := lcmD_pos za.1
      have l1 := za.2.1
      obtain ⟨m, hm⟩ : ∃ m, (partsOf ((lcmD as : Nat) : Int) as)[as.length - 1]? = some m := ⟨_, List.getElem?_eq_getElem (by rw [parts_len2]; omega)⟩
      have hat : atI ((partsOf ((lcmD as : Nat) : Int) as).map V.int) (-1) = some (.int m) := by
        have e := List.getElem?_eq_some_iff.mp hm
        have e2 : partsOf ((lcmD as : Nat) : Int) as = (partsOf ((lcmD as : Nat) : Int) as).take (as.length - 1) ++ [m] := by
          have := List.take_append_drop (as.length - 1) (partsOf ((lcmD as : Nat) : Int) as)
          rw [List.drop_eq_getElem_cons e.1, e.2, List.drop_of_length_le (by rw [parts_len2]; omega)] at this
          exact this.symm
        rw [e2, List.map_append]
        exact atI_last _ _
      have em : (partsOf ((lcmD as : Nat) : Int) as).getD (as.length - 1) 0 = m := by
        rw [List.getD_eq_getElem?_getD, hm]
        rfl
      have eq1 : ((m : Int) : Rat) = (((lcmD as : Nat) : Int) : Rat) * rv q := by
        rw [← em, num_fr za.1]
        unfold rowF
        rw [getD_q hq]
      have hB := cst_ne (show ((lcmD as : Nat) : Int) ≠ 0 by omega)
      have hq0 : rv q ≠ 0 := rv_ne (za.1 q (List.mem_of_getElem? hq)) (ht q hlast)
      have hm0 : m ≠ 0 := fun z => by
        rw [z] at eq1
        have : (0 : Rat) = (((lcmD as : Nat) : Int) : Rat) * rv q := eq1
        grind
      refine ⟨_, rfl, p, CP, dp, _, _, rfl, ep, TP.cl, TP.nN, pf_num _ _ _, _, rfl, p, CP, dp, _, _, rfl, ep, TP.cl, TP.nN, pf_num _ _ _, _, rfl, np, _, _, .int m, rfl, rfl, SqT.of hnp, hat, ?_⟩
      exact ⟨np, partsOf ((lcmD as : Nat) : Int) as, m, k, rfl, .inr hnp, hm0, by rw [parts_len2]; omega, na m (List.mem_of_getElem? hm), na, hk, res_of res hm0 (by rw [parts_len2]; omega) (by rw [parts_len2]; exact Nat.le_refl _) (na m (List.mem_of_getElem? hm)) na (fun j => by
        rw [num_fr za.1, eq1]
        grind) same_rfl⟩

theorem scInvR : FnScope nSf ["self"] (defScope sInvR) := ⟨rfl, rfl, rfl, by decide +kernel, rfl, by decide +kernel, by decide +kernel⟩
theorem ok_invr {f fI : Addr} {fd fdI : FuncData} {ds : List Value} (F : Fun K "inverse" "Ratio.inverse" sInvR f fd) (R : TxR K mg C Z) (M : MkR P w K mg base C Z fI fdI ds) : FnOk P w K mg base CX0 43 f fd ["self"] (spInvR C) := by
  refine F.ok scInvR (fun vs H Q E h => ?_) (fun cdv A outer s H vs Q E hr h => ?_)
  · obtain ⟨p, q, rfl, _⟩ := h
    rfl
  · obtain ⟨p, q, rfl, ⟨dx, hp⟩, h0, k⟩ := h
    refine ⟨_, pss_one (ps_ret (pe_make M.cm M.fn hr (by rfl) R.mgC M.b2 .nil passL (pa_cons (pe_fld (pv 0) rfl) (pa_cons (pe_fld (pv 0) rfl) pa_nil)))), ?_⟩
    refine ⟨_, rfl, p, C, dx, _, _, rfl, hp, R.cl, R.nD, rf_d _ _, _, rfl, p, C, dx, _, _, rfl, hp, R.cl, R.nN, rf_n _ _, ?_⟩
    exact mk_ok h0 fun t H' r s n => k H' t s r
end
end Ind

set_option Elab.async false
set_option linter.all false
set_option maxRecDepth 100000
set_option maxHeartbeats 4000000
set_option exponentiation.threshold 20000
namespace Ind
open PySem PySem.Spec PyProof.Rows L2
open Builtin.Int (intBits)
abbrev sCd : Stmt := top 39
/-! ### greatest common divisors of polynomials -/
structure GcQ (as bs gs : List Q2) : Prop where
  gc : Gc (rowF as) (rowF bs) (rowF gs)
  z : as = [] → bs = [] → gs = []
  mon : (as ≠ [] ∨ bs ≠ []) → ∃ d, gs.length = d + 1 ∧ rowF gs d = 1
  len : gs.length ≤ max as.length bs.length
def kcd (k n : Nat) : Nat := k + 16 * n + 8
def spCd (C CP : Addr) : Sp := fun vs H Q _ => ∃ (p q : Addr) (as bs : List Q2) (k : Nat), vs = [.ref p, .ref q] ∧ PolyAt C CP H p as ∧ PolyAt C CP H q bs ∧ PSz k as ∧ PSz k bs ∧ as.length ≤ 60 ∧ bs.length ≤ 60 ∧ (as.length + bs.length) * (k + 8) ≤ 9600 ∧ 2 * k + 16 * as.length + 2 ≤ 9600 ∧
  ∀ (H' : Hp) (t : Addr) (gs : List Q2), Same H H' → PolyAt C CP H' t gs → PSz (kcd k (max as.length bs.length)) gs → GcQ as bs gs → Q (.ref t) H'
theorem rowF_nilF : rowF [] = fun _ => 0 := funext rowF_nil
theorem dg_row {qs : List Q2} {n : Nat} (ht : Trim qs) (lo : ∀ q ∈ qs, Lo q) (h : qs.length = n + 1) : Dg (rowF qs) n := ⟨by rw [← h]; exact fs_row qs, trim_top ht lo h⟩
theorem dg_rowQ {qs : List Q2} {d : Nat} (t : Trim qs) (lo : ∀ q ∈ qs, Lo q) (h : Dg (rowF qs) d) : qs.length = d + 1 := by
  obtain ⟨n, hn⟩ : ∃ n, qs.length = n + 1 := by
    cases qs with
    | nil => exact absurd (rowF_nil d) h.t
    | cons a l => exact ⟨l.length, rfl⟩
  have := dg_uniq (dg_row t lo hn) h
  omega
theorem len_ne {qs : List Q2} (h : qs ≠ []) : ∃ n, qs.length = n + 1 := ⟨qs.length - 1, by have := List.length_pos_iff.mpr h; omega⟩
/-- the row divided by its last item -/
theorem monic_ok {as qs : List Q2} {q : Q2} (ta : Trim as) (la : ∀ x ∈ as, Lo x) (tq : Trim qs) (lq : ∀ x ∈ qs, Lo x) (h : as.getLast? = some q) (e : ∀ j, rowF qs j = rowF as j / rv q) : ∃ d, as.length = d + 1 ∧ qs.length = d + 1 ∧ rowF qs d = 1 ∧ rv q ≠ 0 ∧ rowF as d = rv q := by
  obtain ⟨d, hd⟩ := len_ne (qs := as) (fun z => by rw [z] at h; cases h)
  have h2 : as[d]? = some q := by
    rw [List.getLast?_eq_getElem?, hd] at h
    exact h
  have e2 : rowF as d = rv q := by
    unfold rowF
    rw [getD_q h2]
  have D := dg_row ta la hd
  have q0 : rv q ≠ 0 := by rw [← e2]; exact D.t
  have e3 : rowF qs = fun j => 1 / rv q * rowF as j := funext fun j => by rw [e j]; grind
  have D2 : Dg (rowF qs) d := by rw [e3]; exact dg_sc D (by grind)
  exact ⟨d, hd, dg_rowQ tq lq D2, by rw [e d, e2]; grind, q0, e2⟩
/-- the size of a divisor of a row of whole numbers -/
theorem pr_bits {as hs : List Int} {k : Nat} (pa : Pr as) (ph : Pr hs) (ba : ∀ n ∈ as, intBits n ≤ k) (la : as.length ≤ 60) (d : Dv (fr hs) (fr as)) : hs.length ≤ as.length ∧ ∀ n ∈ hs, intBits n ≤ k + 16 * as.length := by
  have da := dg_fr pa.ne pa.trim
  have dh := dg_fr ph.ne ph.trim
  have hdl := d.dg dh da
  have l1 := List.length_pos_iff.mpr pa.ne
  have l2 := List.length_pos_iff.mpr ph.ne
  have hle : hs.length ≤ as.length := by omega
  refine ⟨hle, fun n hn => ?_⟩
  obtain ⟨s, N, hs', e⟩ := d
  have is := gauss (iz_fr as) (iz_fr hs) ph.pri hs' e
  have hA : ∀ j, Bdr (fr as j) (((2 ^ k : Nat) : Int) : Rat) := fun j => by
    have h1 := PySem.intBits_le_iff.mp (bits_getD ba j)
    unfold fr Bdr
    have h2 : -((2 ^ k : Nat) : Int) ≤ as.getD j 0 := by omega
    have h3 : as.getD j 0 ≤ ((2 ^ k : Nat) : Int) := by omega
    have h4 := Rat.intCast_le_intCast.mpr h2
    have h5 := Rat.intCast_le_intCast.mpr h3
    rw [Rat.intCast_neg] at h4
    exact ⟨h4, h5⟩
  have key := div_bits hA da (iz_fr hs) dh is hs' e (by omega)
  obtain ⟨j, hj, ej⟩ := mem_getD hn
  have hb := key j
  unfold fr Bdr at hb
  rw [ej] at hb
  obtain ⟨b1, b2⟩ := hb
  have e2 : (256 ^ (hs.length - 1) * (2 ^ k * 128 ^ (as.length - 1 + 1)) : Nat) = 2 ^ (8 * (hs.length - 1) + (k + 7 * (as.length - 1 + 1))) := by
    rw [show (256 : Nat) = 2 ^ 8 by decide, show (128 : Nat) = 2 ^ 7 by decide, ← Nat.pow_mul, ← Nat.pow_mul, ← Nat.pow_add, ← Nat.pow_add]
  rw [e2] at b1 b2
  rw [← Rat.intCast_neg] at b1
  have c1 := Rat.intCast_le_intCast.mp b1
  have c2 := Rat.intCast_le_intCast.mp b2
  refine PySem.intBits_le_iff.mpr ?_
  have c3 : n.natAbs ≤ 2 ^ (8 * (hs.length - 1) + (k + 7 * (as.length - 1 + 1))) := by omega
  refine Nat.lt_of_le_of_lt c3 (Nat.pow_lt_pow_right (by decide) (by omega))
section
variable {P : Program} {w : World} {K : PySem.W.Frag} {mg : Str → Option Value} {base : Heap} {C Z CP : Addr}
structure TxCd (P : Program) (w : World) (K : PySem.W.Frag) (mg : Str → Option Value) (base : Heap) (C Z CP : Addr) (fIz fDg fMo fPr fCs fOn fRd fP : Addr) (fdIz fdDg fdMo fdPr fdCs fdOn fdRd fdP : FuncData) : Prop where
  mIz : Meth K CP "is_zero" fIz
  bIz : Binds K fdIz ["self"] []
  fnIz : FnOk P w K mg base CX0 1 fIz fdIz ["self"] (spPIz C CP)
  mDg : Meth K CP "degree" fDg
  bDg : Binds K fdDg ["self"] []
  fnDg : FnOk P w K mg base CX0 1 fDg fdDg ["self"] (spPDg C CP)
  mMo : Meth K CP "monic" fMo
  bMo : Binds K fdMo ["self"] []
  fnMo : FnOk P w K mg base CX0 46 fMo fdMo ["self"] (spPMo C CP)
  mPr : Meth K CP "primitive" fPr
  bPr : Binds K fdPr ["self"] []
  fnPr : FnOk P w K mg base (L2.CX P w) 43 fPr fdPr ["self"] (spPPr C Z CP)
  gCs : mg "constant" = some (.ref fCs)
  kCs : PySem.W.keepIn K (.ref fCs) = true
  bCs : Binds K fdCs ["r"] []
  fnCs : FnOk P w K mg base CX0 45 fCs fdCs ["r"] (spCst C CP)
  gOn : mg "one" = some (.ref fOn)
  kOn : PySem.W.keepIn K (.ref fOn) = true
  bOn : Binds K fdOn [] []
  fnOn : FnOk P w K mg base CX0 43 fOn fdOn [] (spMk C 1 1)
  gRd : mg "row_divisor" = some (.ref fRd)
  kRd : PySem.W.keepIn K (.ref fRd) = true
  bRd : Binds K fdRd ["a", "b"] []
  fnRd : FnOk P w K mg base CX0 44 fRd fdRd ["a", "b"] spRowD
  mp : MkP P w K mg base C CP fP fdP
abbrev nCd : List Str := ["p", "q"]
theorem scCd : FnScope nCd ["p", "q"] (defScope sCd) := ⟨rfl, rfl, rfl, by decide +kernel, rfl, by decide +kernel, by decide +kernel⟩
theorem gc_const {a b : Fr} {c : Rat} {n : Nat} {N : Nat} (h : Dg a 0) (hb : Fs b N) : Gc a b one1 := by
  have e : a = fun j => a 0 * one1 j := funext fun j => by
    by_cases c : j = 0
    · rw [c]
      show a 0 = a 0 * (if 0 = 0 then 1 else 0)
      rw [if_pos rfl]
      grind
    · rw [h.s j (by omega)]
      show (0 : Rat) = a 0 * (if j = 0 then 1 else 0)
      rw [if_neg c]
      grind
  refine ⟨dv_one a h.s, dv_one b hb, fun j => 1 / a 0 * one1 j, fun _ => 0, 1, fun j hj => by dsimp only; rw [fs_one j hj]; grind, fun _ _ => rfl, fun j => ?_⟩
  have h0 := h.t
  rw [cv_zl, cv_sc', cv_one]
  have := congrFun e j
  rw [this]
  show one1 j = 1 / a 0 * (a 0 * one1 j) + 0
  grind
theorem psz_one {k : Nat} (h : 1 ≤ k) : PSz k [((1 : Int), (1 : Int))] := psz_ints (ms := [1]) h (by decide) fun n hn => by
  rw [List.mem_singleton.mp hn]
  exact Nat.le_trans (by decide) h
theorem row_oneQ : rowF [((1 : Int), (1 : Int))] = one1 := by
  have := row_ints [1]
  rw [fr_one] at this
  exact this
theorem ok_cd {f fIz fDg fMo fPr fCs fOn fRd fP : Addr} {fd fdIz fdDg fdMo fdPr fdCs fdOn fdRd fdP : FuncData} (F : Fun K "common_divisor" "common_divisor" sCd f fd) (TP : TxP K mg CP)
    (L : TxCd P w K mg base C Z CP fIz fDg fMo fPr fCs fOn fRd fP fdIz fdDg fdMo fdPr fdCs fdOn fdRd fdP) : FnOk P w K mg base CX0 47 f fd ["p", "q"] (spCd C CP) := by
  refine F.ok scCd (fun vs H Q E h => ?_) (fun cdv A outer s H vs Q E hr h => ?_)
  · obtain ⟨p, q, as, bs, k, rfl, _⟩ := h
    rfl
  · obtain ⟨p, q, as, bs, kk, rfl, hpa, hpb, za, zb, la, lb, hsz, hsz2, res⟩ := h
    have h1 := hr.mono (show 1 ≤ 46 by decide)
    have h43 := hr.mono (show 43 ≤ 46 by decide)
    have h44 := hr.mono (show 44 ≤ 46 by decide)
    have h45 := hr.mono (show 45 ≤ 46 by decide)
    refine ⟨_, pss_cons (ps_if (pt_val (pe_meth0 (pv 0) TP.cl L.mIz L.fnIz h1 L.bIz .nil pass0)) (pss_one (ps_ret (pe_meth0 (pv 1) TP.cl L.mMo L.fnMo hr L.bMo .nil pass0))) pss_nil)
      (pss_cons (ps_if (pt_val (pe_meth0 (pv 1) TP.cl L.mIz L.fnIz h1 L.bIz .nil pass0)) (pss_one (ps_ret (pe_meth0 (pv 0) TP.cl L.mMo L.fnMo hr L.bMo .nil pass0))) pss_nil)
      (pss_cons (ps_if (PW.pt (pw_or (pt_cmpR op_eq (pe_meth0 (pv 0) TP.cl L.mDg L.fnDg h1 L.bDg .nil pass0) pe_int (nomark _)) (pw_or1 (pt_cmpR op_eq (pe_meth0 (pv 1) TP.cl L.mDg L.fnDg h1 L.bDg .nil pass0) pe_int (nomark _))))) (pss_one (ps_ret (pe_call L.fnCs h45 (by rfl) L.gCs L.kCs L.bCs .nil pass0 (pa_cons (pe_call0 L.fnOn h43 (by rfl) L.gOn L.kOn L.bOn .nil pass0) pa_nil)))) pss_nil)
      (pss_one (ps_ret (pe_meth0 (pe_make L.mp.cm L.mp.fn h44 (by rfl) TP.mgP L.mp.b .nil pass0 (pa_cons (pe_call L.fnRd h44 (by rfl) L.gRd L.kRd L.bRd .nil pass0 (pa_cons (pe_ix ix_tup (pe_meth0 (E := E0) (pv 0) TP.cl L.mPr L.fnPr h43 L.bPr .nil passL) pe_int fun _ _ => rfl) (pa_cons (pe_ix ix_tup (pe_meth0 (E := E0) (pv 1) TP.cl L.mPr L.fnPr h43 L.bPr .nil passL) pe_int fun _ _ => rfl) pa_nil))) pa_nil)) TP.cl L.mMo L.fnMo hr L.bMo .nil pass0))))), ?_⟩
    have hpa' := hpa
    have hpb' := hpb
    obtain ⟨dp, _, _, ep, _⟩ := hpa'
    obtain ⟨dq, _, _, eq, _⟩ := hpb'
    have kk10 : kk ≤ 10000000 := by omega
    have kle : kk ≤ kcd kk (max as.length bs.length) := by unfold kcd; omega
    have kk40 : kk ≤ 40000000 := by omega
    refine ⟨_, rfl, p, dp, _, rfl, ep, by rfl, p, as, rfl, hpa, _, rfl, ite2 (fun ca => ?_) (fun ca => ?_)⟩
    · have ca : as = [] := List.length_eq_zero_iff.mp (of_decide_eq_true ca)
      subst ca
      refine ⟨_, rfl, q, dq, _, rfl, eq, by rfl, q, bs, kk, rfl, hpb, zb, kk40, fun e => ?_, fun x hx H1 t qs s1 ht zt lt rt => ?_⟩
      · subst e
        exact res H q [] same_rfl hpb (psz_mono zb kle) ⟨by rw [rowF_nilF]; exact Gc.zr, fun _ _ => rfl, fun h => (h.elim (fun z => absurd rfl z) fun z => absurd rfl z), Nat.zero_le _⟩
      · obtain ⟨d, e1, e2, e3, e4, _⟩ := monic_ok hpb.trim zb.1 ht.trim zt.1 hx rt
        refine res H1 t qs s1 ht (psz_mono zt kle) ⟨?_, fun _ e => ?_, fun _ => ⟨d, e2, e3⟩, by omega⟩
        · rw [rowF_nilF, show rowF qs = fun j => 1 / rv x * rowF bs j from funext fun j => by rw [rt j]; grind]
          exact (Gc.zr.swap).sc (by grind)
        · rw [e] at e1
          cases e1
    have ca : ¬ as.length = 0 := fun z => ca (decide_eq_true z)
    have na : as ≠ [] := fun e => ca (by rw [e]; rfl)
    refine ⟨_, rfl, q, dq, _, rfl, eq, by rfl, q, bs, rfl, hpb, _, rfl, ite2 (fun cb => ?_) (fun cb => ?_)⟩
    · have cb : bs = [] := List.length_eq_zero_iff.mp (of_decide_eq_true cb)
      subst cb
      refine ⟨_, rfl, p, dp, _, rfl, ep, by rfl, p, as, kk, rfl, hpa, za, kk40, fun e => absurd e na, fun x hx H1 t qs s1 ht zt lt rt => ?_⟩
      obtain ⟨d, e1, e2, e3, e4, _⟩ := monic_ok hpa.trim za.1 ht.trim zt.1 hx rt
      refine res H1 t qs s1 ht (psz_mono zt kle) ⟨?_, fun e _ => absurd e na, fun _ => ⟨d, e2, e3⟩, by omega⟩
      rw [rowF_nilF, show rowF qs = fun j => 1 / rv x * rowF as j from funext fun j => by rw [rt j]; grind]
      exact Gc.zr.sc (by grind)
    have cb : ¬ bs.length = 0 := fun z => cb (decide_eq_true z)
    have nb : bs ≠ [] := fun e => cb (by rw [e]; rfl)
    obtain ⟨n, hn⟩ := len_ne na
    obtain ⟨m, hm⟩ := len_ne nb
    have Da := dg_row hpa.trim za.1 hn
    have Db := dg_row hpb.trim zb.1 hm
    have ret1 : Gc (rowF as) (rowF bs) one1 → spMk C 1 1 [] H (fun v H1 => spCst C CP [v] H1 Q E0) E0 := fun g => ⟨rfl, fun o H1 ho s1 _ => ⟨o, (1, 1), 1, rfl, ho, ⟨by decide, by decide⟩, by decide, by decide, Nat.le_refl _, by decide, fun H2 t s2 ht zt => by
      rw [show trimQ [((1 : Int), (1 : Int))] = [(1, 1)] from rfl] at ht zt
      refine res H2 t _ (s1.trans s2) ht (psz_one (by unfold kcd; omega)) ⟨by rw [row_oneQ]; exact g, fun e _ => absurd e na, fun _ => ⟨0, rfl, by rw [row_oneQ]; rfl⟩, by show 1 ≤ _; omega⟩⟩⟩
    refine ⟨_, rfl, p, dp, _, rfl, ep, by rfl, p, as, rfl, hpa, rfl, _, rfl, ite2 (fun c1 => ?_) (fun c1 => ?_)⟩
    · have c1 := V.int.inj (of_decide_eq_true c1)
      have : n = 0 := by omega
      subst this
      exact iteT (ret1 (gc_const (c := 0) (n := 0) Da (fs_row bs)))
    refine ⟨_, rfl, q, dq, _, rfl, eq, by rfl, q, bs, rfl, hpb, rfl, _, rfl, ite2 (fun c2 => ?_) (fun c2 => ?_)⟩
    · have c2 := V.int.inj (of_decide_eq_true c2)
      have : m = 0 := by omega
      subst this
      exact ret1 (gc_const (c := 0) (n := 0) Db (fs_row as)).swap
    -- both of positive degree
    refine ⟨_, rfl, p, dp, _, rfl, ep, by rfl, p, as, kk, rfl, hpa, za, kk40, fun e => absurd e na, fun _ H1 t r u qa msa s1 ht hr1 lqa ba1 ba2 hu hla hba hga hpa1 hrowa => ?_⟩
    refine ⟨t, _, _, V.ref u, rfl, rfl, SqT.of ht, atI_of (k := 1) rfl, ?_⟩
    refine ⟨_, rfl, q, dq, _, rfl, s1 _ _ eq, by rfl, q, bs, kk, rfl, (PolyAt.stb C CP).same s1 hpb, zb, kk40, fun e => absurd e nb, fun _ H2 t2 r2 u2 qb msb s2 ht2 hr2 lqb bb1 bb2 hu2 hlb hbb hgb hpb1 hrowb => ?_⟩
    refine ⟨t2, _, _, V.ref u2, rfl, rfl, SqT.of ht2, atI_of (k := 1) rfl, ?_⟩
    have pa : Pr msa := ⟨fun e => (by rw [e] at hla; rw [hn] at hla; cases hla), hga, hpa1⟩
    have pb : Pr msb := ⟨fun e => (by rw [e] at hlb; rw [hm] at hlb; cases hlb), hgb, hpb1⟩
    refine ⟨u, u2, msa, msb, kk, rfl, .inr (s2 _ _ hu), .inr hu2, pa, pb, by omega, by omega, hba, hbb, by rw [hla, hlb]; exact hsz, by rw [hla]; exact hsz2, fun H3 l hs s3 hl ph G => ?_⟩
    have qa0 : rv qa ≠ 0 := fun e => Da.t (by rw [hrowa n, e]; grind)
    have qb0 : rv qb ≠ 0 := fun e => Db.t (by rw [hrowb m, e]; grind)
    have G2 : Gc (rowF as) (rowF bs) (fr hs) := by
      have g1 := ((G.scr qb0).swap.scr qa0).swap
      rwa [show (fun j => rv qa * fr msa j) = rowF as from funext fun j => (hrowa j).symm, show (fun j => rv qb * fr msb j) = rowF bs from funext fun j => (hrowb j).symm] at g1
    obtain ⟨hlen, hbits⟩ := pr_bits pa ph hba (by omega) G.l
    have lh := List.length_pos_iff.mpr ph.ne
    have hk2 : ∀ n ∈ hs, intBits n ≤ kcd kk (max as.length bs.length) := fun x hx => by
      have := hbits x hx
      unfold kcd
      omega
    have kc40 : kcd kk (max as.length bs.length) ≤ 40000000 := by unfold kcd; omega
    have zh : PSz (kcd kk (max as.length bs.length)) (hs.map fun n => ((n, 1) : Q2)) := psz_ints (by unfold kcd; omega) (by omega) hk2
    intro x dx nx ndx nex
    refine mkP_ok2 (qs := hs.map fun n => ((n, 1) : Q2)) hl (mix_ints hs) zh kc40 nx ndx nex fun H4 hP s4 => ⟨rfl, ?_⟩
    rw [trim_self (pos_trim ph.pos)] at hP
    have hP' := hP
    obtain ⟨dy, _, _, ey, _⟩ := hP'
    refine ⟨x, dy, _, rfl, ey, by rfl, x, _, _, rfl, hP, zh, kc40, fun e => ?_, fun y hy H5 t5 qs s5 ht5 zt lt rt => ?_⟩
    · have := congrArg List.length e
      rw [List.length_map] at this
      exact absurd (List.length_eq_zero_iff.mp this) ph.ne
    · obtain ⟨d, e1, e2, e3, e4, _⟩ := monic_ok hP.trim zh.1 ht5.trim zt.1 hy rt
      rw [List.length_map] at e1
      have s25 := ((s2.trans s3).trans s4).trans s5
      refine res H5 t5 qs (s1.trans s25) ht5 zt ⟨?_, fun e _ => absurd e na, fun _ => ⟨d, e2, e3⟩, by omega⟩
      rw [show rowF qs = fun j => 1 / rv y * fr hs j from funext fun j => by rw [rt j, row_ints]; grind]
      exact G2.sc (by grind)
end
end Ind

set_option Elab.async false
set_option linter.all false
set_option maxRecDepth 100000
set_option maxHeartbeats 4000000
set_option exponentiation.threshold 20000
namespace Ind
open PySem PySem.Spec PyProof.Rows L2
open Builtin.Int (intBits)
theorem Gc.unstep {a b q r g : Fr} {c : Rat} {N : Nat} (hc : c ≠ 0) (hq : Fs q N) (e : ∀ j, c * a j = cv q b j + r j) (h : Gc a b g) : Gc b r g := by
  have er : r = fun j => c * a j + -1 * cv q b j := funext fun j => by
    have := e j
    grind
  refine ⟨h.r, ?_, ?_⟩
  · rw [er]
    exact (h.l.sc c).add ((h.r.mul hq).sc (-1))
  · obtain ⟨u, v, M, hu, hv, z⟩ := h.m
    refine ⟨fun j => 1 / c * cv u q j + v j, fun j => 1 / c * u j, max (M + N) M, fun j hj => ?_, fun j hj => by dsimp only; rw [hu j (by omega)]; grind, fun j => ?_⟩
    · show 1 / c * cv u q j + v j = 0
      rw [cv_out hu hq j (by omega), hv j (by omega)]
      grind
    · rw [cv_addl, cv_sc', cv_sc', z j, cv_assoc]
      have ea : a = fun j => 1 / c * (cv q b j + r j) := funext fun j => by
        have := e j
        grind
      have e2 : cv u a j = 1 / c * (cv u (cv q b) j + cv u r j) := by
        rw [ea, cv_scr', cv_comm, cv_addl, cv_comm _ u, cv_comm r u]
      rw [e2]
      grind
/-- who divides one is a number -/
theorem Dv.one {g : Fr} {n : Nat} (hg : Dg g n) (h : Dv g one1) : n = 0 := by
  have := h.dg hg dg_one
  omega
/-- the size of the cofactor of a monic divisor -/
theorem cof_psz {as gs qs : List Q2} {k d : Nat} (za : PSz k as) (la : as.length ≤ 60) (ta : Trim as) (tg : Trim gs) (lg : ∀ q ∈ gs, Lo q) (hd : gs.length = d + 1) (hm : rowF gs d = 1) (tq : Trim qs) (lq : ∀ q ∈ qs, Lo q) (lql : qs.length ≤ 100)
    (e : ∀ j, rowF as j = cv (rowF qs) (rowF gs) j) : PSz (2 * k + 16 * as.length + 2) qs := by
  by_cases q0 : qs = []
  · subst q0
    exact ⟨fun q hq => (by cases hq), by decide, 1, by decide, Nat.le_trans (show intBits 1 ≤ 1 by decide) (by omega), fun q hq => (by cases hq)⟩
  obtain ⟨nq, hnq⟩ := len_ne q0
  have Dq := dg_row tq lq hnq
  have Dgs := dg_row tg lg hd
  have Da : Dg (rowF as) (nq + d) := by
    have := dg_cv Dq Dgs
    rwa [← funext e] at this
  have a0 : as ≠ [] := fun z => Da.t (by rw [z]; exact rowF_nil _)
  obtain ⟨na, hna⟩ := len_ne a0
  have en : na = nq + d := dg_uniq (dg_row ta za.1 hna) Da
  obtain ⟨bB, bN⟩ := psz_lcm za
  have pB := lcmD_pos za.1
  have hnf := num_fr za.1
  have hnl := parts_len2 ((lcmD as : Nat) : Int) as
  generalize partsOf ((lcmD as : Nat) : Int) as = ns at bN hnf hnl
  generalize hBe : ((lcmD as : Nat) : Int) = B at *
  have hB := cst_ne (show B ≠ 0 by omega)
  -- the divisor as a primitive row of whole numbers
  obtain ⟨D, d0, iD⟩ := den_row Dgs.s
  have hD : ((D : Int) : Rat) ≠ 0 := cst_ne (by omega)
  obtain ⟨z, hz⟩ := iD d
  obtain ⟨c, h, hc, ih, pr, eh⟩ := pri_ex _ (fun j => ((D : Int) : Rat) * rowF gs j) d iD (dg_sc Dgs hD) ⟨z, hz, rfl⟩
  -- rowF gs = c1 h
  obtain ⟨c1, hc1⟩ : ∃ c1, c1 = c / ((D : Int) : Rat) := ⟨_, rfl⟩
  have c10 : c1 ≠ 0 := fun w => hc (by rw [w] at hc1; grind)
  have eg : rowF gs = fun j => c1 * h j := funext fun j => by
    have := eh j
    rw [hc1]
    grind
  have Dh : Dg h d := by
    have : h = fun j => 1 / c1 * rowF gs j := funext fun j => by rw [eg]; grind
    rw [this]
    exact dg_sc Dgs (by grind)
  -- the whole row is E times h
  have ea : ∀ j, fr ns j = cv (fun j => ((B : Int) : Rat) * c1 * rowF qs j) h j := fun j => by
    rw [cv_sc']
    have h1 : fr ns j = ((B : Int) : Rat) * rowF as j := hnf j
    rw [h1, e j, eg, cv_scr']
    grind
  have iE := gauss (iz_fr ns) ih pr (q := fun j => ((B : Int) : Rat) * c1 * rowF qs j) (N := qs.length) (fun j hj => by dsimp only; rw [fs_row qs j hj]; grind) ea
  have DE : Dg (fun j => ((B : Int) : Rat) * c1 * rowF qs j) nq := dg_sc Dq (by
    intro w
    rcases Rat.mul_eq_zero.mp w with v | v
    · exact hB v
    · exact c10 v)
  have Dn : Dg (fr ns) (nq + d) := by
    have := dg_cv DE Dh
    rwa [← funext ea] at this
  have hA : ∀ j, Bdr (fr ns j) (((2 ^ k : Nat) : Int) : Rat) := fun j => by
    have h1 := PySem.intBits_le_iff.mp (bits_getD bN j)
    unfold fr Bdr
    have h2 : -((2 ^ k : Nat) : Int) ≤ ns.getD j 0 := by omega
    have h3 : ns.getD j 0 ≤ ((2 ^ k : Nat) : Int) := by omega
    have h4 := Rat.intCast_le_intCast.mpr h2
    have h5 := Rat.intCast_le_intCast.mpr h3
    rw [Rat.intCast_neg] at h4
    exact ⟨h4, h5⟩
  have key := div_bits hA Dn iE DE ih Dh.s (fun j => by rw [ea j, cv_comm]) (by omega)
  -- the divisor's last item
  have lc : c1 * h d = 1 := by
    have := congrFun eg d
    rw [hm] at this
    exact this.symm
  obtain ⟨l, hl⟩ := ih d
  have l0 : l ≠ 0 := fun w => Dh.t (by rw [hl, w]; rfl)
  have hlb : l.natAbs ≤ 2 ^ k := by
    have t1 := ea (nq + d)
    rw [cv_top DE.s Dh.s] at t1
    obtain ⟨y, hy⟩ := iE nq
    dsimp only at hy
    rw [hy, hl, ← Rat.intCast_mul] at t1
    have t2 : ns.getD (nq + d) 0 = y * l := by
      unfold fr at t1
      exact_mod_cast t1
    have y0 : y ≠ 0 := fun w => DE.t (by
      show ((B : Int) : Rat) * c1 * rowF qs nq = 0
      rw [hy, w]
      rfl)
    have h1 := PySem.intBits_le_iff.mp (bits_getD bN (nq + d))
    rw [t2, Int.natAbs_mul] at h1
    have := Nat.le_mul_of_pos_left l.natAbs (show 0 < y.natAbs by omega)
    omega
  refine mq_psz (M := B) (B := 2 ^ k * 2 ^ (8 * nq + (k + 7 * (nq + d + 1)))) (by omega) (fun q hq => ?_) ?_ ?_ lql
  · refine ⟨lq q hq, ?_⟩
    obtain ⟨j, hj, ej⟩ := List.getElem_of_mem hq
    have er : rowF qs j = rv q := by
      unfold rowF
      rw [getD_q (by rw [List.getElem?_eq_getElem hj, ej])]
    obtain ⟨y, hy⟩ := iE j
    refine ⟨l * y, ?_, ?_⟩
    · rw [Rat.intCast_mul, ← hy, ← hl, ← er]
      have : h d * (((B : Int) : Rat) * c1 * rowF qs j) = (c1 * h d) * (((B : Int) : Rat) * rowF qs j) := by grind
      rw [this, lc]
      grind
    · rw [Int.natAbs_mul]
      refine Nat.mul_le_mul hlb ?_
      have hb := key j
      unfold Bdr at hb
      dsimp only at hy
      rw [hy] at hb
      obtain ⟨b1, b2⟩ := hb
      have e2 : (256 ^ nq * (2 ^ k * 128 ^ (nq + d + 1)) : Nat) = 2 ^ (8 * nq + (k + 7 * (nq + d + 1))) := by
        rw [show (256 : Nat) = 2 ^ 8 by decide, show (128 : Nat) = 2 ^ 7 by decide, ← Nat.pow_mul, ← Nat.pow_mul, ← Nat.pow_add, ← Nat.pow_add]
      rw [e2] at b1 b2
      rw [← Rat.intCast_neg] at b1
      have c1' := Rat.intCast_le_intCast.mp b1
      have c2 := Rat.intCast_le_intCast.mp b2
      omega
  · rw [← Nat.pow_add]
    exact Nat.pow_lt_pow_right (by decide) (by omega)
  · have h1 := PySem.intBits_le_iff.mp bB
    exact Nat.lt_of_lt_of_le h1 (Nat.pow_le_pow_right (by decide) (by omega))
/-- sizes along Euclid's steps over polynomials -/
def EuD (la lb M : Nat) : Prop := (lb < la ∧ M * 3 ^ la ≤ 1700000) ∨ (la ≤ lb ∧ M * 3 ^ (lb + 1) ≤ 1700000)
theorem eud_start {la lb M : Nat} (h : M * 3 ^ (max la lb + 1) ≤ 1700000) : EuD la lb M := by
  by_cases c : lb < la
  · exact .inl ⟨c, Nat.le_trans (Nat.mul_le_mul_left _ (Nat.pow_le_pow_right (by decide) (by omega))) h⟩
  · right
    rw [Nat.max_eq_right (by omega)] at h
    exact ⟨by omega, h⟩
theorem eud_step {la m M : Nat} (h : EuD la (m + 1) M) (hM : 3 ≤ M) (hla : 1 ≤ la) : (M - 3) + (la - m) * (M - 3 + 1) + (M - 3) ≤ 5100000 ∧ ∃ M', M ≤ M' ∧ (M - 3) + (la - m) * (M - 3 + 1) + 4 ≤ M' ∧ (m + 1 < la → M' = (la - m + 1) * M) ∧ M' ≤ 1700000 ∧ ∀ lb', lb' ≤ m → EuD (m + 1) lb' M' := by
  have p1 : 0 < 3 ^ (m + 1) := Nat.pow_pos (by decide)
  rcases h with ⟨h1, h2⟩ | ⟨h1, h2⟩
  · obtain ⟨g, hg⟩ : ∃ g, la = m + 1 + g := ⟨la - (m + 1), by omega⟩
    subst hg
    have hg1 : 1 ≤ g := by omega
    have e3 := three_pow g hg1
    have e1 : m + 1 + g - m = g + 1 := by omega
    rw [e1]
    have key : (g + 2) * M * 3 ^ (m + 1) ≤ 1700000 := by
      refine Nat.le_trans ?_ h2
      rw [Nat.pow_add 3 (m + 1) g]
      have := Nat.mul_le_mul_right (M * 3 ^ (m + 1)) e3
      have a1 : (g + 2) * M * 3 ^ (m + 1) = (g + 2) * (M * 3 ^ (m + 1)) := Nat.mul_assoc _ _ _
      have a2 : M * (3 ^ (m + 1) * 3 ^ g) = 3 ^ g * (M * 3 ^ (m + 1)) := by rw [Nat.mul_comm (3 ^ g), Nat.mul_assoc]
      omega
    have big : (g + 2) * M ≤ 1700000 := Nat.le_trans (Nat.le_mul_of_pos_right _ p1) key
    have b1 : (g + 1) * (M - 3 + 1) ≤ (g + 1) * (M - 2) := Nat.mul_le_mul_left _ (by omega)
    have b3 : (g + 1) * (M - 2) + (g + 1) * 2 = (g + 1) * M := by rw [← Nat.mul_add, show M - 2 + 2 = M by omega]
    have b2 : (g + 2) * M = (g + 1) * M + M := by rw [show g + 2 = g + 1 + 1 by omega, Nat.add_mul _ 1, Nat.one_mul]
    exact ⟨by omega, (g + 2) * M, by omega, by omega, fun _ => by rw [show g + 1 + 1 = g + 2 by omega], big, fun lb' hlb => .inl ⟨by omega, key⟩⟩
  · have e0 : M * 3 ^ (m + 1 + 1) = 3 * (M * 3 ^ (m + 1)) := by rw [Nat.pow_succ 3 (m + 1), Nat.mul_comm (3 ^ (m + 1)) 3, Nat.mul_left_comm]
    have e1 := Nat.le_mul_of_pos_right M p1
    have e2 : la - m ≤ 1 := by omega
    have e3 : (la - m) * (M - 3 + 1) ≤ 1 * (M - 3 + 1) := Nat.mul_le_mul_right _ e2
    refine ⟨by omega, 2 * M, by omega, by omega, fun h => by omega, by omega, fun lb' hlb => .inl ⟨by omega, ?_⟩⟩
    rw [Nat.mul_assoc]
    omega
theorem exact_div {k d m : Nat} {as bs qs rs : List Q2} (tb : Trim bs) (lb : ∀ q ∈ bs, Lo q) (hm : bs.length = m + 1) (ok : DvOk k d as bs qs rs) (h : Dv (rowF bs) (rowF as)) : ∀ j, rowF as j = cv (rowF qs) (rowF bs) j := by
  obtain ⟨s, N, hs, e⟩ := h
  have D := dg_row tb lb hm
  have h2 := (div_uniq (N := max N qs.length) (s := s) (r := fun _ => 0) (s' := rowF qs) (r' := rowF rs) D.s D.t (hs.mono (Nat.le_max_left _ _)) ((fs_row qs).mono (Nat.le_max_right _ _)) (fun _ _ => rfl) (fun j hj => fs_row rs j (by have := ok.lr; omega)) fun j => by
    rw [← ok.id j, ← e j]
    grind).2
  intro j
  rw [ok.id j, ← h2 j]
  grind
end Ind

set_option Elab.async false
set_option linter.all false
set_option maxRecDepth 100000
set_option maxHeartbeats 4000000
set_option exponentiation.threshold 20000
namespace Ind
open PySem PySem.Spec PyProof.Rows L2
open Builtin.Int (intBits)
abbrev sRF : Stmt := inClass (top 43) 0
/-! ### a rational function -/
def rff (n d : Addr) : List (Str × V) := putF "den" (.ref d) (putF "num" (.ref n) [])
theorem rff_num (n d : Addr) : (rff n d).lookup ("num" : Str) = some (.ref n) := by
  unfold rff
  rw [lookup_putF, if_neg (by decide +kernel), lookup_putF, if_pos rfl]
theorem rff_den (n d : Addr) : (rff n d).lookup ("den" : Str) = some (.ref d) := by
  unfold rff
  rw [lookup_putF, if_pos rfl]
theorem rff_no (n d : Addr) {m : Str} (h1 : ¬ m = "den") (h2 : ¬ m = "num") : (rff n d).lookup m = none := by
  unfold rff
  rw [lookup_putF, if_neg h1, lookup_putF, if_neg h2]
  all_goals rfl
def FunAt (C CP CF : Addr) (H : Hp) (f : Addr) (ns ds : List Q2) : Prop := ∃ dx pn pd, H f = some (.ins CF dx (rff pn pd)) ∧ PolyAt C CP H pn ns ∧ PolyAt C CP H pd ds
theorem FunAt.same {C CP CF : Addr} {H H' : Hp} {f : Addr} {ns ds : List Q2} (s : Same H H') (h : FunAt C CP CF H f ns ds) : FunAt C CP CF H' f ns ds :=
  let ⟨dx, pn, pd, e, a, b⟩ := h
  ⟨dx, pn, pd, s _ _ e, (PolyAt.stb C CP).same s a, (PolyAt.stb C CP).same s b⟩
/-- what the top says of RatFun -/
structure TxF (K : PySem.W.Frag) (mg : Str → Option Value) (CF : Addr) : Prop where
  cl : Cls K CF
  nN : NoAttr K CF "num"
  nD : NoAttr K CF "den"
  g : mg "RatFun" = some (.ref CF)
/-- num/den in lowest terms, the denominator monic -/
structure RfOk (as bs ns ds : List Q2) : Prop where
  x : ∀ j, cv (rowF ns) (rowF bs) j = cv (rowF as) (rowF ds) j
  g : Gc (rowF ns) (rowF ds) one1
  m : ∃ d, ds.length = d + 1 ∧ rowF ds d = 1
  ln : ns.length ≤ as.length
  ld : ds.length ≤ bs.length
/-- the sizes that a greatest common divisor asks for -/
def GSz (k a b : Nat) : Prop := a ≤ 50 ∧ b ≤ 50 ∧ (a + b) * (k + 8) ≤ 9600 ∧ 2 * k + 16 * a + 2 ≤ 9600
def krf (k n : Nat) : Nat := 4 * k + 32 * n + 8
def spRF (C Z CP CF : Addr) : Sp := fun vs H Q E => ∃ (f dx pn pd : Addr) (as bs : List Q2) (k : Nat), vs = [.ref f, .ref pn, .ref pd] ∧ H f = some (.ins CF dx []) ∧ PolyAt C CP H pn as ∧ PolyAt C CP H pd bs ∧ PSz k as ∧ PSz k bs ∧ GSz k as.length bs.length ∧ (bs = [] → E (.ref Z) none H) ∧
  (bs ≠ [] → ∀ (H' : Hp) (ns ds : List Q2), FunAt C CP CF H' f ns ds → (∀ b o, H b = some o → b ≠ f → H' b = some o) → RfOk as bs ns ds → PSz (krf k (max as.length bs.length)) ns → PSz (krf k (max as.length bs.length)) ds → Q .non H')
theorem gc_scl {a b : Fr} {c : Rat} (hc : c ≠ 0) (h : Gc a b one1) : Gc (fun j => c * a j) (fun j => c * b j) one1 := by
  obtain ⟨u, v, N, hu, hv, e⟩ := h.m
  refine ⟨h.l.sc c, h.r.sc c, fun j => 1 / c * u j, fun j => 1 / c * v j, N, fun j hj => by dsimp only; rw [hu j hj]; grind, fun j hj => by dsimp only; rw [hv j hj]; grind, fun j => ?_⟩
  rw [cv_sc', cv_sc', cv_scr', cv_scr', e j]
  grind
theorem polyAt_up {C CP CF dx p q : Addr} {H : Hp} {fs : List (Str × V)} {o : HO} {qs : List Q2} (hp : H p = some (.ins CF dx fs)) (h1 : fs.lookup ("row" : Str) = none) (h2 : fs.lookup ("n" : Str) = none) (h : PolyAt C CP H q qs) : PolyAt C CP (upd H p o) q qs := by
  obtain ⟨dq, r, nb, e, ⟨ps, er, hr⟩, en, t⟩ := h
  have ne : ∀ {a : Addr} {xs : List V}, H a = some (.tup xs) → a ≠ p := fun {a xs} e z => by
    rw [z, hp] at e
    cases e
  refine ⟨dq, r, nb, ?_, ⟨ps, ?_, ?_⟩, ?_, t⟩
  · rw [upd_ne (fun z => by
      rw [z, hp] at e
      have e6 := (HO.ins.inj (Option.some.inj e)).2.2
      rw [e6, pf_row] at h1
      cases h1)]
    exact e
  · rw [upd_ne (ne er)]
    exact er
  · refine Paired.imp (fun a b f => ?_) hr
    obtain ⟨dr, f⟩ := f
    refine ⟨dr, ?_⟩
    rw [upd_ne (fun z => by
      rw [z, hp] at f
      have e6 := (HO.ins.inj (Option.some.inj f)).2.2
      rw [e6, rf_n] at h2
      cases h2)]
    exact f
  · rw [upd_ne (ne en)]
    exact en
section
variable {P : Program} {w : World} {K : PySem.W.Frag} {mg : Str → Option Value} {base : Heap} {C Z CP CF : Addr}
structure TxRF (P : Program) (w : World) (K : PySem.W.Frag) (mg : Str → Option Value) (base : Heap) (C Z CP : Addr) (fIz fDg fMo fLa fIn fSc fCd fFd : Addr) (fdIz fdDg fdMo fdLa fdIn fdSc fdCd fdFd : FuncData) : Prop where
  mIz : Meth K CP "is_zero" fIz
  bIz : Binds K fdIz ["self"] []
  fnIz : FnOk P w K mg base CX0 1 fIz fdIz ["self"] (spPIz C CP)
  mDg : Meth K CP "degree" fDg
  bDg : Binds K fdDg ["self"] []
  fnDg : FnOk P w K mg base CX0 1 fDg fdDg ["self"] (spPDg C CP)
  mMo : Meth K CP "monic" fMo
  bMo : Binds K fdMo ["self"] []
  fnMo : FnOk P w K mg base CX0 46 fMo fdMo ["self"] (spPMo C CP)
  mLa : Meth K CP "last" fLa
  bLa : Binds K fdLa ["self"] []
  fnLa : FnOk P w K mg base (L2.CX P w) 2 fLa fdLa ["self"] (spPLa C Z CP)
  mIn : Meth K C "inverse" fIn
  bIn : Binds K fdIn ["self"] []
  fnIn : FnOk P w K mg base CX0 43 fIn fdIn ["self"] (spInvR C)
  mSc : Meth K CP "scaled" fSc
  bSc : Binds K fdSc ["self", "r"] []
  fnSc : FnOk P w K mg base CX0 46 fSc fdSc ["self", "r"] (spPSc C CP)
  gCd : mg "common_divisor" = some (.ref fCd)
  kCd : PySem.W.keepIn K (.ref fCd) = true
  bCd : Binds K fdCd ["p", "q"] []
  fnCd : FnOk P w K mg base CX0 47 fCd fdCd ["p", "q"] (spCd C CP)
  oFd : OwnR P w K mg base CP "__floordiv__" (spFd C Z CP) fFd fdFd
abbrev nRF : List Str := ["self", "num", "den", "common"]
theorem scRF : FnScope nRF ["self", "num", "den"] (defScope sRF) := ⟨rfl, rfl, rfl, by decide +kernel, rfl, by decide +kernel, by decide +kernel⟩
theorem ok_rf {f fIz fDg fMo fLa fIn fSc fCd fFd : Addr} {fd fdIz fdDg fdMo fdLa fdIn fdSc fdCd fdFd : FuncData} (F : Fun K "__init__" "RatFun.__init__" sRF f fd) (R : TxR K mg C Z) (TP : TxP K mg CP) (TF : TxF K mg CF)
    (L : TxRF P w K mg base C Z CP fIz fDg fMo fLa fIn fSc fCd fFd fdIz fdDg fdMo fdLa fdIn fdSc fdCd fdFd) : FnOk P w K mg base (L2.CX P w) 48 f fd ["self", "num", "den"] (spRF C Z CP CF) := by
  refine F.okX scRF (fun vs H Q E h => ?_) (fun cdv A outer s H vs Q E hr h => ?_)
  · obtain ⟨p, dx, pn, pd, as, bs, k, rfl, _⟩ := h
    rfl
  · obtain ⟨p, dx, pn, pd, as, bs, kk, rfl, hp, hpa, hpb, za, zb, ⟨la, lb, hsz, hsz2⟩, kz, res⟩ := h
    have h1 := hr.mono (show 1 ≤ 47 by decide)
    have h2 := hr.mono (show 2 ≤ 47 by decide)
    have h43 := hr.mono (show 43 ≤ 47 by decide)
    have h46 := hr.mono (show 46 ≤ 47 by decide)
    refine ⟨_, pss_cons (ps_if (pt_val (pe_meth0 (pv 2) TP.cl L.mIz L.fnIz h1 L.bIz .nil pass0)) (pss_one (ps_raise rfl (takes_of rfl rfl rfl rfl) (pmk_own PySem.F.excBase_ValueError R.xZ R.gZ R.kZ (raises_own R.bZ R.tZ) rfl))) pss_nil)
      (pss_cons (ps_set (i := 3) scRF.nd rfl (Or.inl rfl) (pe_call L.fnCd hr (by rfl) L.gCd L.kCd L.bCd .nil pass0 (pa_cons (pv 1) (pa_cons (pv 2) pa_nil))))
      (C8.pss_cut (ps_if (pt_cmpR op_gt (pe_meth0 (pv 3) TP.cl L.mDg L.fnDg h1 L.bDg .nil pass0) pe_int (nomark _))
          (pss_cons (ps_set (i := 1) scRF.nd rfl (Or.inl rfl) (pe_op (op_binO (E := E0) (m := "__floordiv__") (by rfl) ⟨L.oFd.fn, L.oFd.at_, L.oFd.isf, L.oFd.b, passL, L.oFd.first⟩ hr) (pv 1) (pv 3)))
          (pss_one (ps_set (i := 2) scRF.nd rfl (Or.inl rfl) (pe_op (op_binO (E := E0) (m := "__floordiv__") (by rfl) ⟨L.oFd.fn, L.oFd.at_, L.oFd.isf, L.oFd.b, passL, L.oFd.first⟩ hr) (pv 2) (pv 3))))) pss_nil)
      (pss_cons (ps_fld (pv 0) (pe_meth (pv 1) TP.cl L.mSc L.fnSc h46 L.bSc .nil pass0 (pa_cons (pe_meth0 (pe_meth0 (E := E0) (pv 2) TP.cl L.mLa L.fnLa h2 L.bLa .nil passL) R.cl L.mIn L.fnIn h43 L.bIn .nil pass0) pa_nil)) rfl)
      (pss_one (ps_fld (pv 0) (pe_meth0 (pv 2) TP.cl L.mMo L.fnMo h46 L.bMo .nil pass0) rfl))))), ?_⟩
    obtain ⟨n, hn⟩ : ∃ n, n = max as.length bs.length := ⟨_, rfl⟩
    rw [← hn] at res
    have n50 : n ≤ 50 := by omega
    have hpa' := hpa
    have hpb' := hpb
    obtain ⟨da, _, _, ea, _⟩ := hpa'
    obtain ⟨db, _, _, eb, _⟩ := hpb'
    have kk48 : kk ≤ 4799 := by omega
    refine ⟨_, rfl, pd, db, _, rfl, eb, by rfl, pd, bs, rfl, hpb, _, rfl, ite2 (fun c => ?_) (fun c => ?_)⟩
    · exact kz (List.length_eq_zero_iff.mp (of_decide_eq_true c))
    have nb : bs ≠ [] := fun e => c (by rw [e]; rfl)
    have res := res nb
    refine ⟨_, rfl, _, rfl, pn, pd, as, bs, kk, rfl, hpa, hpb, za, zb, by omega, by omega, hsz, hsz2, fun H1 g gs s1 hg zg GQ => ?_⟩
    obtain ⟨dd, hdd, hmon⟩ := GQ.mon (.inr nb)
    have ng : gs ≠ [] := fun e => by rw [e] at hdd; cases hdd
    have glen := GQ.len
    have Dgs := dg_row hg.trim zg.1 hdd
    have hkg : kcd kk (max as.length bs.length) ≤ 6000 := by unfold kcd; omega
    generalize kcd kk (max as.length bs.length) = kg at zg hkg
    have hpa1 := (PolyAt.stb C CP).same s1 hpa
    have hpb1 := (PolyAt.stb C CP).same s1 hpb
    have ea1 := s1 _ _ ea
    have eb1 := s1 _ _ eb
    obtain ⟨dg, _, _, eg, _⟩ := id hg
    refine ⟨fun σ' Ha => ∃ (qn qd : Addr) (cs ds : List Q2), σ' = [some (.ref p), some (.ref qn), some (.ref qd), some (.ref g)] ∧ Same H1 Ha ∧ PolyAt C CP Ha qn cs ∧ PolyAt C CP Ha qd ds ∧ PSz (2 * kk + 16 * n + 2) cs ∧ PSz (2 * kk + 16 * n + 2) ds ∧ ds ≠ [] ∧ cs.length ≤ as.length ∧ ds.length ≤ bs.length ∧ (∀ j, cv (rowF cs) (rowF bs) j = cv (rowF as) (rowF ds) j) ∧ Gc (rowF cs) (rowF ds) one1, ?_, ?_⟩
    · refine ⟨_, rfl, g, dg, _, rfl, eg, by rfl, g, gs, rfl, hg, _, _, rfl, rfl, _, rfl, ite2 (fun c2 => ?_) (fun c2 => ?_)⟩
      · have dvs : ∀ {rs : List Q2}, PSz kk rs → rs.length ≤ 50 → DvSz kk kg rs gs := fun {rs} z l => ⟨z, zg, by omega, by omega, by
          unfold gDv
          have hL : rs.length + 1 - gs.length ≤ 51 := by omega
          have := Nat.mul_le_mul hL (show kg + 1 ≤ 6001 by omega)
          omega⟩
        refine ⟨_, rfl, _, rfl, pn, da, _, g, dg, _, rfl, rfl, ea1, eg, pn, g, as, gs, rfl, hpa1, hg, fun e => absurd e ng, fun _ => ⟨kk, kg, dvs za la, fun H2 qn cs rs s2 hcs ok => ?_⟩⟩
        refine ⟨_, rfl, _, rfl, pd, db, _, g, dg, _, rfl, rfl, s2 _ _ eb1, s2 _ _ eg, pd, g, bs, gs, rfl, (PolyAt.stb C CP).same s2 hpb1, (PolyAt.stb C CP).same s2 hg, fun e => absurd e ng, fun _ => ⟨kk, kg, dvs zb lb, fun H3 qd ds rs2 s3 hds ok2 => ?_⟩⟩
        have xa := exact_div hg.trim zg.1 hdd ok GQ.gc.l
        have xb := exact_div hg.trim zg.1 hdd ok2 GQ.gc.r
        have l1 := ok.lq
        have l2 := ok2.lq
        have gl1 := List.length_pos_iff.mpr ng
        have zc := cof_psz za (by omega) hpa.trim hg.trim zg.1 hdd hmon ok.tq ok.q.1 (by omega) xa
        have zd := cof_psz zb (by omega) hpb.trim hg.trim zg.1 hdd hmon ok2.tq ok2.q.1 (by omega) xb
        refine ⟨qn, qd, cs, ds, rfl, s2.trans s3, (PolyAt.stb C CP).same s3 hcs, hds, psz_mono zc (by omega), psz_mono zd (by omega), fun e => ?_, by omega, by omega, fun j => ?_, ?_⟩
        · obtain ⟨m, hm⟩ := len_ne nb
          apply (dg_row hpb.trim zb.1 hm).t
          rw [xb m, e, rowF_nilF, cv_zl]
        · rw [show rowF bs = cv (rowF ds) (rowF gs) from funext xb, show rowF as = cv (rowF cs) (rowF gs) from funext xa, cv_assoc, show cv (rowF gs) (rowF ds) = cv (rowF ds) (rowF gs) from funext fun j => cv_comm _ _ j]
        · obtain ⟨u, v, N, hu, hv, e⟩ := GQ.gc.m
          refine ⟨⟨rowF cs, cs.length, fs_row cs, fun j => by rw [cv_comm, cv_one]⟩, ⟨rowF ds, ds.length, fs_row ds, fun j => by rw [cv_comm, cv_one]⟩, u, v, N, hu, hv, fun j => ?_⟩
          have key := cancel (u := one1) (v := fun j => cv u (rowF cs) j + cv v (rowF ds) j) (N := max 1 (max (N + cs.length) (N + ds.length))) Dgs.s Dgs.t (fs_one.mono (Nat.le_max_left _ _)) (fun j hj => by
            show cv u (rowF cs) j + cv v (rowF ds) j = 0
            rw [cv_out hu (fs_row cs) j (by omega), cv_out hv (fs_row ds) j (by omega)]
            grind) fun j => by
            rw [cv_one, cv_addl, cv_assoc, cv_assoc, ← show rowF as = cv (rowF cs) (rowF gs) from funext xa, ← show rowF bs = cv (rowF ds) (rowF gs) from funext xb]
            exact e j
          exact key j
      · have d0 : dd = 0 := by
          have : ¬ (0 : Int) < ((gs.length : Nat) : Int) - 1 := fun z => c2 (decide_eq_true z)
          omega
        subst d0
        have eg1 : rowF gs = one1 := funext fun j => by
          cases j with
          | zero =>
            rw [hmon]
            unfold one1
            rw [if_pos rfl]
          | succ j =>
            rw [Dgs.s (j + 1) (by omega)]
            unfold one1
            rw [if_neg (by omega)]
        refine ⟨pn, pd, as, bs, rfl, same_rfl, hpa1, hpb1, psz_mono za (by omega), psz_mono zb (by omega), nb, Nat.le_refl _, Nat.le_refl _, fun _ => rfl, ?_⟩
        rw [← eg1]
        exact GQ.gc
    rintro σ' H2 ⟨qn, qd, cs, ds, rfl, s2, hcs, hds, zc, zd, nd, lc, ld, hx, hG⟩
    obtain ⟨k1, hk1⟩ : ∃ k1, k1 = 2 * kk + 16 * n + 2 := ⟨_, rfl⟩
    rw [← hk1] at zc zd
    obtain ⟨dn, _, _, en, _⟩ := id hcs
    obtain ⟨dd2, _, _, ed, _⟩ := id hds
    refine ⟨_, rfl, qn, dn, _, rfl, en, by rfl, _, rfl, qd, dd2, _, rfl, ed, by rfl, qd, ds, rfl, hds, fun e => absurd e nd, fun r q hq hr0 => ?_⟩
    have hqm := List.mem_of_getLast? hq
    have q0 : q.1 ≠ 0 := hds.trim q hq
    have bq := psz_bq zd hqm
    have lq := zd.1 q hqm
    obtain ⟨dr, er⟩ := id hr0
    refine ⟨r, dr, _, rfl, er, rf_no _ _ (by decide +kernel) (by decide +kernel), r, q, rfl, hr0, q0, fun H3 t s3 ht => ?_⟩
    have lo2 := lo_mk (n := q.2) (d := q.1) q0
    have b2 := bq_mk (m := k1) (n := q.2) (d := q.1) bq.2 bq.1
    refine ⟨qn, t, cs, mkq q.2 q.1, k1, k1 + 1, rfl, (PolyAt.stb C CP).same s3 hcs, ht, lo2, zc, by have := b2.1; omega, by have := b2.2; omega, by omega, fun H4 tn ns s4 hns zn ln fn => ?_⟩
    have s14 := s1.trans (s2.trans (s3.trans s4))
    have s24 := s3.trans s4
    have hp4 := s14 _ _ hp
    have hds4 := (PolyAt.stb C CP).same s24 hds
    refine ⟨_, rfl, p, CF, dx, [], rfl, hp4, TF.cl, TF.nN, by decide, ?_⟩
    have hn5 : PolyAt C CP (upd H4 p (.ins CF dx (putF "num" (.ref tn) []))) tn ns := polyAt_up hp4 rfl rfl hns
    have hd5 : PolyAt C CP (upd H4 p (.ins CF dx (putF "num" (.ref tn) []))) qd ds := polyAt_up hp4 rfl rfl hds4
    have hp5 : upd H4 p (.ins CF dx (putF "num" (.ref tn) [])) p = some (.ins CF dx (putF "num" (.ref tn) [])) := upd_same
    have k5 : ∀ b o, H b = some o → b ≠ p → upd H4 p (.ins CF dx (putF "num" (.ref tn) [])) b = some o := fun b o e ne => by
      rw [upd_ne ne]
      exact s14 _ _ e
    generalize upd H4 p (.ins CF dx (putF "num" (.ref tn) [])) = H5 at hn5 hd5 hp5 k5 ⊢
    obtain ⟨dd5, _, _, ed5, _⟩ := id hd5
    refine ⟨_, rfl, qd, dd5, _, rfl, ed5, by rfl, qd, ds, k1, rfl, hd5, zd, by omega, fun e => absurd e nd, fun x hxl H6 td es s6 htd zt lt rt => ?_⟩
    have exq : x = q := by
      rw [hq] at hxl
      exact (Option.some.inj hxl).symm
    subst exq
    obtain ⟨dm, hm1, hm2, hm3, hm4, hm5⟩ := monic_ok hds.trim zd.1 htd.trim zt.1 hq rt
    have hp6 := s6 _ _ hp5
    have n1 : (putF "num" (.ref tn) ([] : List (Str × V))).lookup ("row" : Str) = none := by
      rw [lookup_putF, if_neg (by decide +kernel)]
      rfl
    have n2 : (putF "num" (.ref tn) ([] : List (Str × V))).lookup ("n" : Str) = none := by
      rw [lookup_putF, if_neg (by decide +kernel)]
      rfl
    refine ⟨_, rfl, p, CF, dx, _, rfl, hp6, TF.cl, TF.nD, (by show 1 < 1000; decide), ?_⟩
    have rinv : rv (mkq x.2 x.1) = 1 / rv x := by
      rw [rv_mk q0]
      have := cst_ne q0
      have := cst_ne lq.ne
      unfold rv
      grind
    have ens : rowF ns = fun j => 1 / rv x * rowF cs j := funext fun j => by
      rw [fn j, rinv]
      grind
    have ees : rowF es = fun j => 1 / rv x * rowF ds j := funext fun j => by
      rw [rt j]
      grind
    refine res _ ns es ⟨dx, tn, td, upd_same, polyAt_up hp6 n1 n2 ((PolyAt.stb C CP).same s6 hn5), polyAt_up hp6 n1 n2 htd⟩ (fun b o e ne => by rw [upd_ne ne]; exact s6 _ _ (k5 b o e ne)) ⟨fun j => ?_, ?_, ⟨dm, hm2, hm3⟩, by omega, by omega⟩ (psz_mono zn (by unfold krf; omega)) (psz_mono zt (by unfold krf; omega))
    · rw [ens, ees, cv_sc', cv_scr', hx j]
    · rw [ens, ees]
      exact gc_scl (by grind) hG
end
end Ind

set_option Elab.async false
set_option linter.all false
set_option maxRecDepth 100000
set_option maxHeartbeats 4000000
set_option exponentiation.threshold 20000
namespace Ind
open PySem PySem.Spec PyProof.Rows L2
open Builtin.Int (intBits)
/-- coprime to one factor, a divisor of a product divides the other -/
theorem dv_coprime {a b c : Fr} {n m : Nat} (hb : Fs b n) (hc : Fs c m) (G : Gc a c one1) (h : Dv c (cv a b)) : Dv c b := by
  obtain ⟨u, v, N, hu, hv, e⟩ := G.m
  obtain ⟨s, M, hs, es⟩ := h
  have eab : cv a b = cv s c := funext es
  refine ⟨fun j => cv u s j + cv v b j, max (N + M) (N + n), fun j hj => ?_, fun j => ?_⟩
  · dsimp only
    rw [cv_out hu hs j (by omega), cv_out hv hb j (by omega)]
    grind
  · have e1 : b = cv (fun j => cv u a j + cv v c j) b := by
      rw [show (fun j => cv u a j + cv v c j) = one1 from funext fun j => (e j).symm]
      exact funext fun j => (cv_one b j).symm
    have e2 : cv (fun j => cv u a j + cv v c j) b j = cv u (cv a b) j + cv v (cv c b) j := by
      rw [cv_addl, cv_assoc, cv_assoc]
    have e3 := congrFun e1 j
    rw [e2, eab] at e3
    rw [cv_addl, cv_assoc, cv_assoc, show cv b c = cv c b from funext fun j => cv_comm b c j]
    exact e3
/-- monic divisors of one another are the same -/
theorem monic_uniq {ds es : List Q2} (td : Trim ds) (ld : ∀ q ∈ ds, Lo q) (te : Trim es) (le : ∀ q ∈ es, Lo q) (m1 : ∃ d, ds.length = d + 1 ∧ rowF ds d = 1) (m2 : ∃ d, es.length = d + 1 ∧ rowF es d = 1) (h1 : Dv (rowF ds) (rowF es)) (h2 : Dv (rowF es) (rowF ds)) : ds = es := by
  obtain ⟨d1, e1, o1⟩ := m1
  obtain ⟨d2, e2, o2⟩ := m2
  have D1 := dg_row td ld e1
  have D2 := dg_row te le e2
  have a1 := h1.dg D1 D2
  have a2 := h2.dg D2 D1
  have ed : d1 = d2 := by omega
  subst ed
  obtain ⟨s, N, hs, e⟩ := h1
  refine trim_uniq td te ld le fun j => ?_
  have hr : Fs (fun j => rowF es j - rowF ds j) d1 := fun j hj => by
    rcases Nat.lt_or_eq_of_le hj with x | x
    · dsimp only
      rw [D1.s j (by omega), D2.s j (by omega)]
      grind
    · subst x
      dsimp only
      rw [o1, o2]
      grind
  have k := (div_uniq (N := max N 1) (s := s) (r := fun _ => 0) (s' := one1) (r' := fun j => rowF es j - rowF ds j) D1.s D1.t (hs.mono (Nat.le_max_left _ _)) (fs_one.mono (Nat.le_max_right _ _)) (fun _ _ => rfl) hr fun j => by
    rw [← e j, cv_one]
    grind).2 j
  grind
/-- lowest terms with a monic denominator are one -/
theorem rf_uniq {ns ds ms es : List Q2} (tn : Trim ns) (ln : ∀ q ∈ ns, Lo q) (td : Trim ds) (ld : ∀ q ∈ ds, Lo q) (tm : Trim ms) (lm : ∀ q ∈ ms, Lo q) (te : Trim es) (le : ∀ q ∈ es, Lo q) (m1 : ∃ d, ds.length = d + 1 ∧ rowF ds d = 1) (m2 : ∃ d, es.length = d + 1 ∧ rowF es d = 1)
    (g1 : Gc (rowF ns) (rowF ds) one1) (g2 : Gc (rowF ms) (rowF es) one1) (h : ∀ j, cv (rowF ns) (rowF es) j = cv (rowF ms) (rowF ds) j) : ns = ms ∧ ds = es := by
  have v1 : Dv (rowF ds) (rowF es) := dv_coprime (fs_row es) (fs_row ds) g1 ⟨rowF ms, _, fs_row ms, h⟩
  have v2 : Dv (rowF es) (rowF ds) := dv_coprime (fs_row ds) (fs_row es) g2 ⟨rowF ns, _, fs_row ns, fun j => (h j).symm⟩
  have e := monic_uniq td ld te le m1 m2 v1 v2
  subst e
  obtain ⟨d, hd, _⟩ := m1
  have D := dg_row td ld hd
  refine ⟨trim_uniq tn tm ln lm (cancel (N := max ns.length ms.length) D.s D.t ((fs_row ns).mono (Nat.le_max_left _ _)) ((fs_row ms).mono (Nat.le_max_right _ _)) h), rfl⟩
/-- what is made of equal fractions is equal -/
theorem rf_same {as bs cs es ns ds ms fs : List Q2} {n1 n2 : Nat} (hb : bs ≠ []) (he : es ≠ []) (tb : Trim bs) (lb : ∀ q ∈ bs, Lo q) (te : Trim es) (le : ∀ q ∈ es, Lo q) (R1 : RfOk as bs ns ds) (R2 : RfOk cs es ms fs) (tn : Trim ns) (ln : ∀ q ∈ ns, Lo q) (td : Trim ds) (ld : ∀ q ∈ ds, Lo q) (tm : Trim ms) (lm : ∀ q ∈ ms, Lo q) (tf : Trim fs) (lf : ∀ q ∈ fs, Lo q)
    (h : ∀ j, cv (rowF as) (rowF es) j = cv (rowF cs) (rowF bs) j) : ns = ms ∧ ds = fs := by
  refine rf_uniq tn ln td ld tm lm tf lf R1.m R2.m R1.g R2.g ?_
  obtain ⟨b, hb'⟩ := len_ne hb
  obtain ⟨e, he'⟩ := len_ne he
  have Db := dg_row tb lb hb'
  have De := dg_row te le he'
  have Dbe := dg_cv Db De
  refine cancel (b := cv (rowF bs) (rowF es)) (m := b + e) (N := max (ns.length + fs.length) (ms.length + ds.length)) Dbe.s Dbe.t ((cv_out (fs_row ns) (fs_row fs)).mono (Nat.le_max_left _ _)) ((cv_out (fs_row ms) (fs_row ds)).mono (Nat.le_max_right _ _)) fun j => ?_
  have x1 : cv (rowF ns) (rowF bs) = cv (rowF as) (rowF ds) := funext R1.x
  have x2 : cv (rowF ms) (rowF es) = cv (rowF cs) (rowF fs) := funext R2.x
  have hh : cv (rowF as) (rowF es) = cv (rowF cs) (rowF bs) := funext h
  generalize rowF ns = N, rowF fs = F, rowF bs = B, rowF es = E, rowF ms = M, rowF ds = D, rowF as = A, rowF cs = C at *
  have l : cv (cv N F) (cv B E) = cv (cv (cv A E) D) F := by
    calc cv (cv N F) (cv B E) = cv (cv N B) (cv F E) := by
          rw [cv_assoc', cv_assoc', ← cv_assoc' F B E, cv_comm' F B, cv_assoc' B F E]
      _ = cv (cv A D) (cv F E) := by rw [x1]
      _ = cv (cv (cv A E) D) F := by
          rw [cv_assoc', cv_assoc', cv_assoc', cv_comm' F E, ← cv_assoc' D E F, cv_comm' D E, cv_assoc' E D F]
  have r : cv (cv M D) (cv B E) = cv (cv (cv C B) D) F := by
    calc cv (cv M D) (cv B E) = cv (cv M E) (cv D B) := by
          rw [cv_assoc', cv_assoc', cv_comm' B E, ← cv_assoc' D E B, cv_comm' D E, cv_assoc' E D B]
      _ = cv (cv C F) (cv D B) := by rw [x2]
      _ = cv (cv (cv C B) D) F := by
          rw [cv_assoc', cv_assoc', cv_assoc', cv_comm' D B, ← cv_assoc' F B D, cv_comm' F B, cv_assoc' B F D, cv_comm' F D]
  rw [l, r, hh]
end Ind

set_option Elab.async false
set_option linter.all false
set_option maxRecDepth 100000
set_option maxHeartbeats 4000000
set_option exponentiation.threshold 20000
namespace Ind
open PySem PySem.Spec PyProof.Rows L2
open Builtin.Int (intBits)
theorem div_natF {a h s : Fr} {na k kk N n : Nat} (hA : ∀ j, ∃ z : Int, a j = ((z : Int) : Rat) ∧ z.natAbs < 2 ^ kk) (da : Dg a na) (hna : na + 1 ≤ n) (hn : n ≤ 60) (ih : Iz h) (dh : Dg h k) (is : Iz s) (hs : Fs s N) (e : ∀ j, a j = cv s h j) {j : Nat} {y : Int} (hy : h j = ((y : Int) : Rat)) : y.natAbs < 2 ^ (kk + 16 * n) := by
  have hkl : k ≤ na := Dv.dg dh da ⟨s, N, hs, e⟩
  have hA' : ∀ j, Bdr (a j) (((2 ^ kk : Nat) : Int) : Rat) := fun j => by
    obtain ⟨z, hz, hb⟩ := hA j
    rw [hz]
    unfold Bdr
    have h2 : -((2 ^ kk : Nat) : Int) ≤ z := by omega
    have h3 : z ≤ ((2 ^ kk : Nat) : Int) := by omega
    have h4 := Rat.intCast_le_intCast.mpr h2
    have h5 := Rat.intCast_le_intCast.mpr h3
    rw [Rat.intCast_neg] at h4
    exact ⟨h4, h5⟩
  have hb := div_bits hA' da ih dh is hs e (by omega) j
  unfold Bdr at hb
  rw [hy] at hb
  obtain ⟨b1, b2⟩ := hb
  have e2 : (256 ^ k * (2 ^ kk * 128 ^ (na + 1)) : Nat) = 2 ^ (8 * k + (kk + 7 * (na + 1))) := by
    rw [show (256 : Nat) = 2 ^ 8 by decide, show (128 : Nat) = 2 ^ 7 by decide, ← Nat.pow_mul, ← Nat.pow_mul, ← Nat.pow_add, ← Nat.pow_add]
  rw [e2] at b1 b2
  rw [← Rat.intCast_neg] at b1
  have c1 := Rat.intCast_le_intCast.mp b1
  have c2 := Rat.intCast_le_intCast.mp b2
  have c3 : y.natAbs ≤ 2 ^ (8 * k + (kk + 7 * (na + 1))) := by omega
  exact Nat.lt_of_le_of_lt c3 (Nat.pow_lt_pow_right (by decide) (by omega))
/-- a row in whole numbers -/
theorem row_int {k : Nat} {qs : List Q2} (z : PSz k qs) : ∃ M : Int, 0 < M ∧ M.natAbs < 2 ^ k ∧ ∀ j, ∃ y : Int, ((M : Int) : Rat) * rowF qs j = ((y : Int) : Rat) ∧ y.natAbs < 2 ^ k := by
  obtain ⟨lo, _, M, m0, mb, hm⟩ := z
  refine ⟨M, m0, PySem.intBits_le_iff.mp mb, fun j => ?_⟩
  by_cases c : j < qs.length
  · obtain ⟨q, hq, e, hqm⟩ := at_d c
    obtain ⟨⟨c, hc⟩, hb⟩ := hm q hqm
    have l := lo q hqm
    have hf : M.fdiv q.2 = c := by
      rw [hc, Int.mul_comm]
      exact Int.mul_fdiv_cancel _ (Int.ne_of_gt l.pos)
    rw [hf] at hb
    refine ⟨q.1 * c, ?_, PySem.intBits_le_iff.mp hb⟩
    have er : rowF qs j = rv q := by
      unfold rowF
      rw [e]
    rw [er, hc, Rat.intCast_mul, Rat.intCast_mul]
    have := cst_ne l.ne
    unfold rv
    grind
  · refine ⟨0, ?_, Nat.pow_pos (by decide)⟩
    rw [rowF_out (by omega)]
    show _ = (0 : Rat)
    grind
/-- a fraction in lowest terms is no longer than the one it was made of -/
theorem rf_size {as bs ns ds : List Q2} {k n : Nat} (za : PSz k as) (zb : PSz k bs) (ta : Trim as) (tb : Trim bs) (hb : bs ≠ []) (ha : as ≠ []) (hla : as.length ≤ n) (hlb : bs.length ≤ n) (hn : n ≤ 60) (R : RfOk as bs ns ds) (ln : ∀ q ∈ ns, Lo q) (td : Trim ds) (ld : ∀ q ∈ ds, Lo q) :
    PSz (2 * k + 16 * n) ns ∧ PSz (k + 16 * n) ds := by
  obtain ⟨Ma, ma0, ma1, hma⟩ := row_int za
  obtain ⟨Mb, mb0, mb1, hmb⟩ := row_int zb
  obtain ⟨na, hna⟩ := len_ne ha
  obtain ⟨nb, hnb⟩ := len_ne hb
  have Ma0 := cst_ne (Int.ne_of_gt ma0)
  have Mb0 := cst_ne (Int.ne_of_gt mb0)
  have Da := dg_sc (dg_row ta za.1 hna) Ma0
  have Db := dg_sc (dg_row tb zb.1 hnb) Mb0
  obtain ⟨h, kh, ih, ph, Dh, G⟩ := gc_pri Da.s Db
  obtain ⟨A, NA, hA, eA⟩ := id G.l
  obtain ⟨B, NB, hB, eB⟩ := id G.r
  have iA := gauss (fun j => let ⟨y, e, _⟩ := hma j; ⟨y, e⟩) ih ph hA eA
  have iB := gauss (fun j => let ⟨y, e, _⟩ := hmb j; ⟨y, e⟩) ih ph hB eB
  obtain ⟨da, dA⟩ : ∃ d, Dg A d := by
    rcases dg_or hA with z | ⟨i, _, di⟩
    · exact absurd ((eA na).trans (by rw [show A = fun _ => 0 from funext z, cv_zl])) Da.t
    · exact ⟨i, di⟩
  obtain ⟨db, dB⟩ : ∃ d, Dg B d := by
    rcases dg_or hB with z | ⟨i, _, di⟩
    · exact absurd ((eB nb).trans (by rw [show B = fun _ => 0 from funext z, cv_zl])) Db.t
    · exact ⟨i, di⟩
  -- coprime
  have G1 : Gc A B one1 := by
    obtain ⟨u, v, N, hu, hv, e⟩ := G.m
    refine ⟨⟨A, NA, hA, fun j => by rw [cv_comm, cv_one]⟩, ⟨B, NB, hB, fun j => by rw [cv_comm, cv_one]⟩, u, v, N, hu, hv, fun j => ?_⟩
    have key := cancel (u := one1) (v := fun j => cv u A j + cv v B j) (N := max 1 (max (N + NA) (N + NB))) Dh.s Dh.t (fs_one.mono (Nat.le_max_left _ _)) (fun j hj => by
      show cv u A j + cv v B j = 0
      rw [cv_out hu hA j (by omega), cv_out hv hB j (by omega)]
      grind) fun j => by
      rw [cv_one, cv_addl, cv_assoc, cv_assoc, ← show (fun j => ((Ma : Int) : Rat) * rowF as j) = cv A h from funext eA, ← show (fun j => ((Mb : Int) : Rat) * rowF bs j) = cv B h from funext eB]
      exact e j
    exact key j
  -- the cross product without h
  have cross : ∀ j, ((Ma : Int) : Rat) * cv (rowF ns) B j = ((Mb : Int) : Rat) * cv A (rowF ds) j := by
    refine cancel (u := fun j => ((Ma : Int) : Rat) * cv (rowF ns) B j) (v := fun j => ((Mb : Int) : Rat) * cv A (rowF ds) j) (N := max (ns.length + NB) (NA + ds.length)) Dh.s Dh.t (fun j hj => by dsimp only; rw [cv_out (fs_row ns) hB j (by omega)]; grind) (fun j hj => by dsimp only; rw [cv_out hA (fs_row ds) j (by omega)]; grind) fun j => ?_
    rw [cv_sc', cv_sc', cv_assoc, ← show (fun j => ((Mb : Int) : Rat) * rowF bs j) = cv B h from funext eB, cv_scr', R.x j, cv_assoc A (rowF ds) h, show cv (rowF ds) h = cv h (rowF ds) from funext fun j => cv_comm _ _ j, ← cv_assoc, ← show (fun j => ((Ma : Int) : Rat) * rowF as j) = cv A h from funext eA, cv_sc']
    grind
  have v1 : Dv (rowF ds) B := by
    refine dv_coprime hB (fs_row ds) R.g ⟨fun j => ((Mb : Int) : Rat) / ((Ma : Int) : Rat) * A j, NA, fun j hj => by dsimp only; rw [hA j hj]; grind, fun j => ?_⟩
    rw [cv_sc']
    have := cross j
    grind
  have v2 : Dv B (rowF ds) := by
    refine dv_coprime (fs_row ds) hB G1 ⟨fun j => ((Ma : Int) : Rat) / ((Mb : Int) : Rat) * rowF ns j, ns.length, fun j hj => by dsimp only; rw [fs_row ns j hj]; grind, fun j => ?_⟩
    rw [cv_sc']
    have := cross j
    grind
  obtain ⟨d, hd, hm⟩ := R.m
  have Dd := dg_row td ld hd
  have ed : d = db := by
    have := v1.dg Dd dB
    have := v2.dg dB Dd
    omega
  subst ed
  have eds : ∀ j, rowF ds j = 1 / B d * B j := by
    obtain ⟨s, N, hs, e⟩ := v2
    have b0 := dB.t
    have hr : Fs (fun j => rowF ds j - 1 / B d * B j) d := fun j hj => by
      rcases Nat.lt_or_eq_of_le hj with x | x
      · dsimp only
        rw [Dd.s j (by omega), dB.s j (by omega)]
        grind
      · subst x
        dsimp only
        rw [hm]
        grind
    intro j
    have k := (div_uniq (N := max N 1) (s := s) (r := fun _ => 0) (s' := fun j => 1 / B d * one1 j) (r' := fun j => rowF ds j - 1 / B d * B j) dB.s dB.t (hs.mono (Nat.le_max_left _ _)) (fun j hj => by dsimp only; rw [fs_one j (by omega)]; grind) (fun _ _ => rfl) hr fun j => by
      rw [← e j, cv_sc', cv_one]
      grind).2 j
    grind
  obtain ⟨b, hbd⟩ := iB d
  have b0 : b ≠ 0 := fun z => dB.t (by rw [hbd, z]; rfl)
  have b0r := cst_ne b0
  have ens : ∀ j, rowF ns j = ((Mb : Int) : Rat) / (((Ma : Int) : Rat) * ((b : Int) : Rat)) * A j := by
    refine cancel (u := rowF ns) (v := fun j => ((Mb : Int) : Rat) / (((Ma : Int) : Rat) * ((b : Int) : Rat)) * A j) (N := max ns.length NA) dB.s dB.t ((fs_row ns).mono (Nat.le_max_left _ _)) (fun j hj => by dsimp only; rw [hA j (by omega)]; grind) fun j => ?_
    rw [cv_sc']
    have e1 := cross j
    rw [show rowF ds = fun j => 1 / B d * B j from funext eds, cv_scr', hbd] at e1
    grind
  have bA : ∀ {j : Nat} {y : Int}, A j = ((y : Int) : Rat) → y.natAbs < 2 ^ (k + 16 * n) := fun {j y} hy => div_natF (s := h) hma Da (by omega) hn iA dA ih Dh.s (fun j => (eA j).trans (cv_comm A h j)) hy
  have bB : ∀ {j : Nat} {y : Int}, B j = ((y : Int) : Rat) → y.natAbs < 2 ^ (k + 16 * n) := fun {j y} hy => div_natF (s := h) hmb Db (by omega) hn iB dB ih Dh.s (fun j => (eB j).trans (cv_comm B h j)) hy
  have bb := bB hbd
  have bpos : (0 : Int) < ((b.natAbs : Nat) : Int) := by omega
  have lnn := R.ln
  have ldd := R.ld
  have item : ∀ {qs : List Q2} {q : Q2}, q ∈ qs → ∃ j, rowF qs j = rv q := fun {qs q} hq => by
    obtain ⟨j, hj, ej⟩ := List.getElem_of_mem hq
    refine ⟨j, ?_⟩
    unfold rowF
    rw [getD_q (q := q) (by rw [List.getElem?_eq_getElem hj, ej])]
  have babs : ((((b.natAbs : Nat) : Int) : Int) : Rat) = ((b : Int) : Rat) ∨ ((((b.natAbs : Nat) : Int) : Int) : Rat) = -((b : Int) : Rat) := by
    rcases Int.natAbs_eq b with h | h
    · exact .inl (by exact_mod_cast h.symm)
    · right
      rw [← Rat.intCast_neg]
      have : ((b.natAbs : Nat) : Int) = -b := by omega
      exact_mod_cast this
  constructor
  · refine mq_psz (M := Ma * ((b.natAbs : Nat) : Int)) (B := 2 ^ (2 * k + 16 * n) - 1) (Int.mul_pos ma0 bpos) (fun q hq => ⟨ln q hq, ?_⟩) (by have : 0 < 2 ^ (2 * k + 16 * n) := Nat.pow_pos (by decide); omega) ?_ (by omega)
    · obtain ⟨j, ej⟩ := item hq
      obtain ⟨y, hy⟩ := iA j
      have by' := bA hy
      have hsz : (Mb * y).natAbs ≤ 2 ^ (2 * k + 16 * n) - 1 := by
        rw [Int.natAbs_mul]
        have := Nat.mul_lt_mul'' mb1 by'
        rw [← Nat.pow_add, show k + (k + 16 * n) = 2 * k + 16 * n by omega] at this
        omega
      rw [← ej, ens j, hy]
      rcases babs with h1 | h1
      · refine ⟨Mb * y, ?_, hsz⟩
        rw [Rat.intCast_mul, Rat.intCast_mul, h1]
        grind
      · refine ⟨-(Mb * y), ?_, by rw [Int.natAbs_neg]; exact hsz⟩
        rw [Rat.intCast_neg, Rat.intCast_mul, Rat.intCast_mul, h1]
        grind
    · rw [Int.natAbs_mul, Int.natAbs_natCast]
      have := Nat.mul_lt_mul'' ma1 bb
      rwa [← Nat.pow_add, show k + (k + 16 * n) = 2 * k + 16 * n by omega] at this
  · refine mq_psz (M := ((b.natAbs : Nat) : Int)) (B := 2 ^ (k + 16 * n) - 1) bpos (fun q hq => ⟨ld q hq, ?_⟩) (by have : 0 < 2 ^ (k + 16 * n) := Nat.pow_pos (by decide); omega) (by rw [Int.natAbs_natCast]; exact bb) (by omega)
    obtain ⟨j, ej⟩ := item hq
    obtain ⟨y, hy⟩ := iB j
    have by' := bB hy
    rw [← ej, eds j, hy, hbd]
    rcases babs with h1 | h1
    · refine ⟨y, ?_, by omega⟩
      rw [h1]
      grind
    · refine ⟨-y, ?_, by rw [Int.natAbs_neg]; omega⟩
      rw [Rat.intCast_neg, h1]
      grind
end Ind

set_option Elab.async false
set_option linter.all false
set_option maxRecDepth 100000
set_option maxHeartbeats 4000000
set_option exponentiation.threshold 20000
namespace Ind
open PySem PySem.Spec PyProof.Rows L2
open Builtin.Int (intBits)
abbrev sFz : Stmt := inClass (top 43) 8
abbrev sFp : Stmt := inClass (top 43) 9
abbrev sFi : Stmt := inClass (top 43) 13
abbrev sOfP : Stmt := top 44
def spFz (C CP CF : Addr) : Sp := fun vs H Q _ => ∃ (f : Addr) (ns ds : List Q2), vs = [.ref f] ∧ FunAt C CP CF H f ns ds ∧ Q (.bl (decide (ns.length = 0))) H
def spFp (C CP CF : Addr) : Sp := fun vs H Q _ => ∃ (f : Addr) (ns ds : List Q2), vs = [.ref f] ∧ FunAt C CP CF H f ns ds ∧ Q (.bl (decide (ds.length = 1))) H
/-- a new function of as/bs -/
def MadeF (C CP CF : Addr) (as bs : List Q2) (k : Nat) (H : Hp) (Q : VK) : Prop := ∀ (H' : Hp) (f : Addr) (ns ds : List Q2), Same H H' → FunAt C CP CF H' f ns ds → RfOk as bs ns ds → PSz (krf k (max as.length bs.length)) ns → PSz (krf k (max as.length bs.length)) ds → Q (.ref f) H'
def spFi (C Z CP CF : Addr) : Sp := fun vs H Q E => ∃ (f : Addr) (ns ds : List Q2) (k : Nat), vs = [.ref f] ∧ FunAt C CP CF H f ns ds ∧ PSz k ns ∧ PSz k ds ∧ GSz k ds.length ns.length ∧ (ns = [] → ∀ H' : Hp, Same H H' → E (.ref Z) none H') ∧ (ns ≠ [] → MadeF C CP CF ds ns k H Q)
def spOfP (C CP CF : Addr) : Sp := fun vs H Q _ => ∃ (p : Addr) (as : List Q2) (k : Nat), vs = [.ref p] ∧ PolyAt C CP H p as ∧ PSz k as ∧ 1 ≤ k ∧ GSz k as.length 1 ∧ MadeF C CP CF as [(1, 1)] k H Q
section
variable {P : Program} {w : World} {K : PySem.W.Frag} {mg : Str → Option Value} {base : Heap} {C Z CP CF : Addr}
structure MkF (P : Program) (w : World) (K : PySem.W.Frag) (mg : Str → Option Value) (base : Heap) (C Z CP CF : Addr) (fI : Addr) (fdI : FuncData) : Prop where
  cm : Mk K CF fI
  fn : FnOk P w K mg base (L2.CX P w) 48 fI fdI ["self", "num", "den"] (spRF C Z CP CF)
  b : Binds K fdI ["self", "num", "den"] []
/-- behind RatFun(num, den) -/
theorem mkF_ok {pn pd : Addr} {as bs : List Q2} {k : Nat} {H1 : Hp} {Q : VK} {E : XK} (ha : PolyAt C CP H1 pn as) (hb : PolyAt C CP H1 pd bs) (za : PSz k as) (zb : PSz k bs) (sz : GSz k as.length bs.length) (hz : bs = [] → ∀ H', Same H1 H' → E (.ref Z) none H') (h : bs ≠ [] → MadeF C CP CF as bs k H1 Q) :
    ∀ x dx, H1 x = none → H1 dx = none → dx ≠ x → spRF C Z CP CF [.ref x, .ref pn, .ref pd] (upd (upd H1 dx (.own x)) x (.ins CF dx [])) (fun v H2 => v = .non ∧ Q (.ref x) H2) E := fun x dx nx nd ne => by
  have nx2 : (upd H1 dx (.own x)) x = none := by
    rw [upd_ne (Ne.symm ne)]
    exact nx
  have s : Same H1 (upd (upd H1 dx (.own x)) x (.ins CF dx [])) := (same_upd nd).trans (same_upd nx2)
  exact ⟨x, dx, pn, pd, as, bs, k, rfl, upd_same, (PolyAt.stb C CP).same s ha, (PolyAt.stb C CP).same s hb, za, zb, sz, fun e => hz e _ s, fun ne' H' ns ds hf kk R z1 z2 => ⟨rfl, h ne' H' x ns ds (Same.made nx nd kk) hf R z1 z2⟩⟩
theorem scFz : FnScope ["self"] ["self"] (defScope sFz) := ⟨rfl, rfl, rfl, by decide +kernel, rfl, by decide +kernel, by decide +kernel⟩
theorem scFp : FnScope ["self"] ["self"] (defScope sFp) := ⟨rfl, rfl, rfl, by decide +kernel, rfl, by decide +kernel, by decide +kernel⟩
theorem scFi : FnScope ["self"] ["self"] (defScope sFi) := ⟨rfl, rfl, rfl, by decide +kernel, rfl, by decide +kernel, by decide +kernel⟩
theorem scOfP : FnScope ["p"] ["p"] (defScope sOfP) := ⟨rfl, rfl, rfl, by decide +kernel, rfl, by decide +kernel, by decide +kernel⟩
theorem ok_fz {f fI : Addr} {fd fdI : FuncData} (F : Fun K "is_zero" "RatFun.is_zero" sFz f fd) (TP : TxP K mg CP) (TF : TxF K mg CF) (GI : FnOk P w K mg base CX0 1 fI fdI ["self"] (spPIz C CP)) (bI : Binds K fdI ["self"] []) (mI : Meth K CP "is_zero" fI) : FnOk P w K mg base CX0 2 f fd ["self"] (spFz C CP CF) := by
  refine F.ok scFz (fun vs H Q E h => ?_) (fun cdv A outer s H vs Q E hr h => ?_)
  · obtain ⟨p, ns, ds, rfl, _⟩ := h
    rfl
  · obtain ⟨p, ns, ds, rfl, ⟨dx, pn, pd, e, hn, hd⟩, k⟩ := h
    refine ⟨_, pss_one (ps_ret (pe_meth0 (pe_fld (pv 0) rfl) TP.cl mI GI hr bI .nil pass0)), ?_⟩
    obtain ⟨dn, _, _, en, _⟩ := id hn
    exact ⟨_, rfl, p, CF, dx, _, _, rfl, e, TF.cl, TF.nN, rff_num _ _, pn, dn, _, rfl, en, by rfl, pn, ns, rfl, hn, k⟩
theorem ok_fp {f fI : Addr} {fd fdI : FuncData} (F : Fun K "is_polynomial" "RatFun.is_polynomial" sFp f fd) (TP : TxP K mg CP) (TF : TxF K mg CF) (GI : FnOk P w K mg base CX0 1 fI fdI ["self"] (spPDg C CP)) (bI : Binds K fdI ["self"] []) (mI : Meth K CP "degree" fI) : FnOk P w K mg base CX0 2 f fd ["self"] (spFp C CP CF) := by
  refine F.ok scFp (fun vs H Q E h => ?_) (fun cdv A outer s H vs Q E hr h => ?_)
  · obtain ⟨p, ns, ds, rfl, _⟩ := h
    rfl
  · obtain ⟨p, ns, ds, rfl, ⟨dx, pn, pd, e, hn, hd⟩, k⟩ := h
    refine ⟨_, pss_one (ps_ret (pe_cmpR op_eq (pe_meth0 (pe_fld (pv 0) rfl) TP.cl mI GI hr bI .nil pass0) pe_int (nomark _))), ?_⟩
    obtain ⟨dn, _, _, en, _⟩ := id hd
    refine ⟨_, rfl, p, CF, dx, _, _, rfl, e, TF.cl, TF.nD, rff_den _ _, pd, dn, _, rfl, en, by rfl, pd, ds, rfl, hd, rfl, ?_⟩
    show Q (V.bl (decide (V.int (((ds.length : Nat) : Int) - 1) = V.int 0))) H
    rw [show decide (V.int (((ds.length : Nat) : Int) - 1) = V.int 0) = decide (ds.length = 1) from decide_eq_decide.mpr ⟨fun z => by have := V.int.inj z; omega, fun z => by rw [z]; rfl⟩]
    exact k
theorem ok_fi {f fI : Addr} {fd fdI : FuncData} (F : Fun K "inverse" "RatFun.inverse" sFi f fd) (TF : TxF K mg CF) (MF : MkF P w K mg base C Z CP CF fI fdI) : FnOk P w K mg base (L2.CX P w) 50 f fd ["self"] (spFi C Z CP CF) := by
  refine F.okX scFi (fun vs H Q E h => ?_) (fun cdv A outer s H vs Q E hr h => ?_)
  · obtain ⟨p, ns, ds, k, rfl, _⟩ := h
    rfl
  · obtain ⟨p, ns, ds, kk, rfl, ⟨dx, pn, pd, e, hn, hd⟩, zn, zd, sz, kz, k⟩ := h
    refine ⟨_, pss_one (ps_ret (pe_make (E := E) MF.cm MF.fn hr (by rfl) TF.g MF.b .nil (passes_call (takes_of rfl rfl rfl rfl) fun _ _ _ _ h => h) (pa_cons (pe_fld (pv 0) rfl) (pa_cons (pe_fld (pv 0) rfl) pa_nil)))), ?_⟩
    refine ⟨_, rfl, p, CF, dx, _, _, rfl, e, TF.cl, TF.nD, rff_den _ _, _, rfl, p, CF, dx, _, _, rfl, e, TF.cl, TF.nN, rff_num _ _, ?_⟩
    exact mkF_ok hd hn zd zn sz kz k
theorem ok_ofp {f fI fOn fCs : Addr} {fd fdI fdOn fdCs : FuncData} (F : Fun K "of_poly" "of_poly" sOfP f fd) (TF : TxF K mg CF) (MF : MkF P w K mg base C Z CP CF fI fdI)
    (GO : FnOk P w K mg base CX0 43 fOn fdOn [] (spMk C 1 1)) (kO : PySem.W.keepIn K (.ref fOn) = true) (bO : Binds K fdOn [] []) (gO : mg "one" = some (.ref fOn))
    (GC : FnOk P w K mg base CX0 45 fCs fdCs ["r"] (spCst C CP)) (kC : PySem.W.keepIn K (.ref fCs) = true) (bC : Binds K fdCs ["r"] []) (gC : mg "constant" = some (.ref fCs)) : FnOk P w K mg base CX0 50 f fd ["p"] (spOfP C CP CF) := by
  refine F.ok scOfP (fun vs H Q E h => ?_) (fun cdv A outer s H vs Q E hr h => ?_)
  · obtain ⟨p, as, k, rfl, _⟩ := h
    rfl
  · obtain ⟨p, as, kk, rfl, hp, za, hk1, sz, k⟩ := h
    have h43 := hr.mono (show 43 ≤ 49 by decide)
    have h45 := hr.mono (show 45 ≤ 49 by decide)
    refine ⟨_, pss_one (ps_ret (pe_make (E := E0) MF.cm MF.fn hr (by rfl) TF.g MF.b .nil passL (pa_cons (pv 0) (pa_cons (pe_call GC h45 (by rfl) gC kC bC .nil pass0 (pa_cons (pe_call0 GO h43 (by rfl) gO kO bO .nil pass0) pa_nil)) pa_nil)))), ?_⟩
    refine ⟨_, rfl, ?_⟩
    refine ⟨rfl, fun r H1 hr1 s1 _ => ?_⟩
    refine ⟨r, ((1 : Int), (1 : Int)), kk, rfl, hr1, ⟨by decide, by decide⟩, Nat.le_trans (by decide) hk1, Nat.le_trans (by decide) hk1, hk1, by obtain ⟨_, _, h3, h4⟩ := sz; omega, fun H2 t s2 ht zt => ?_⟩
    have e1 : trimQ [((1 : Int), (1 : Int))] = [((1 : Int), (1 : Int))] := trim_id (qs := []) (by decide)
    rw [e1] at ht zt
    exact mkF_ok ((PolyAt.stb C CP).same (s1.trans s2) hp) ht za zt sz (fun e => by cases e) fun _ H' f ns ds s' hf R z1 z2 => k H' f ns ds ((s1.trans s2).trans s') hf R z1 z2
end
end Ind

set_option Elab.async false
set_option linter.all false
namespace Ind
open PySem PySem.Spec PyProof.Rows L2
structure OwnB (P : Program) (w : World) (K : PySem.W.Frag) (mg : Str → Option Value) (base : Heap) (C : Addr) (m : Str) (sp : Sp) (f : Addr) (fd : FuncData) : Prop where
  fn : FnOk P w K mg base CX0 46 f fd ["self", "other"] sp
  at_ : PySem.W.findIn K (.ref C) m = some (some (.ref f))
  isf : PySem.W.isFn K (.ref f) = true
  b : Binds K fd ["self", "other"] []
  first : PySem.W.selfFirst K C = true
end Ind

set_option Elab.async false
set_option linter.all false
set_option maxRecDepth 100000
set_option maxHeartbeats 4000000
set_option exponentiation.threshold 20000
namespace Ind
open PySem PySem.Spec PyProof.Rows L2
open Builtin.Int (intBits)
abbrev sFm : Stmt := inClass (top 43) 3
/-- in lowest terms, by values -/
structure RfV (a b : Fr) (ns ds : List Q2) : Prop where
  x : ∀ j, cv (rowF ns) b j = cv a (rowF ds) j
  g : Gc (rowF ns) (rowF ds) one1
  m : ∃ d, ds.length = d + 1 ∧ rowF ds d = 1
theorem RfOk.v {as bs ns ds : List Q2} {a b : Fr} (h : RfOk as bs ns ds) (ea : ∀ j, rowF as j = a j) (eb : ∀ j, rowF bs j = b j) : RfV a b ns ds := by
  rw [← show rowF as = a from funext ea, ← show rowF bs = b from funext eb]
  exact ⟨h.x, h.g, h.m⟩
/-- the product of two functions -/
def spFm (C CP CF : Addr) : Sp := fun vs H Q _ => ∃ (f g : Addr) (ns ds ms es : List Q2) (k : Nat), vs = [.ref f, .ref g] ∧ FunAt C CP CF H f ns ds ∧ FunAt C CP CF H g ms es ∧ PSz k ns ∧ PSz k ds ∧ PSz k ms ∧ PSz k es ∧ ds ≠ [] ∧ es ≠ [] ∧ (∀ q ∈ ds, Lo q) ∧ k ≤ 4000 ∧ ns.length ≤ 24 ∧ ds.length ≤ 24 ∧ ms.length ≤ 24 ∧ es.length ≤ 24 ∧
  (∀ a b, a ≤ ns.length + ms.length → b ≤ ds.length + es.length → GSz (2 * k + 100) a b) ∧
  ∀ (H' : Hp) (h : Addr) (xs ys us vs : List Q2), Same H H' → FunAt C CP CF H' h us vs → PSz (2 * k + 100) xs → PSz (2 * k + 100) ys → xs.length ≤ ns.length + ms.length → ys.length ≤ ds.length + es.length → (∀ j, rowF xs j = cv (rowF ns) (rowF ms) j) → (∀ j, rowF ys j = cv (rowF ds) (rowF es) j) → RfOk xs ys us vs → PSz (krf (2 * k + 100) (max xs.length ys.length)) us → PSz (krf (2 * k + 100) (max xs.length ys.length)) vs → Q (.ref h) H'
section
variable {P : Program} {w : World} {K : PySem.W.Frag} {mg : Str → Option Value} {base : Heap} {C Z CP CF : Addr}
theorem scFm : FnScope ["self", "other"] ["self", "other"] (defScope sFm) := ⟨rfl, rfl, rfl, by decide +kernel, rfl, by decide +kernel, by decide +kernel⟩
theorem ok_fm {f fI fMl : Addr} {fd fdI fdMl : FuncData} (F : Fun K "__mul__" "RatFun.__mul__" sFm f fd) (TF : TxF K mg CF) (MF : MkF P w K mg base C Z CP CF fI fdI) (OM : OwnB P w K mg base CP "__mul__" (spPMul C CP) fMl fdMl) : FnOk P w K mg base CX0 50 f fd ["self", "other"] (spFm C CP CF) := by
  refine F.ok scFm (fun vs H Q E h => ?_) (fun cdv A outer s H vs Q E hr h => ?_)
  · obtain ⟨p, q, ns, ds, ms, es, k, rfl, _⟩ := h
    rfl
  · obtain ⟨p, q, ns, ds, ms, es, kk, rfl, ⟨dx, pn, pd, e, hn, hd⟩, ⟨dy, qn, qd, e', hm, he⟩, zn, zd, zm, ze, nd, ne, _, hk, l1, l2, l3, l4, sz, k⟩ := h
    have h46 := hr.mono (show 46 ≤ 49 by decide)
    refine ⟨_, pss_one (ps_ret (pe_make (E := E0) MF.cm MF.fn hr (by rfl) TF.g MF.b .nil passL (pa_cons (pe_op (op_binO (E := E0) (m := "__mul__") (by rfl) ⟨OM.fn, OM.at_, OM.isf, OM.b, pass0, OM.first⟩ h46) (pe_fld (pv 0) rfl) (pe_fld (pv 1) rfl)) (pa_cons (pe_op (op_binO (E := E0) (m := "__mul__") (by rfl) ⟨OM.fn, OM.at_, OM.isf, OM.b, pass0, OM.first⟩ h46) (pe_fld (pv 0) rfl) (pe_fld (pv 1) rfl)) pa_nil)))), ?_⟩
    obtain ⟨d1, _, _, f1, _⟩ := id hn
    obtain ⟨d2, _, _, f2, _⟩ := id hm
    obtain ⟨d3, _, _, f3, _⟩ := id hd
    obtain ⟨d4, _, _, f4, _⟩ := id he
    refine ⟨_, rfl, p, CF, dx, _, _, rfl, e, TF.cl, TF.nN, rff_num _ _, _, rfl, q, CF, dy, _, _, rfl, e', TF.cl, TF.nN, rff_num _ _, pn, d1, _, qn, d2, _, rfl, rfl, f1, f2, pn, qn, ns, ms, kk, kk, rfl, hn, hm, zn, zm, by omega, by omega, by omega, fun H1 t1 xs s1 h1 z1 x1 y1 => ?_⟩
    refine ⟨_, rfl, p, CF, dx, _, _, rfl, s1 _ _ e, TF.cl, TF.nD, rff_den _ _, _, rfl, q, CF, dy, _, _, rfl, s1 _ _ e', TF.cl, TF.nD, rff_den _ _, pd, d3, _, qd, d4, _, rfl, rfl, s1 _ _ f3, s1 _ _ f4, pd, qd, ds, es, kk, kk, rfl, (PolyAt.stb C CP).same s1 hd, (PolyAt.stb C CP).same s1 he, zd, ze, by omega, by omega, by omega, fun H2 t2 ys s2 h2 z2 x2 y2 => ?_⟩
    have ex : ∀ j, rowF xs j = cv (rowF ns) (rowF ms) j := fun j => by rw [show rowF xs j = cvR ns ms j from y1 j, cvR_cv]
    have ey : ∀ j, rowF ys j = cv (rowF ds) (rowF es) j := fun j => by rw [show rowF ys j = cvR ds es j from y2 j, cvR_cv]
    have ny : ys ≠ [] := fun z => by
      obtain ⟨a, ha⟩ := len_ne nd
      obtain ⟨b, hb⟩ := len_ne ne
      have D := dg_cv (dg_row hd.trim zd.1 ha) (dg_row he.trim ze.1 hb)
      apply D.t
      rw [← ey, z, rowF_nilF]
    rw [show kk + kk + 100 = 2 * kk + 100 by omega] at z1 z2
    exact mkF_ok ((PolyAt.stb C CP).same s2 h1) h2 z1 z2 (sz _ _ x1 x2) (fun z => absurd z ny) fun _ H3 h us vs s3 hf R r1 r2 => k H3 h xs ys us vs ((s1.trans s2).trans s3) hf z1 z2 x1 x2 ex ey R r1 r2
end
end Ind

set_option Elab.async false
set_option linter.all false
set_option maxRecDepth 100000
set_option maxHeartbeats 4000000
set_option exponentiation.threshold 20000
namespace Ind
open PySem PySem.Spec PyProof.Rows L2
open Builtin.Int (intBits)
abbrev sMu : Stmt := top 99
abbrev sDo : Stmt := top 40
/-- what one division adds to the size -/
def gG (La lb d : Nat) : Nat := (La + 1 - lb) * (d + 1) + d + 1
theorem gDv_le {k d L La lb : Nat} (h : L ≤ La + 1 - lb) : gDv k d L ≤ k + gG La lb d := by
  unfold gDv gG
  have := Nat.mul_le_mul_right (d + 1) h
  omega
/-- sizes at which a multiplicity is told -/
structure MuSz (k d N : Nat) (as bs : List Q2) : Prop where
  a : PSz k as
  b : PSz d bs
  la : as.length ≤ 60
  lb : bs.length ≤ 60
  lb2 : 2 ≤ bs.length
  n : as.length ≤ N * (bs.length - 1)
  le : k + N * gG as.length bs.length d ≤ 40000000
structure MuOk (as bs : List Q2) (i : Nat) (cs : List Q2) : Prop where
  id : ∀ j, rowF as j = cv (pw (rowF bs) i) (rowF cs) j
  nd : Nd (rowF bs) (rowF cs)
def spDo (C Z CP : Addr) : Sp := fun vs H Q E => ∃ (p q : Addr) (as bs : List Q2), vs = [.ref p, .ref q] ∧ PolyAt C CP H p bs ∧ PolyAt C CP H q as ∧ (as = [] → E (.ref Z) none H) ∧
  (as ≠ [] → ∃ k d N : Nat, MuSz k d N as bs ∧ ∀ (H' : Hp) (t v : Addr) (i : Nat) (cs : List Q2), Same H H' → H' t = some (.tup [.int i, .ref v]) → PolyAt C CP H' v cs → MuOk as bs i cs → (∀ q ∈ cs, Lo q) → cs.length ≤ as.length → Q (.ref t) H')
def spMu (C Z CP : Addr) : Sp := fun vs H Q E => ∃ (p q : Addr) (as bs : List Q2), vs = [.ref p, .ref q] ∧ PolyAt C CP H p bs ∧ PolyAt C CP H q as ∧ (as = [] → E (.ref Z) none H) ∧
  (as ≠ [] → ∃ k d N : Nat, MuSz k d N as bs ∧ ∀ (H' : Hp) (i : Nat) (cs : List Q2), Same H H' → MuOk as bs i cs → Q (.int i) H')
theorem pss_dead {X : Cx} {body : List Stmt} : PSs X body (fun _ _ _ => False) := ⟨fun _ _ _ _ _ _ h => h.elim⟩
theorem nd_row {cs bs qs rs : List Q2} {m n : Nat} (hb : bs.length = m + 1) (tb : Trim bs) (lb : ∀ q ∈ bs, Lo q) (tr : Trim rs) (lr : ∀ q ∈ rs, Lo q) (h1 : rs.length < bs.length) (hn : rs.length = n + 1) (h : ∀ j, rowF cs j = cv (rowF qs) (rowF bs) j + rowF rs j) : Nd (rowF bs) (rowF cs) :=
  nd_of (m := m) (by rw [← hb]; exact fs_row bs) (trim_top tb lb hb) (fs_row qs) ((fs_row rs).mono (by omega)) h (trim_top tr lr hn)
section
variable {P : Program} {w : World} {K : PySem.W.Frag} {mg : Str → Option Value} {base : Heap} {C Z CP : Addr}
abbrev nDo : List Str := ["p", "a", "k", "quotient", "rest"]
theorem scDo : FnScope nDo ["p", "a"] (defScope sDo) := ⟨rfl, rfl, rfl, by decide +kernel, rfl, by decide +kernel, by decide +kernel⟩
theorem ok_do {f fIz fDg fD : Addr} {fd fdIz fdDg fdD : FuncData} (F : Fun K "divided_out" "divided_out" sDo f fd) (R : TxR K mg C Z) (TP : TxP K mg CP)
    (GI : FnOk P w K mg base CX0 1 fIz fdIz ["self"] (spPIz C CP)) (bI : Binds K fdIz ["self"] []) (mI : Meth K CP "is_zero" fIz)
    (GG : FnOk P w K mg base CX0 1 fDg fdDg ["self"] (spPDg C CP)) (bG : Binds K fdDg ["self"] []) (mG : Meth K CP "degree" fDg)
    (GD : FnOk P w K mg base (L2.CX P w) 46 fD fdD ["self", "other"] (spDv2 C Z CP)) (bD : Binds K fdD ["self", "other"] []) (mD : Meth K CP "divided_by" fD) : FnOk P w K mg base (L2.CX P w) 47 f fd ["p", "a"] (spDo C Z CP) := by
  refine F.okX scDo (fun vs H Q E h => ?_) (fun cdv A outer s H vs Q E hr h => ?_)
  · obtain ⟨p, q, as, bs, rfl, _⟩ := h
    rfl
  · obtain ⟨p, q, as, bs, rfl, hpb, hpa, kz, res⟩ := h
    have h1 := hr.mono (show 1 ≤ 46 by decide)
    refine ⟨_, pss_cons (ps_if (pt_val (pe_meth0 (pv 1) TP.cl mI GI h1 bI .nil pass0)) (pss_one (ps_raise rfl (takes_of rfl rfl rfl rfl) (pmk_own PySem.F.excBase_ValueError R.xZ R.gZ R.kZ (raises_own R.bZ R.tZ) rfl))) pss_nil)
      (pss_cons (ps_if (pt_cmpR op_lt (pe_meth0 (pv 0) TP.cl mG GG h1 bG .nil pass0) pe_int (nomark _)) pss_dead pss_nil)
      (pss_cons (ps_set (i := 2) scDo.nd rfl (Or.inl rfl) pe_int)
      (pss_cons (ps_asg (pe_meth (E := E) (pv 1) TP.cl mD GD hr bD .nil (passes_call (takes_of rfl rfl rfl rfl) fun _ _ _ _ h => h) (pa_cons (pv 0) pa_nil)) (pg_tup (by rfl) (pgs_cons (pg_name (i := 3) scDo.nd rfl (Or.inl rfl)) (pgs_cons (pg_name (i := 4) scDo.nd rfl (Or.inl rfl)) pgs_nil))))
      (pss_cons (ps_while (passes_of rfl) (pt_val (pe_meth0 (pv 4) TP.cl mI GI h1 bI .nil pass0))
        (pss_cons (ps_set (i := 2) scDo.nd rfl (Or.inl rfl) (pe_op op_add (pv 2) pe_int))
        (pss_cons (ps_set (i := 1) scDo.nd rfl (Or.inl rfl) (pv 3))
        (pss_one (ps_asg (pe_meth (E := E) (pv 1) TP.cl mD GD hr bD .nil (passes_call (takes_of rfl rfl rfl rfl) fun _ _ _ _ h => h) (pa_cons (pv 0) pa_nil)) (pg_tup (by rfl) (pgs_cons (pg_name (i := 3) scDo.nd rfl (Or.inl rfl)) (pgs_cons (pg_name (i := 4) scDo.nd rfl (Or.inl rfl)) pgs_nil))))))))
      (pss_one (ps_ret (pe_tup (pa_cons (pv 2) (pa_cons (pv 1) pa_nil))))))))), ?_⟩
    have hpa' := hpa
    have hpb' := hpb
    obtain ⟨da, ra, na, ea, _, _, tra⟩ := hpa'
    obtain ⟨db, rb, nb, eb, _, _, trb⟩ := hpb'
    refine ⟨_, rfl, q, da, _, rfl, ea, by rfl, q, as, rfl, hpa, _, rfl, ite2 (fun c => ?_) (fun c => ?_)⟩
    · exact kz (List.length_eq_zero_iff.mp (of_decide_eq_true c))
    have c : as ≠ [] := fun z => c (decide_eq_true (by rw [z]; rfl))
    obtain ⟨k, d, N, z, res⟩ := res c
    obtain ⟨m, hm⟩ : ∃ m, bs.length = m + 1 := ⟨bs.length - 1, by have := z.lb2; omega⟩
    have hbl := z.lb2
    have cb : bs ≠ [] := fun e => by rw [e] at hbl; exact absurd hbl (by decide)
    have topb := trim_top trb z.b.1 hm
    have fsb : Fs (rowF bs) (m + 1) := by rw [← hm]; exact fs_row bs
    obtain ⟨G, hG⟩ : ∃ G, gG as.length bs.length d = G := ⟨_, rfl⟩
    have hle := z.le
    have hN := z.n
    rw [hG] at hle
    rw [hm, Nat.add_sub_cancel] at hN
    have las : 1 ≤ as.length := by
      rcases Nat.eq_zero_or_pos as.length with e | e
      · exact absurd (List.length_eq_zero_iff.mp e) c
      · exact e
    -- a division at i turns
    have dsz : ∀ {i : Nat} {cs : List Q2}, PSz (k + i * G) cs → cs.length ≤ as.length → i + 1 ≤ N → DvSz (k + i * G) d cs bs ∧ gDv (k + i * G) d (cs.length + 1 - bs.length) ≤ k + (i + 1) * G := fun {i cs} h1 h2 h3 => by
      have e1 := gDv_le (k := k + i * G) (d := d) (L := cs.length + 1 - bs.length) (La := as.length) (lb := bs.length) (by omega)
      rw [hG] at e1
      have e2 : (i + 1) * G = i * G + G := by rw [Nat.add_mul, Nat.one_mul]
      have e3 : (i + 1) * G ≤ N * G := Nat.mul_le_mul_right G h3
      have la := z.la
      exact ⟨⟨h1, z.b, by omega, z.lb, by omega⟩, by omega⟩
    have iN : ∀ {i : Nat}, i * m + 1 ≤ as.length → i + 1 ≤ N := fun {i} h => by
      apply Nat.le_of_not_lt
      intro hl
      have := Nat.mul_le_mul_right m (show N ≤ i by omega)
      omega
    refine ⟨_, rfl, p, db, _, rfl, eb, by rfl, p, bs, rfl, hpb, _, _, rfl, rfl, _, rfl, ?_⟩
    rw [show decide (((bs.length : Int) - 1) < 1) = false from decide_eq_false (by omega)]
    refine iteF ?_
    obtain ⟨z0, g0⟩ := dsz (i := 0) (cs := as) (by rw [Nat.zero_mul]; exact z.a) (Nat.le_refl _) (iN (by omega))
    refine ⟨_, rfl, q, da, _, rfl, ea, by rfl, _, rfl, q, p, as, bs, rfl, hpa, hpb, fun e => absurd e cb, fun _ => ⟨_, d, z0, fun H1 t u v qs rs s1 ht hu hv ok => ?_⟩⟩
    refine ⟨t, _, rfl, SqT.of ht, rfl, _, _, rfl, _, _, rfl, rfl, ?_⟩
    refine while_by (fun σ H5 => ∃ (i : Nat) (x u v : Addr) (cs qs rs : List Q2), σ = [some (.ref p), some (.ref x), some (.int (i : Int)), some (.ref u), some (.ref v)] ∧ Same H H5 ∧ PolyAt C CP H5 x cs ∧ PolyAt C CP H5 u qs ∧ PolyAt C CP H5 v rs ∧ PSz (k + i * G) cs ∧ DvOk (k + i * G) d cs bs qs rs ∧
        i * m + cs.length ≤ as.length ∧ 1 ≤ cs.length ∧ ∀ j, rowF as j = cv (pw (rowF bs) i) (rowF cs) j)
      (fun σ _ => match σ[2]? with | some (some (V.int y)) => 100 - y.toNat | _ => 0)
      ⟨0, q, u, v, as, qs, rs, rfl, s1, (PolyAt.stb C CP).same s1 hpa, hu, hv, by rw [Nat.zero_mul]; exact z.a, ok, by omega, las, fun j => by
        show _ = cv one1 _ j
        rw [cv_one]⟩ ?_ ?_
    · rintro σ H5 ⟨i, x, u, v, cs, qs, rs, rfl, s5, hx, hu, hv, zc, ok, hl, hc1, hid⟩
      have hv' := hv
      obtain ⟨dv, _, _, ev, _⟩ := hv'
      refine ⟨_, rfl, v, dv, _, rfl, ev, by rfl, v, rs, rfl, hv, _, rfl, ite2 (fun c2 => ?_) (fun c2 => ?_)⟩
      · have r0 : rs = [] := List.length_eq_zero_iff.mp (of_decide_eq_true c2)
        subst r0
        have i1 : i + 1 ≤ N := iN (by omega)
        have qn : 1 ≤ qs.length := by
          rcases Nat.eq_zero_or_pos qs.length with e | e
          · have e := List.length_eq_zero_iff.mp e
            subst e
            have ht := hx.trim
            have : cs = [] := trim_nil ht zc.1 fun j => by
              rw [ok.id j, rowF_nil, show rowF ([] : List Q2) = fun _ => 0 from funext rowF_nil, cv_zl]
              grind
            rw [this] at hc1
            exact absurd hc1 (by decide)
          · exact e
        have e1 : (i + 1) * m = i * m + m := by rw [Nat.add_mul, Nat.one_mul]
        have lq := ok.lq
        have l1 : (i + 1) * m + qs.length ≤ as.length := by omega
        obtain ⟨_, g1⟩ := dsz zc (by omega) i1
        have zq : PSz (k + (i + 1) * G) qs := psz_mono ok.q g1
        obtain ⟨z2, _⟩ := dsz zq (by omega) (iN (i := i + 1) (by omega))
        have hu' := hu
        obtain ⟨du, _, _, eu, _⟩ := hu'
        have la := z.la
        have im : i ≤ 60 := by
          have := Nat.le_mul_of_pos_right i (show 0 < m by omega)
          omega
        refine ⟨_, rfl, _, _, rfl, rfl, _, rfl, _, rfl, u, du, _, rfl, eu, by rfl, _, rfl, u, p, qs, bs, rfl, hu, (PolyAt.stb C CP).same s5 hpb, fun e => absurd e cb, fun _ => ⟨_, d, z2, fun H6 t u2 v2 qs2 rs2 s6 ht hu2 hv2 ok2 => ?_⟩⟩
        refine ⟨t, _, rfl, SqT.of ht, rfl, _, _, rfl, _, _, rfl, rfl, ⟨i + 1, u, u2, v2, qs, qs2, rs2, rfl, s5.trans s6, (PolyAt.stb C CP).same s6 hu, hu2, hv2, zq, ok2, l1, qn, fun j => ?_⟩, ?_⟩
        · rw [hid j, show rowF cs = cv (rowF qs) (rowF bs) from funext fun j => by
            rw [ok.id j, rowF_nil]
            grind, pw_swap, cv_assoc]
        · show 100 - ((i : Int) + 1).toNat < 100 - ((i : Int)).toNat
          omega
      · have c2 : ¬ rs.length = 0 := fun e => c2 (decide_eq_true e)
        obtain ⟨n, hn⟩ : ∃ n, rs.length = n + 1 := ⟨rs.length - 1, by omega⟩
        refine ⟨_, rfl, _, rfl, (by show 2 ≤ sizeLine; decide), fun t2 ht2 => ?_⟩
        have s7 := same_upd (o := .tup [V.int (i : Int), V.ref x]) ht2
        exact res _ t2 x i cs (s5.trans s7) upd_same ((PolyAt.stb C CP).same s7 hx) ⟨hid, nd_row hm trb z.b.1 ok.tr ok.r.1 ok.lr hn ok.id⟩ zc.1 (by omega)
    · rintro σ H' R1 R2 hR ⟨v0, e0, a, dx, fs, e1, e2, e3, p1, as1, e4, e5, c1, e6, h⟩
      refine ⟨v0, e0, a, dx, fs, e1, e2, e3, p1, as1, e4, e5, c1, e6, ?_⟩
      exact hR _ _ h
end
end Ind

set_option Elab.async false
set_option linter.all false
set_option maxRecDepth 100000
set_option maxHeartbeats 4000000
set_option exponentiation.threshold 20000
namespace Ind
open PySem PySem.Spec PyProof.Rows L2
open Builtin.Int (intBits)
abbrev sEv : Stmt := top 41
/-- the order of a at p where it is even: the caller tells the rest's size -/
def spEv (C Z CP : Addr) : Sp := fun vs H Q E => ∃ (p q : Addr) (as bs : List Q2) (k d N : Nat), vs = [.ref p, .ref q] ∧ PolyAt C CP H p bs ∧ PolyAt C CP H q as ∧ as ≠ [] ∧ MuSz k d N as bs ∧
  (∀ (i : Nat) (cs : List Q2), MuOk as bs i cs → Trim cs → (∀ q ∈ cs, Lo q) → cs.length ≤ as.length → ∃ k' : Nat, PSz k' bs ∧ PSz k' cs ∧ GSz k' bs.length cs.length) ∧
  (∀ (i : Nat) (cs gs : List Q2), MuOk as bs i cs → GcQ bs cs gs → 1 < gs.length → ∀ H' : Hp, Same H H' → Q .non H') ∧
  ∀ (i : Nat) (cs gs : List Q2), MuOk as bs i cs → GcQ bs cs gs → gs.length ≤ 1 → ∀ H' : Hp, Same H H' → Q (.int i) H'
section
variable {P : Program} {w : World} {K : PySem.W.Frag} {mg : Str → Option Value} {base : Heap} {C Z CP CF : Addr}
theorem scEv : FnScope ["p", "a", "k", "rest"] ["p", "a"] (defScope sEv) := ⟨rfl, rfl, rfl, by decide +kernel, rfl, by decide +kernel, by decide +kernel⟩
theorem ok_ev {f fO fD fG : Addr} {fd fdO fdD fdG : FuncData} (F : Fun K "even_order" "even_order" sEv f fd) (TP : TxP K mg CP)
    (GO : FnOk P w K mg base (L2.CX P w) 47 fO fdO ["p", "a"] (spDo C Z CP)) (kO : PySem.W.keepIn K (.ref fO) = true) (bO : Binds K fdO ["p", "a"] []) (gO : mg "divided_out" = some (.ref fO))
    (GD : FnOk P w K mg base CX0 47 fD fdD ["p", "q"] (spCd C CP)) (kD : PySem.W.keepIn K (.ref fD) = true) (bD : Binds K fdD ["p", "q"] []) (gD : mg "common_divisor" = some (.ref fD))
    (GG : FnOk P w K mg base CX0 1 fG fdG ["self"] (spPDg C CP)) (bG : Binds K fdG ["self"] []) (mG : Meth K CP "degree" fG) : FnOk P w K mg base (L2.CX P w) 48 f fd ["p", "a"] (spEv C Z CP) := by
  refine F.okX scEv (fun vs H Q E h => ?_) (fun cdv A outer s H vs Q E hr h => ?_)
  · obtain ⟨p, q, as, bs, k, d, N, rfl, _⟩ := h
    rfl
  · obtain ⟨p, q, as, bs, kk, d, N, rfl, hpb, hpa, na, sz, hs, r1, r2⟩ := h
    have h1 := hr.mono (show 1 ≤ 47 by decide)
    refine ⟨_, pss_cons (ps_asg (pe_call (E := E) GO hr (by rfl) gO kO bO .nil (passes_call (takes_of rfl rfl rfl rfl) fun _ _ _ _ h => h) (pa_cons (pv 0) (pa_cons (pv 1) pa_nil))) (pg_tup (by rfl) (pgs_cons (pg_name (i := 2) scEv.nd rfl (Or.inl rfl)) (pgs_cons (pg_name (i := 3) scEv.nd rfl (Or.inl rfl)) pgs_nil))))
      (pss_cons (ps_if (pt_cmpR op_gt (pe_meth0 (pe_call GD hr (by rfl) gD kD bD .nil pass0 (pa_cons (pv 0) (pa_cons (pv 3) pa_nil))) TP.cl mG GG h1 bG .nil pass0) pe_int (nomark _)) (pss_one (ps_ret pe_non)) pss_nil)
      (pss_one (ps_ret (pv 2)))), ?_⟩
    refine ⟨_, rfl, _, rfl, p, q, as, bs, rfl, hpb, hpa, fun e => absurd e na, fun _ => ⟨kk, d, N, sz, fun H1 t v i cs s1 ht hv ok loc lec => ?_⟩⟩
    refine ⟨t, _, rfl, SqT.of ht, rfl, _, _, rfl, _, _, rfl, rfl, ?_⟩
    obtain ⟨k', zb', zc', la, lb, g1, g2⟩ := hs i cs ok hv.trim loc lec
    refine ⟨_, rfl, _, rfl, p, v, bs, cs, k', rfl, (PolyAt.stb C CP).same s1 hpb, hv, zb', zc', by omega, by omega, g1, g2, fun H2 g gs s2 hg zg GQ => ?_⟩
    obtain ⟨dg, _, _, eg, _⟩ := id hg
    refine ⟨g, dg, _, rfl, eg, by rfl, g, gs, rfl, hg, _, _, rfl, rfl, _, rfl, ?_⟩
    by_cases c : 1 < gs.length
    · rw [show decide ((0 : Int) < ((gs.length : Nat) : Int) - 1) = true from decide_eq_true (by omega)]
      exact iteT (r1 i cs gs ok GQ c H2 (s1.trans s2))
    · rw [show decide ((0 : Int) < ((gs.length : Nat) : Int) - 1) = false from decide_eq_false (by omega)]
      exact iteF ⟨_, rfl, r2 i cs gs ok GQ (by omega) H2 (s1.trans s2)⟩
end
end Ind

set_option Elab.async false
set_option linter.all false
set_option maxRecDepth 100000
set_option maxHeartbeats 4000000
namespace Ind
open PySem PySem.Spec PyProof.Rows L2
/-! ### super().__init__(..) of an own exception over ValueError -/
theorem mw_call {X : Cx} {pins : List (Addr × Obj)} {σ : L2.St} {H : Hp} {s : Shared} {a u C : Addr} {us : List Value} {Q : Value → Shared → Prop} {E : Value → Shared → Prop} {A : Around} (T : OexC X.K C) (I : Inv X pins σ H s)
    (hu : s.heap.get? u = some (PySem.W.kxs_mw "ValueError.__init__" a)) (e : H a = some (exo a C none)) (hl : us.length ≤ sizeLine) (h : ∀ s', Inv X pins σ H s' → Q .none s') : wpAny (model X.prog X.w) A (call (.ref u) us) Q E s := by
  obtain ⟨nm, q, N, bs, bm, sn, sub, ab, col, dd, k0, k1, k2, k3, k5, hC, hbm⟩ := T.cls
  obtain ⟨t1, ho⟩ := exo_at I.hok e
  obtain ⟨hp, g, d, t, os⟩ := s
  have fin : ∀ (h' : Heap) (t2 : Addr), (∀ b o, b ≠ a → hp.get? b = some o → h'.get? b = some o) → h'.get? a = some ({ cls := .ref C, dict := none, data := .fields #[.ref t2, .none, .none, .none, .bool false, .none] } : Obj) → Q .none ⟨h', g, d, t, os⟩ := fun h' t2 k hx => by
    have J := I.write (t' := t) (x := a) (e := a) (o := exo a C none) (by rw [e]; exact True.intro) (.inl rfl) k ⟨_, hx⟩ (exo_ok hx)
    have eu : upd H a (exo a C none) = H := by
      funext b
      by_cases hb : b = a
      · rw [hb, upd_same, e]
      · rw [upd_ne hb]
    rw [eu] at J
    exact h _ J
  refine wpAny_call (codeAny_of_tree ?_)
  show wpAny _ A.in1 (callAny (.ref u) ⟨us, []⟩) _ _ _
  simp only [callAny]
  refine wpAny_bind (wpAny_load hu ?_)
  simp only [PySem.W.kxs_mw, show (Value.type "method-wrapper" == Value.type "method" || Value.type "method-wrapper" == Value.type "builtin_function_or_method" || Value.type "method-wrapper" == Value.type "method-wrapper") = true by decide, if_true]
  refine PySem.W.KFB.if_so (by decide) ?_
  refine wpAny_bind (PySem.W.check_bound_init (PySem.F.excBase_ValueError).toExcCallFacts (I.kIn _ _ hC) ho rfl ?_)
  refine wpAny_bind (wpAny_pure (wpAny_pure ?_))
  refine ⟨PySem.plainId_quiet PySem.F.excBase_ValueError.init.plain _, codeAny_builtin PySem.F.excBase_ValueError.initEntry ?_⟩
  exact PySem.W.exc_init_tree (cls := .ref C) (t0 := t1) (dv := none) (c2 := .none) (c3 := .none) (b4 := .bool false) ho hl fun h' k e' _ => fin h' _ k e'
theorem kept_inv {X : Cx} {pins : List (Addr × Obj)} {σ : L2.St} {H : Hp} {s : Shared} {h' : Heap} (t' : Nat) (I : Inv X pins σ H s) (k : ∀ b o, s.heap.get? b = some o → h'.get? b = some o) : Inv X pins σ H { s with heap := h', toks := t' } :=
  I.un (t' := t') (Un.kept k) (I.hok.kept k)
theorem add_pin {X : Cx} {pins : List (Addr × Obj)} {σ : L2.St} {H : Hp} {s : Shared} {u : Addr} {o : Obj} {n : Nat} (I : Inv X pins σ H s) (hu : s.heap.get? u = some o) (hn : H u = none) (hL : u ≠ X.env.locals) (hf : u ∉ X.fs) (hd : ∀ v, o.data ≠ .cell v) : Inv X ((u, o) :: pins) σ H s :=
  ⟨I.ok, I.os, I.bare, I.base, I.loc, I.cell, I.free, I.freeC, fun p hp => by
    rcases List.mem_append.mp hp with h | h
    · exact I.pin p (List.mem_append_left _ h)
    · rcases List.mem_cons.mp h with rfl | h
      · exact ⟨hu, hn, hL, hf, hd⟩
      · exact I.pin p (List.mem_append_right _ h), I.hok, I.len⟩
theorem less_pin {X : Cx} {pins : List (Addr × Obj)} {σ : L2.St} {H : Hp} {s : Shared} {p : Addr × Obj} (I : Inv X (p :: pins) σ H s) : Inv X pins σ H s :=
  ⟨I.ok, I.os, I.bare, I.base, I.loc, I.cell, I.free, I.freeC, fun q hq => I.pin q (by
    rcases List.mem_append.mp hq with h | h
    · exact List.mem_append_left _ h
    · exact List.mem_append_right _ (List.mem_cons_of_mem _ h)), I.hok, I.len⟩
theorem kxs_cw {M : Model} {A : Around} {E : Value → Shared → Prop} {s : Shared} {i : String} {x u : Addr} {pos : Pos} {env : Env} {e : Expr} {rest : List Expr} {Q : Value → Shared → Prop}
    (he : starEach (e :: rest) env = (false, eval e env) :: starEach rest env) (hplain : (backTo pos (starEach rest env)).any (·.1) = false)
    (h : wpAny M A (spliced (backTo pos (starEach (e :: rest) env))) (fun vs s₁ => PySem.W.KxsAt i u x s₁.heap ∧ wpAny M A (call (.ref u) vs) Q E s₁) E s) :
    wpAny M A (callWith pos (.ref u) [] (backTo pos (starEach (e :: rest) env)) []) Q E s := by
  rw [he] at h ⊢
  refine PySem.W.kxs_callWith (i := i) (x := x) (by show (false || (backTo pos (starEach rest env)).any (·.1)) = false; rw [hplain]; rfl) ?_
  exact PySem.Calls.evalArgs_plain h
/-- what the text and the written part say of a def whose first row is super().__init__(..): class D over ValueError -/
structure SupD (P : Program) (K : PySem.W.Frag) (mg : Str → Option Value) (name qual : Str) (params : Arguments) (body : List Stmt) (scope : Scope) (D cc cda f : Addr) (fd : FuncData) (slf : Str) : Prop where
  ex : ∃ (oc : Value) (od : Option Addr) (dV kV doc pm : Value) (an : Option Addr) (ct : Value) (osl : Array (Option Value)),
    fd = PySem.W.fnX name qual params body scope [("__class__", cc)] dV kV doc pm an (.ref cda) ct ∧ K.lookup f = some ⟨oc, od, .func fd, osl⟩
  code : PySem.W.codeIn K (.ref cda) qual = true
  file : ∃ (ccl : Value) (cdd : Option Addr) (vs : Array Value) (ccs : Array (Option Value)) (fl : Str) (tf : Tok), K.lookup cda = some ⟨ccl, cdd, .fields vs, ccs⟩ ∧ vs[2]? = some (.str fl tf) ∧ ((P.main.file : Str) == fl) = true
  cell : ∃ (cl : Value) (cld : Option Addr) (csl : Array (Option Value)), K.lookup cc = some ⟨cl, cld, .cell (some (.ref D)), csl⟩
  head : ∃ ar : Arg, (params.posonlyargs ++ params.args).head? = some ar ∧ ar.arg = slf
  T : OexC K D
  mro : PySem.W.mroIn K D (.ref D) = some true
  sup : PySem.W.ks_superIn K D D "__init__" = some (some (.builtin "ValueError.__init__"))
  sub : PySem.W.subIn K (.ref D) (.type "ValueError") = some true
  st : PySem.W.nsIn K cStatics "thirdparty.any" = some none
  top : (P.main.scope.names.lookup ("super" : Str)).isSome = false
  none : mg "super" = none
/-- .. its scope -/
structure SupS (slf : Str) (scope : Scope) : Prop where
  sup : scope.names.lookup ("super" : Str) = some .globalImplicit
  cls : scope.names.lookup ("__class__" : Str) = some .free
  me : scope.names.lookup slf = some .local
section
variable {CX : CXT} {P : Program} {w : World} {K : PySem.W.Frag} {mg : Str → Option Value} {base : Heap} {k : Nat} {f D cc cda : Addr} {fd : FuncData} {name qual slf : Str} {params : Arguments} {scope : Scope} {N ps : List Str} {sp : Sp} {e0 : Expr} {es : List Expr} {rest : List Stmt} {p0 p1 p2 p3 p4 : Pos}
abbrev nfOf (name qual : Str) (params : Arguments) (body : List Stmt) (scope : Scope) (cc cda : Addr) : NdefX.NF := ⟨name, qual, params, body, scope, [("__class__", cc)], cda⟩
theorem boot_super : bootBuiltins "super" = some (.type "super") := by first | rfl | kernel_rfl | decide +kernel
theorem ok_super {body : List Stmt} (hbd : body = .Expr (.Call (.Attribute (.Call (.Name "super" p0) [] [] p1) "__init__" p2) (e0 :: es) [] p3) p4 :: rest)
    (F : SupD P K mg name qual params body scope D cc cda f fd slf) (S : NdefX.NScope N ps ["__class__"] scope) (S2 : SupS slf scope) (hps : ps[0]? = some slf) (hN0 : N[0]? = some slf)
    (len : ∀ vs H Q E, sp vs H Q E → vs.length = ps.length)
    (he : ∀ env : Env, starEach (e0 :: es) env = (false, eval e0 env) :: starEach es env) (hpl : ∀ env : Env, (backTo p3 (starEach es env)).any (·.1) = false)
    (hcall : ∀ env : Env, eval (.Call (.Attribute (.Call (.Name "super" p0) [] [] p1) "__init__" p2) (e0 :: es) [] p3) env = (do
      let ov ← attributeBase (.Call (.Name "super" p0) [] [] p1) "__init__" env (eval (.Call (.Name "super" p0) [] [] p1) env)
      standAt p2.atName
      let (g, first) ← holding [ov] (getMethod ov "__init__" (pure false))
      callWith p3 g first (backTo p3 (starEach (e0 :: es) env)) []))
    (hbody : ∀ (A : Around) (outer : List Env) (s : Shared) (H : Hp) (vs : List V) (Q : VK) (E : XK), Room k (A.deeper (NdefX.envF (nfOf name qual params body scope cc cda) f s.heap.objs.size)) → sp vs H Q E →
      ∃ (a : Addr) (ws : List V) (ta : TA) (t : TS), vs = .ref a :: ws ∧ H a = some (exo a D none) ∧ PA (NdefX.ncx CX P w K mg base N (nfOf name qual params body scope cc cda) f A outer s H E) (e0 :: es) ta ∧
        PSs (NdefX.ncx CX P w K mg base N (nfOf name qual params body scope cc cda) f A outer s H E) rest t ∧
        ta (NdefX.startF N vs [none]) H fun us H1 => us.length ≤ 1000 ∧ H1 a = some (exo a D none) ∧ t { nx := fun _ H' => Q .non H', rt := Q } (NdefX.startF N vs [none]) H1) :
    FnOk P w K mg base CX (k + 1) f fd ps sp := by
  refine ⟨len, fun A outer s H args us vs Q E hr e0' hb r hsp => ?_⟩
  obtain ⟨oc, od, dV, kV, doc, pm, an, ct, osl, rfl, lk⟩ := F.ex
  obtain ⟨ccl, cdd, cvs, ccs, fl, tf, lkc, hfl, hfile⟩ := F.file
  obtain ⟨cl, cld, csl, lkcc⟩ := F.cell
  obtain ⟨ar, har, hself⟩ := F.head
  have hl := len _ _ _ _ hsp
  have KX : K.In s.heap := e0'.mod.kin.keeps fun b o e => (e0'.bs b o e).1
  have lim : s.heap.NoLimit := e0'.mod.nolimit.keeps fun b o e => (e0'.bs b o e).1
  refine PySem.ks_codeAny_call_defAt (fd := PySem.W.fnX name qual params body scope [("__class__", cc)] dV kV doc pm an (.ref cda) ct) (body := body) (binds := ps.zip us) hr.depth (KX _ _ lk) rfl lim (PySem.W.codeRec_of KX F.code) rfl hb S.nocell
    (fun ⟨n, _⟩ hy => S.par n (List.of_mem_zip hy).1) (fun h₁ hns kp => ?_) S.co S.gen S.kind
  obtain ⟨a, ws, ta, t, rfl, ha, hta, ht, hq⟩ := hbody A outer s H vs Q E (hr.deeper _) hsp
  have baseCC : base.get? cc = some ⟨cl, cld, .cell (some (.ref D)), csl⟩ := e0'.mod.kin _ _ lkcc
  have C : NdefX.CellsAt [("__class__", cc)] ["__class__"] [none] s.heap H := ⟨rfl, fun y c e => by
      have hy : y = "__class__" ∧ c = cc := by
        by_cases h : y = ("__class__" : Str)
        · subst h
          simp [List.lookup] at e
          exact ⟨rfl, e.symm⟩
        · have h' : (y == ("__class__" : Str)) = false := by simpa using h
          simp [List.lookup, h'] at e
      obtain ⟨rfl, rfl⟩ := hy
      exact ⟨(e0'.bs _ _ baseCC).2, _, _, (e0'.bs _ _ baseCC).1, rfl⟩, fun x y c e1 e2 => by
      have hx : ∀ z : Str, List.lookup z [(("__class__" : Str), cc)] = some c → z = "__class__" := fun z e => by
        by_cases h : z = ("__class__" : Str)
        · exact h
        · have h' : (z == ("__class__" : Str)) = false := by simpa using h
          simp [List.lookup, h'] at e
      rw [hx x e1, hx y e2], fun i y e => by
      match i, e with
      | 0, e =>
        have e : y = "__class__" := by
          have z : some ("__class__" : Str) = some y := e
          exact (Option.some.inj z).symm
        subst e
        exact ⟨cc, rfl, fun v hv => by cases hv⟩
      | i + 1, e => cases e⟩
  have I : Inv (NdefX.ncx CX P w K mg base N (nfOf name qual params body scope cc cda) f A outer s H E) [] (NdefX.startF N (.ref a :: ws) [none]) H { s with heap := h₁, toks := s.toks + (ps.zip us).length } := NdefX.inv_startN S hr.hd e0' hl r C hns kp
  have fin : ∀ {σ' : L2.St} {H' : Hp} {v : V} {u : Value} {s' : Shared}, Inv (NdefX.ncx CX P w K mg base N (nfOf name qual params body scope cc cda) f A outer s H E) [] σ' H' s' → L2.RelV v u → Q v H' → CE outer P w H s Q u s' :=
    fun {σ' H' v u s'} J rv q => ⟨v, H', J.os, J.bare, J.base, J.hok, rv, q⟩
  refine PySem.ks_wpAt_mono (Q := SP (NdefX.ncx CX P w K mg base N (nfOf name qual params body scope cc cda) f A outer s H E) [] { nx := fun _ H' => Q .non H', rt := Q }) ?_ (fun fl s' hs => ?_) (fun e s' hs => hs)
  rotate_left
  · cases fl with
    | ret u =>
      obtain ⟨v, σ', H', J, rv, q⟩ := hs
      exact fin J rv q
    | next =>
      obtain ⟨σ', H', J, q⟩ := hs
      exact fin (v := V.non) (u := Value.none) J rfl q
    | brk =>
      obtain ⟨_, _, _, q⟩ := hs
      exact False.elim q
    | cont =>
      obtain ⟨_, _, _, q⟩ := hs
      exact False.elim q
  subst hbd
  obtain ⟨nm, qq, NN, bs, bm, sn, sub, ab, col, dd, k0, k1, k2, k3, k5, hDk, hbm⟩ := F.T.cls
  have hcl : PySem.W.clsIn K D = some { name := nm, bases := bs, mro := .ref D :: bm, ns := NN, qualname := qq, hasDict := true, slotNames := sn, subclasses := sub, abstract := ab, collection := col, hasDel := false } := by unfold PySem.W.clsIn; rw [hDk] <;> rfl
  obtain ⟨t1, ho⟩ := exo_at I.hok ha
  obtain ⟨m, hn, hlk⟩ := id I.loc
  obtain ⟨u0, ru, hlook⟩ := hlk 0 slf (.ref a) hN0 rfl (.inl S2.me)
  obtain rfl : u0 = Value.ref a := ru
  have hv : m slf = some (.ref a) := by
    rcases hlook with ⟨_, z⟩ | ⟨z, _⟩
    · exact z
    · have z : scope.names.lookup slf = some .cell ∨ scope.names.lookup slf = some .free := z
      rw [S2.me] at z
      rcases z with z | z <;> cases z
  obtain ⟨mb, hmb, hbb⟩ := I.ok.mod.blt
  have hint : ∀ (doc pm : Value), interactive (callEnv (PySem.W.fnX name qual params (.Expr (.Call (.Attribute (.Call (.Name "super" p0) [] [] p1) "__init__" p2) (e0 :: es) [] p3) p4 :: rest) scope [("__class__", cc)] dV kV doc pm an (.ref cda) ct) s.heap.objs.size f) = false := fun doc pm => by
    show (scope.kind == .module && _) = false
    rw [S.kind]
    rfl
  refine PySem.ks_wpAt_execs_cons (PySem.ks_wpAt_Expr_any (PySem.ks_wpAt_MethodCall (pl := pure false) ?_ (hcall _)) (hint _ _) rfl)
  refine PySem.ks_wpAt_super_base (env := NdefX.envF (nfOf name qual params (.Expr (.Call (.Attribute (.Call (.Name "super" p0) [] [] p1) "__init__" p2) (e0 :: es) [] p3) p4 :: rest) scope cc cda) f s.heap.objs.size) S2.sup S2.cls rfl rfl (I.kIn _ _ lk) rfl har rfl (I.kIn _ _ lkc) rfl hfl hfile F.top ?_
  refine PySem.W.ks_loadName_global S.kind S2.sup (PySem.Calls.loadGlobal_builtin (I.mod.glob.keeps I.bk) F.none (hmb.keeps I.bk) ((hbb _ (by decide +kernel)).trans boot_super) ⟨rfl, ?_⟩)
  refine wpAny_loadName_free S.kind S2.cls rfl ⟨_, I.kIn _ _ lkcc, rfl⟩ ?_
  rw [hself]
  refine wpAny_loadName_local S.kind S2.me hn hv ?_
  refine PySem.ks_wpAny_isType_cls (I.kIn _ _ hDk) rfl ⟨rfl, ?_⟩
  refine PySem.ks_wpAny_call_super (I.kIn _ _ hDk) rfl ho rfl (fun c e => by cases e) (PySem.W.looks_mroIn I.kIn F.mro) (fun h2 hso k2' => ?_)
  have I2 := kept_inv (h' := h2) (s.toks + (ps.zip us).length) I k2'
  have hI : PySem.W.InstAt h2 a { cls := .ref D, dict := none, data := .fields #[.ref t1, .none, .none, .none, .bool false, .none] } D none := ⟨k2' _ _ ho, rfl, rfl, trivial⟩
  have hsup := F.sup
  unfold PySem.W.ks_superIn at hsup
  rw [hcl] at hsup
  refine PySem.W.kxs_getMethod PySem.W.kxs_ValueError hso (PySem.W.looks_opaque I2.kIn F.st) (l₀ := .ref D :: bm) ((PySem.W.looks_clsIn I2.kIn hcl).andThen .now) rfl I2.kIn hsup (hI.type.andThen (PySem.W.looks_subIn I2.kIn F.sub)) (PySem.W.ks_ne I2.kIn hI hcl) (by decide) ?_
  have hmw : (h2.push (PySem.W.kxs_mw "ValueError.__init__" a)).get? h2.objs.size = some (PySem.W.kxs_mw "ValueError.__init__" a) := Heap.get?_push_at rfl rfl
  have I3 := kept_inv (h' := h2.push (PySem.W.kxs_mw "ValueError.__init__" a)) (s.toks + (ps.zip us).length + 1) I2 (fun b o e => Heap.get?_push_of_some _ e)
  have I4 := add_pin (u := h2.objs.size) (n := 0) I3 hmw (I2.hok.fresh (Nat.le_refl _)) (Nat.ne_of_gt I2.lt) (I2.nofs (Nat.le_refl _)) (fun v z => by cases z)
  show wpAny _ _ (callWith p3 (.ref h2.objs.size) [] (backTo p3 (starEach (e0 :: es) _)) []) _ _ _
  refine kxs_cw (i := "ValueError.__init__") (x := a) (he _) (hpl _) ?_
  refine thn (hta.run p3 _ _ _ H _ I4 hq) fun us2 s5 ⟨vs5, H5, I5, r5, hl5, ha5, q5⟩ => ?_
  have pin5 := (I5.pin (h2.objs.size, PySem.W.kxs_mw "ValueError.__init__" a) (List.mem_append_right _ List.mem_cons_self)).1
  refine ⟨pin5, ?_⟩
  refine mw_call F.T I5 pin5 ha5 ?_ fun s6 I6 => ?_
  · rw [← Paired.length r5, sizeLine_eq]
    omega
  · exact PySem.wpAt_of_wpAny (ht.run [] s6 _ H5 _ (less_pin I6) q5)
end
end Ind

set_option Elab.async false
set_option linter.all false
set_option maxRecDepth 100000
set_option maxHeartbeats 4000000
set_option exponentiation.threshold 20000
namespace Ind
open PySem PySem.Spec PyProof.Rows L2 SX
abbrev sRfu : Stmt := inClass (top 6) 0
def spRfu (D : Addr) : Sp := fun vs H Q _ => ∃ (a : Addr) (r : List Nat), vs = [.ref a, .str (S r)] ∧ H a = some (exo a D none) ∧ r.length ≤ 100 ∧
  ∀ dx, H dx = none → dx ≠ a → Q .non (upd (upd H dx (exd dx [("reason", .str (S r))])) a (exo a D (some dx)))
/-- how Refused stands -/
structure RfC (P : Program) (w : World) (K : PySem.W.Frag) (mg : Str → Option Value) (base : Heap) (Rf fN : Addr) (fdN : FuncData) : Prop where
  T : OexC K Rf
  iC : PySem.W.findIn K (.ref Rf) "__init__" = some (some (.ref fN))
  tI : PySem.W.typeIn K (.ref fN) = some (.type "function")
  fn : FnOk P w K mg base CX0 1 fN fdN ["self", "reason"] (spRfu Rf)
  b : Binds K fdN ["self", "reason"] []
  g : mg "Refused" = some (.ref Rf)
def RfE (Rf : Addr) (r : List Nat) (H : Hp) (E : XK) : Prop := ∀ (H' : Hp) (d : Addr), Same H H' → H' d = some (.xd [("reason", .str (S r))]) → E (.ref Rf) (some d) H'
theorem rf_raise {Rf : Addr} {H0 H : Hp} {E : XK} {r : List Nat} (hr : r.length ≤ 100) (s : Same H0 H) (k : RfE Rf r H0 E) : ∀ a, H a = none → spRfu Rf [.ref a, .str (S r)] (upd H a (exo a Rf none))
    (fun v H2 => v = .non ∧ ∃ (d : Addr) (fs : List (Str × V)), H2 a = some (exo a Rf (some d)) ∧ H2 d = some (exd d fs) ∧ H d = none ∧ E (.ref Rf) (some d) (upd (L2.del H2 a) d (.xd fs))) (fun _ _ _ => False) := fun a na => by
  refine ⟨a, r, rfl, upd_same, hr, fun dx ndx dne => ⟨rfl, dx, [("reason", .str (S r))], upd_same, ?_, ?_, ?_⟩⟩
  · rw [upd_ne dne, upd_same]
  · rw [upd_ne dne] at ndx
    exact ndx
  · have nd : H dx = none := by
      rw [upd_ne dne] at ndx
      exact ndx
    refine k _ dx (fun b o e => ?_) upd_same
    have hb := s _ _ e
    rw [upd_ne (ne_of_none hb nd), del_ne (ne_of_none hb na), upd_ne (ne_of_none hb na), upd_ne (ne_of_none hb nd), upd_ne (ne_of_none hb na)]
    exact hb
def lit (s : String) : List Nat := (Str.ofString s).cps.toList
theorem lit_S (s : String) : Str.ofString s = S (lit s) := rfl
section
variable {P : Program} {w : World} {K : PySem.W.Frag} {mg : Str → Option Value} {base : Heap} {D cc cda Rf : Addr}
theorem nsRfu : NdefX.NScope ["self", "reason", "__class__"] ["self", "reason"] ["__class__"] (defScope sRfu) := NdefX.nscope_by (by decide +kernel)
theorem ok_rfu {f : Addr} {fd : FuncData} (F : SupD P K mg "__init__" "Refused.__init__" (defArgs sRfu) (defBody sRfu) (defScope sRfu) D cc cda f fd "self") (hno : PySem.W.findIn K (.ref D) "reason" = some none) :
    FnOk P w K mg base CX0 1 f fd ["self", "reason"] (spRfu D) := by
  refine ok_super (k := 0) (N := ["self", "reason", "__class__"]) (hbd := rfl) F nsRfu ⟨rfl, rfl, rfl⟩ rfl rfl (fun vs H Q E h => ?_) (fun _ => rfl) (fun _ => rfl) (fun _ => rfl) (fun A outer s H vs Q E hr h => ?_)
  · obtain ⟨a, n, rfl, _⟩ := h
    rfl
  · obtain ⟨a, r, rfl, ha, hl, k⟩ := h
    refine ⟨a, [.str (S r)], _, _, rfl, ha, pa_cons (pe_joined (.cons pe_str (.cons (pe_fmt (pv 1)) .nil))) pa_nil, pss_one (ps_ost (pv 0) (pv 1)), ?_⟩
    refine ⟨_, rfl, ?_, _, rfl, .inl ⟨S r, rfl, (by rw [S_len]; exact Nat.le_trans hl (by decide)), _, rfl, ?_, ?_⟩⟩
    · decide +kernel
    · have h0 := S_len r
      rw [PySem.Str.length_append]
      have h1 : (Str.empty ++ Str.ofString "refused: ").length ≤ 100 := by decide +kernel
      have h2 : (20000 : Nat) ≤ sizeLine := by decide
      omega
    · exact ⟨(by show 1 ≤ 1000; decide), ha, _, rfl, _, rfl, a, D, rfl, F.T, hno, .inl ⟨ha, k⟩⟩
end
end Ind

set_option Elab.async false
set_option linter.all false
set_option maxRecDepth 100000
set_option maxHeartbeats 4000000
set_option exponentiation.threshold 20000
namespace Ind
open PySem PySem.Spec PyProof.Rows L2 SX
open Builtin.Int (intBits)
abbrev sFo : Stmt := inClass (top 43) 15
abbrev sFd2 : Stmt := inClass (top 43) 16
abbrev sFl : Stmt := inClass (top 43) 17
def spFdg (C CP CF Rf : Addr) : Sp := fun vs H Q E => ∃ (f : Addr) (ns ds : List Q2), vs = [.ref f] ∧ FunAt C CP CF H f ns ds ∧ (ns = [] → RfE Rf (lit "zero") H E) ∧ (ns ≠ [] → Q (.int ((ns.length : Int) - (ds.length : Int))) H)
def spFld (C CP CF Rf : Addr) : Sp := fun vs H Q E => ∃ (f : Addr) (ns ds : List Q2), vs = [.ref f] ∧ FunAt C CP CF H f ns ds ∧ (ns = [] → RfE Rf (lit "zero") H E) ∧ ∀ (r : Addr) (q : Q2), ns.getLast? = some q → RatQ C H r q → Q (.ref r) H
section
variable {P : Program} {w : World} {K : PySem.W.Frag} {mg : Str → Option Value} {base : Heap} {C Z CP CF Rf : Addr}
theorem scFdg : FnScope ["self"] ["self"] (defScope sFd2) := ⟨rfl, rfl, rfl, by decide +kernel, rfl, by decide +kernel, by decide +kernel⟩
theorem scFl : FnScope ["self"] ["self"] (defScope sFl) := ⟨rfl, rfl, rfl, by decide +kernel, rfl, by decide +kernel, by decide +kernel⟩
theorem ok_fdg {f fZ fG fN : Addr} {fd fdZ fdG fdN : FuncData} (F : Fun K "degree" "RatFun.degree" sFd2 f fd) (TP : TxP K mg CP) (TF : TxF K mg CF) (N : RfC P w K mg base Rf fN fdN)
    (GZ : FnOk P w K mg base CX0 2 fZ fdZ ["self"] (spFz C CP CF)) (bZ : Binds K fdZ ["self"] []) (mZ : Meth K CF "is_zero" fZ)
    (GG : FnOk P w K mg base CX0 1 fG fdG ["self"] (spPDg C CP)) (bG : Binds K fdG ["self"] []) (mG : Meth K CP "degree" fG) : FnOk P w K mg base (L2.CX P w) 3 f fd ["self"] (spFdg C CP CF Rf) := by
  refine F.okX scFdg (fun vs H Q E h => ?_) (fun cdv A outer s H vs Q E hr h => ?_)
  · obtain ⟨p, ns, ds, rfl, _⟩ := h
    rfl
  · obtain ⟨p, ns, ds, rfl, hf, kE, kQ⟩ := h
    have h1 := hr.mono (show 1 ≤ 2 by decide)
    refine ⟨_, pss_cons (ps_if (pt_val (pe_meth0 (pv 0) TF.cl mZ GZ hr bZ .nil pass0)) (pss_one (ps_raise rfl (takes_of rfl rfl rfl rfl) (pmk_oex N.T N.iC N.tI N.fn hr N.b .nil pass0 (by rfl) N.g (pa_cons pe_str pa_nil)))) pss_nil)
      (pss_one (ps_ret (pe_op op_sub (pe_meth0 (pe_fld (pv 0) rfl) TP.cl mG GG h1 bG .nil pass0) (pe_meth0 (pe_fld (pv 0) rfl) TP.cl mG GG h1 bG .nil pass0)))), ?_⟩
    obtain ⟨dx, pn, pd, e, hn, hd⟩ := id hf
    obtain ⟨dn, _, _, en, _⟩ := id hn
    obtain ⟨dd, _, _, ed, _⟩ := id hd
    refine ⟨_, rfl, p, dx, _, rfl, e, rff_no _ _ (by decide +kernel) (by decide +kernel), p, ns, ds, rfl, hf, _, rfl, ?_⟩
    by_cases c : ns = []
    · rw [show decide (ns.length = 0) = true from decide_eq_true (by rw [c]; rfl)]
      exact iteT ⟨by show 1 ≤ 1000; decide, rf_raise (E := E) (r := lit "zero") (by decide +kernel) same_rfl (kE c)⟩
    · rw [show decide (ns.length = 0) = false from decide_eq_false fun z => c (List.length_eq_zero_iff.mp z)]
      refine iteF ⟨_, rfl, p, CF, dx, _, _, rfl, e, TF.cl, TF.nN, rff_num _ _, pn, dn, _, rfl, en, by rfl, pn, ns, rfl, hn, _, rfl, p, CF, dx, _, _, rfl, e, TF.cl, TF.nD, rff_den _ _, pd, dd, _, rfl, ed, by rfl, pd, ds, rfl, hd, _, _, rfl, rfl, ?_⟩
      have := kQ c
      show Q (V.int (((ns.length : Int) - 1) - ((ds.length : Int) - 1))) H
      rw [show ((ns.length : Int) - 1) - ((ds.length : Int) - 1) = (ns.length : Int) - (ds.length : Int) by omega]
      exact this
theorem ok_fld {f fZ fL fN : Addr} {fd fdZ fdL fdN : FuncData} (F : Fun K "leading" "RatFun.leading" sFl f fd) (TP : TxP K mg CP) (TF : TxF K mg CF) (N : RfC P w K mg base Rf fN fdN)
    (GZ : FnOk P w K mg base CX0 2 fZ fdZ ["self"] (spFz C CP CF)) (bZ : Binds K fdZ ["self"] []) (mZ : Meth K CF "is_zero" fZ)
    (GL : FnOk P w K mg base (L2.CX P w) 2 fL fdL ["self"] (spPLa C Z CP)) (bL : Binds K fdL ["self"] []) (mL : Meth K CP "last" fL) : FnOk P w K mg base (L2.CX P w) 3 f fd ["self"] (spFld C CP CF Rf) := by
  refine F.okX scFl (fun vs H Q E h => ?_) (fun cdv A outer s H vs Q E hr h => ?_)
  · obtain ⟨p, ns, ds, rfl, _⟩ := h
    rfl
  · obtain ⟨p, ns, ds, rfl, hf, kE, kQ⟩ := h
    refine ⟨_, pss_cons (ps_if (pt_val (pe_meth0 (pv 0) TF.cl mZ GZ hr bZ .nil pass0)) (pss_one (ps_raise rfl (takes_of rfl rfl rfl rfl) (pmk_oex N.T N.iC N.tI N.fn hr N.b .nil pass0 (by rfl) N.g (pa_cons pe_str pa_nil)))) pss_nil)
      (pss_one (ps_ret (pe_meth0 (E := E) (pe_fld (pv 0) rfl) TP.cl mL GL hr bL .nil (passes_call (takes_of rfl rfl rfl rfl) fun _ _ _ _ h => h)))), ?_⟩
    obtain ⟨dx, pn, pd, e, hn, hd⟩ := id hf
    obtain ⟨dn, _, _, en, _⟩ := id hn
    refine ⟨_, rfl, p, dx, _, rfl, e, rff_no _ _ (by decide +kernel) (by decide +kernel), p, ns, ds, rfl, hf, _, rfl, ?_⟩
    by_cases c : ns = []
    · rw [show decide (ns.length = 0) = true from decide_eq_true (by rw [c]; rfl)]
      exact iteT ⟨by show 1 ≤ 1000; decide, rf_raise (E := E) (r := lit "zero") (by decide +kernel) same_rfl (kE c)⟩
    · rw [show decide (ns.length = 0) = false from decide_eq_false fun z => c (List.length_eq_zero_iff.mp z)]
      exact iteF ⟨_, rfl, p, CF, dx, _, _, rfl, e, TF.cl, TF.nN, rff_num _ _, pn, dn, _, rfl, en, by rfl, pn, ns, rfl, hn, fun z => absurd z c, kQ⟩
end
end Ind

set_option Elab.async false
set_option linter.all false
set_option maxRecDepth 100000
set_option maxHeartbeats 4000000
set_option exponentiation.threshold 20000
namespace Ind
open PySem PySem.Spec PyProof.Rows L2 SX
open Builtin.Int (intBits)
/-- the even order of as at bs is o -/
def EvOk (as bs : List Q2) (o : Option Nat) : Prop := as ≠ [] ∧ ∃ k d N : Nat, MuSz k d N as bs ∧
  (∀ (i : Nat) (cs : List Q2), MuOk as bs i cs → Trim cs → (∀ q ∈ cs, Lo q) → cs.length ≤ as.length → ∃ k' : Nat, PSz k' bs ∧ PSz k' cs ∧ GSz k' bs.length cs.length) ∧
  (∀ (i : Nat) (cs gs : List Q2), MuOk as bs i cs → GcQ bs cs gs → 1 < gs.length → o = none) ∧
  ∀ (i : Nat) (cs gs : List Q2), MuOk as bs i cs → GcQ bs cs gs → gs.length ≤ 1 → o = some i
def oV : Option Nat → V
  | none => .non
  | some i => .int i
theorem ev_of {C Z CP p q : Addr} {as bs : List Q2} {o : Option Nat} {H : Hp} {Q : VK} {E : XK} (hb : PolyAt C CP H p bs) (ha : PolyAt C CP H q as) (h : EvOk as bs o) (k : ∀ H', Same H H' → Q (oV o) H') : spEv C Z CP [.ref p, .ref q] H Q E := by
  obtain ⟨na, kk, d, N, sz, hs, h1, h2⟩ := h
  exact ⟨p, q, as, bs, kk, d, N, rfl, hb, ha, na, sz, hs, fun i cs gs a b c H' s => by have := k H' s; rw [h1 i cs gs a b c] at this; exact this, fun i cs gs a b c H' s => by have := k H' s; rw [h2 i cs gs a b c] at this; exact this⟩
def ordV : Option Nat → Option Nat → V
  | some a, some b => .int ((a : Int) - (b : Int))
  | _, _ => .non
def spFor (C CP CF Rf : Addr) : Sp := fun vs H Q E => ∃ (f p : Addr) (ns ds bs : List Q2), vs = [.ref f, .ref p] ∧ FunAt C CP CF H f ns ds ∧ PolyAt C CP H p bs ∧ (ns = [] → RfE Rf (lit "zero") H E) ∧ (ns ≠ [] → ∃ oa ob, EvOk ns bs oa ∧ EvOk ds bs ob ∧ ∀ H', Same H H' → Q (ordV oa ob) H')
section
variable {P : Program} {w : World} {K : PySem.W.Frag} {mg : Str → Option Value} {base : Heap} {C Z CP CF Rf : Addr}
theorem scFor : FnScope ["self", "p", "above", "below"] ["self", "p"] (defScope sFo) := ⟨rfl, rfl, rfl, by decide +kernel, rfl, by decide +kernel, by decide +kernel⟩
theorem ok_for {f fZ fV fN : Addr} {fd fdZ fdV fdN : FuncData} (F : Fun K "order_at" "RatFun.order_at" sFo f fd) (TF : TxF K mg CF) (N : RfC P w K mg base Rf fN fdN)
    (GZ : FnOk P w K mg base CX0 2 fZ fdZ ["self"] (spFz C CP CF)) (bZ : Binds K fdZ ["self"] []) (mZ : Meth K CF "is_zero" fZ)
    (GV : FnOk P w K mg base (L2.CX P w) 48 fV fdV ["p", "a"] (spEv C Z CP)) (kV : PySem.W.keepIn K (.ref fV) = true) (bV : Binds K fdV ["p", "a"] []) (gV : mg "even_order" = some (.ref fV)) : FnOk P w K mg base (L2.CX P w) 49 f fd ["self", "p"] (spFor C CP CF Rf) := by
  refine F.okX scFor (fun vs H Q E h => ?_) (fun cdv A outer s H vs Q E hr h => ?_)
  · obtain ⟨f, p, ns, ds, bs, rfl, _⟩ := h
    rfl
  · obtain ⟨g, p, ns, ds, bs, rfl, hf, hb, kE, kQ⟩ := h
    have h2 := hr.mono (show 2 ≤ 48 by decide)
    refine ⟨_, pss_cons (ps_if (pt_val (pe_meth0 (pv 0) TF.cl mZ GZ h2 bZ .nil pass0)) (pss_one (ps_raise rfl (takes_of rfl rfl rfl rfl) (pmk_oex N.T N.iC N.tI N.fn h2 N.b .nil pass0 (by rfl) N.g (pa_cons pe_str pa_nil)))) pss_nil)
      (pss_cons (ps_set (i := 2) scFor.nd rfl (Or.inl rfl) (pe_call (E := E) GV hr (by rfl) gV kV bV .nil (passes_call (takes_of rfl rfl rfl rfl) fun _ _ _ _ h => h) (pa_cons (pv 1) (pa_cons (pe_fld (pv 0) rfl) pa_nil))))
      (pss_cons (ps_set (i := 3) scFor.nd rfl (Or.inl rfl) (pe_call (E := E) GV hr (by rfl) gV kV bV .nil (passes_call (takes_of rfl rfl rfl rfl) fun _ _ _ _ h => h) (pa_cons (pv 1) (pa_cons (pe_fld (pv 0) rfl) pa_nil))))
      (pss_cons (ps_if (PW.pt (pw_or (pt_cmpR op_isN (pv 2) pe_non (nomark _)) (pw_or1 (pt_cmpR op_isN (pv 3) pe_non (nomark _))))) (pss_one (ps_ret pe_non)) pss_nil)
      (pss_one (ps_ret (pe_op op_sub (pv 2) (pv 3))))))), ?_⟩
    obtain ⟨dx, pn, pd, e, hn, hd⟩ := id hf
    refine ⟨_, rfl, g, dx, _, rfl, e, rff_no _ _ (by decide +kernel) (by decide +kernel), g, ns, ds, rfl, hf, _, rfl, ?_⟩
    by_cases c : ns = []
    · rw [show decide (ns.length = 0) = true from decide_eq_true (by rw [c]; rfl)]
      exact iteT ⟨by show 1 ≤ 1000; decide, rf_raise (E := E) (r := lit "zero") (by decide +kernel) same_rfl (kE c)⟩
    rw [show decide (ns.length = 0) = false from decide_eq_false fun z => c (List.length_eq_zero_iff.mp z)]
    obtain ⟨oa, ob, ea, eb, k⟩ := kQ c
    refine iteF ⟨_, rfl, _, rfl, g, CF, dx, _, _, rfl, e, TF.cl, TF.nN, rff_num _ _, ?_⟩
    unfold tNil
    show spEv C Z CP [.ref p, .ref pn] H _ E
    refine ev_of hb hn ea fun H1 s1 => ?_
    refine ⟨_, rfl, _, rfl, g, CF, dx, _, _, rfl, s1 _ _ e, TF.cl, TF.nD, rff_den _ _, ?_⟩
    show spEv C Z CP [.ref p, .ref pd] H1 _ E
    refine ev_of ((PolyAt.stb C CP).same s1 hb) ((PolyAt.stb C CP).same s1 hd) eb fun H2 s2 => ?_
    have k := k H2 (s1.trans s2)
    cases oa with
    | none => exact ⟨_, rfl, rfl, _, rfl, iteT (iteT k)⟩
    | some a =>
      refine ⟨_, rfl, rfl, _, rfl, iteF ?_⟩
      cases ob with
      | none => exact ⟨_, rfl, rfl, _, rfl, iteT k⟩
      | some b => exact ⟨_, rfl, rfl, _, rfl, iteF ⟨_, rfl, _, rfl, _, _, rfl, rfl, k⟩⟩
end
end Ind

set_option Elab.async false
set_option linter.all false
set_option maxRecDepth 100000
set_option maxHeartbeats 4000000
set_option exponentiation.threshold 20000
namespace Ind
open PySem PySem.Spec PyProof.Rows L2
open Builtin.Int (intBits)
abbrev sPCo : Stmt := inClass (top 34) 13
abbrev sFc : Stmt := inClass (top 43) 10
abbrev sOfR : Stmt := top 45
def spPCo (C CP : Addr) : Sp := fun vs H Q _ => ∃ (p : Addr) (as : List Q2) (j : Int), vs = [.ref p, .int j] ∧ PolyAt C CP H p as ∧ ∀ (H' : Hp) (r : Addr), Same H H' → RatQ C H' r (if 0 ≤ j then as.getD j.toNat q0 else q0) → Q (.ref r) H'
def spFc (C CP CF : Addr) : Sp := fun vs H Q _ => ∃ (f : Addr) (ns ds : List Q2), vs = [.ref f] ∧ FunAt C CP CF H f ns ds ∧ (1 < ns.length ∨ 1 < ds.length → Q .non H) ∧ (ns.length ≤ 1 → ds.length ≤ 1 → ∀ (H' : Hp) (r : Addr), Same H H' → RatQ C H' r (ns.getD 0 q0) → Q (.ref r) H')
section
variable {P : Program} {w : World} {K : PySem.W.Frag} {mg : Str → Option Value} {base : Heap} {C Z CP CF : Addr}
abbrev nPCo : List Str := ["self", "k"]
theorem scPCo : FnScope nPCo ["self", "k"] (defScope sPCo) := ⟨rfl, rfl, rfl, by decide +kernel, rfl, by decide +kernel, by decide +kernel⟩
theorem ok_pco {f fZ : Addr} {fd fdZ : FuncData} (F : Fun K "coefficient" "Poly.coefficient" sPCo f fd) (T : TxL K mg) (TP : TxP K mg CP) (GZ : FnOk P w K mg base CX0 43 fZ fdZ [] (spMk C 0 1)) (kZ : PySem.W.keepIn K (.ref fZ) = true) (bZ : Binds K fdZ [] []) (gZ : mg "zero" = some (.ref fZ)) : FnOk P w K mg base CX0 44 f fd ["self", "k"] (spPCo C CP) := by
  refine F.ok scPCo (fun vs H Q E h => ?_) (fun cdv A outer s H vs Q E hr h => ?_)
  · obtain ⟨p, as, j, rfl, _⟩ := h
    rfl
  · obtain ⟨p, as, j, rfl, ⟨dp, rp, np, ep, ⟨pa, era, qa⟩, hnp, _⟩, k⟩ := h
    have hl := paired_len qa
    refine ⟨_, pss_cons (ps_if (pt_chain op_le op_lt pe_int (pv 1) (pe_callB call_len_seq (by rfl) T.len PySem.boot_len (pa_cons (pe_fld (pv 0) rfl) pa_nil))) (pss_one (ps_ret (pe_ix ix_tup (pe_fld (pv 0) rfl) (pv 1) fun _ _ => rfl))) pss_nil)
      (pss_one (ps_ret (pe_call0 GZ hr (by rfl) gZ kZ bZ .nil pass0))), ?_⟩
    refine ⟨_, rfl, _, _, rfl, rfl, _, rfl, ?_⟩
    have out : ∀ (h : (if 0 ≤ j then as.getD j.toNat q0 else q0) = q0), spMk C 0 1 [] H Q E0 := fun h => ⟨rfl, fun r H' hr2 s' _ => k H' r s' (by rw [h]; exact hr2)⟩
    by_cases c0 : 0 ≤ j
    · rw [show decide ((0 : Int) ≤ j) = true from decide_eq_true c0]
      refine iteT ⟨_, rfl, p, CP, dp, _, _, rfl, ep, TP.cl, TP.nR, pf_row _ _ _, rp, _, rfl, .inr (SqT.of era), _, _, rfl, rfl, _, rfl, ?_⟩
      rw [List.length_map, hl]
      refine ite2 (fun c => ?_) (fun c => ?_)
      · have c := of_decide_eq_true c
        obtain ⟨q, hq⟩ : ∃ q, as[j.toNat]? = some q := ⟨_, List.getElem?_eq_getElem (by omega)⟩
        obtain ⟨r, hr1, hr2⟩ := paired_last qa hq
        have hat : atI (pa.map V.ref) j = some (.ref r) := by
          have e : j = ((j.toNat : Nat) : Int) := by omega
          rw [e]
          exact atI_of (by rw [List.getElem?_map, hr1]; rfl)
        refine ⟨_, rfl, p, CP, dp, _, _, rfl, ep, TP.cl, TP.nR, pf_row _ _ _, _, rfl, rp, _, _, .ref r, rfl, rfl, SqT.of era, hat, k H r same_rfl ?_⟩
        rw [if_pos c0, getD_q hq]
        exact hr2
      · have c : ¬ j < (as.length : Int) := fun z => c (decide_eq_true z)
        exact out (by rw [if_pos c0]; exact getD_out (by omega))
    · rw [show decide ((0 : Int) ≤ j) = false from decide_eq_false c0]
      exact iteF ⟨_, rfl, iteF (out (by rw [if_neg c0]))⟩
theorem scFc : FnScope ["self"] ["self"] (defScope sFc) := ⟨rfl, rfl, rfl, by decide +kernel, rfl, by decide +kernel, by decide +kernel⟩
theorem ok_fc {f fG fC : Addr} {fd fdG fdC : FuncData} (F : Fun K "as_constant" "RatFun.as_constant" sFc f fd) (TP : TxP K mg CP) (TF : TxF K mg CF) (GG : FnOk P w K mg base CX0 1 fG fdG ["self"] (spPDg C CP)) (bG : Binds K fdG ["self"] []) (mG : Meth K CP "degree" fG)
    (GC : FnOk P w K mg base CX0 44 fC fdC ["self", "k"] (spPCo C CP)) (bC : Binds K fdC ["self", "k"] []) (mC : Meth K CP "coefficient" fC) : FnOk P w K mg base CX0 45 f fd ["self"] (spFc C CP CF) := by
  refine F.ok scFc (fun vs H Q E h => ?_) (fun cdv A outer s H vs Q E hr h => ?_)
  · obtain ⟨p, ns, ds, rfl, _⟩ := h
    rfl
  · obtain ⟨p, ns, ds, rfl, ⟨dx, pn, pd, e, hn, hd⟩, k1, k2⟩ := h
    have h1 := hr.mono (show 1 ≤ 44 by decide)
    refine ⟨_, pss_cons (ps_if (PW.pt (pw_or (pt_cmpR op_gt (pe_meth0 (pe_fld (pv 0) rfl) TP.cl mG GG h1 bG .nil pass0) pe_int (nomark _)) (pw_or1 (pt_cmpR op_gt (pe_meth0 (pe_fld (pv 0) rfl) TP.cl mG GG h1 bG .nil pass0) pe_int (nomark _))))) (pss_one (ps_ret pe_non)) pss_nil)
      (pss_one (ps_ret (pe_meth (pe_fld (pv 0) rfl) TP.cl mC GC hr bC .nil pass0 (pa_cons pe_int pa_nil)))), ?_⟩
    obtain ⟨dn, _, _, en, _⟩ := id hn
    obtain ⟨dd, _, _, ed, _⟩ := id hd
    refine ⟨_, rfl, p, CF, dx, _, _, rfl, e, TF.cl, TF.nN, rff_num _ _, pn, dn, _, rfl, en, by rfl, pn, ns, rfl, hn, _, _, rfl, rfl, _, rfl, ?_⟩
    by_cases c : 1 < ns.length
    · rw [show decide ((0 : Int) < ((ns.length : Nat) : Int) - 1) = true from decide_eq_true (by omega)]
      exact iteT (iteT (k1 (.inl c)))
    rw [show decide ((0 : Int) < ((ns.length : Nat) : Int) - 1) = false from decide_eq_false (by omega)]
    refine iteF ⟨_, rfl, p, CF, dx, _, _, rfl, e, TF.cl, TF.nD, rff_den _ _, pd, dd, _, rfl, ed, by rfl, pd, ds, rfl, hd, _, _, rfl, rfl, _, rfl, ?_⟩
    by_cases c2 : 1 < ds.length
    · rw [show decide ((0 : Int) < ((ds.length : Nat) : Int) - 1) = true from decide_eq_true (by omega)]
      exact iteT (k1 (.inr c2))
    rw [show decide ((0 : Int) < ((ds.length : Nat) : Int) - 1) = false from decide_eq_false (by omega)]
    refine iteF ⟨_, rfl, p, CF, dx, _, _, rfl, e, TF.cl, TF.nN, rff_num _ _, pn, dn, _, rfl, en, by rfl, pn, ns, 0, rfl, hn, fun H' r s hr' => k2 (by omega) (by omega) H' r s ?_⟩
    rw [if_pos (by decide)] at hr'
    exact hr'
end
end Ind

set_option Elab.async false
set_option linter.all false
set_option maxRecDepth 100000
set_option maxHeartbeats 4000000
set_option exponentiation.threshold 20000
namespace Ind
open PySem PySem.Spec PyProof.Rows L2
open Builtin.Int (intBits)
def spOfR (C CP CF : Addr) : Sp := fun vs H Q _ => ∃ (r : Addr) (q : Q2) (k : Nat), vs = [.ref r] ∧ RatQ C H r q ∧ Lo q ∧ intBits q.1 ≤ k ∧ intBits q.2 ≤ k ∧ 1 ≤ k ∧ k ≤ 2000 ∧ MadeF C CP CF (trimQ [q]) [(1, 1)] k H Q
section
variable {P : Program} {w : World} {K : PySem.W.Frag} {mg : Str → Option Value} {base : Heap} {C Z CP CF : Addr}
theorem scOfR : FnScope ["q"] ["q"] (defScope sOfR) := ⟨rfl, rfl, rfl, by decide +kernel, rfl, by decide +kernel, by decide +kernel⟩
theorem ok_ofr {f fP fCs : Addr} {fd fdP fdCs : FuncData} (F : Fun K "of_ratio" "of_ratio" sOfR f fd)
    (GP : FnOk P w K mg base CX0 50 fP fdP ["p"] (spOfP C CP CF)) (kP : PySem.W.keepIn K (.ref fP) = true) (bP : Binds K fdP ["p"] []) (gP : mg "of_poly" = some (.ref fP))
    (GC : FnOk P w K mg base CX0 45 fCs fdCs ["r"] (spCst C CP)) (kC : PySem.W.keepIn K (.ref fCs) = true) (bC : Binds K fdCs ["r"] []) (gC : mg "constant" = some (.ref fCs)) : FnOk P w K mg base CX0 51 f fd ["q"] (spOfR C CP CF) := by
  refine F.ok scOfR (fun vs H Q E h => ?_) (fun cdv A outer s H vs Q E hr h => ?_)
  · obtain ⟨r, q, k, rfl, _⟩ := h
    rfl
  · obtain ⟨r, q, k, rfl, hr0, lq, b1, b2, k1, k2, res⟩ := h
    have h45 := hr.mono (show 45 ≤ 50 by decide)
    refine ⟨_, pss_one (ps_ret (pe_call GP hr (by rfl) gP kP bP .nil pass0 (pa_cons (pe_call GC h45 (by rfl) gC kC bC .nil pass0 (pa_cons (pv 0) pa_nil)) pa_nil))), ?_⟩
    refine ⟨_, rfl, r, q, k, rfl, hr0, lq, b1, b2, k1, by omega, fun H1 t s1 ht zt => ?_⟩
    have tl := trim_len [q]
    have tl : (trimQ [q]).length ≤ 1 := tl
    refine ⟨t, trimQ [q], k, rfl, ht, zt, k1, ⟨by omega, by decide, ?_, by omega⟩, fun H2 f ns ds s2 hf R z1 z2 => res H2 f ns ds (s1.trans s2) hf R z1 z2⟩
    have := Nat.mul_le_mul_right (k + 8) (show (trimQ [q]).length + 1 ≤ 2 by omega)
    omega
end
end Ind

set_option Elab.async false
set_option linter.all false
set_option maxRecDepth 100000
set_option maxHeartbeats 4000000
namespace Ind
open PySem PySem.Spec PyProof.Rows L2
open Builtin.Int (intBits)
section
variable {P : Program} {w : World} {K : PySem.W.Frag} {mg : Str → Option Value} {base : Heap} {C Z : Addr}
theorem scGcd20 : FnScope ["a", "b"] ["a", "b"] (defScope sGcd) := ⟨rfl, rfl, rfl, by decide +kernel, rfl, by decide +kernel, by decide +kernel⟩
theorem ok_gcd20 {f : Addr} {fd : FuncData} (F : Fun K "_law_gcd" "_law_gcd" sGcd f fd) (T : TxL K mg) : FnOk P w K mg base CX0 1 f fd ["a", "b"] spGcdI := by
  refine F.ok scGcd20 (fun vs H Q E h => ?_) (fun cdv A outer s H vs Q E hr h => ?_)
  · obtain ⟨a, b, rfl, _⟩ := h
    rfl
  · obtain ⟨a, b, rfl, q⟩ := h
    refine ⟨_, pss_cons (ps_set (i := 0) scGcd20.nd rfl (Or.inl rfl) (pe_callB call_abs (by rfl) T.abs (by decide +kernel) (pa_cons (pv 0) pa_nil)))
      (pss_cons (ps_set (i := 1) scGcd20.nd rfl (Or.inl rfl) (pe_callB call_abs (by rfl) T.abs (by decide +kernel) (pa_cons (pv 1) pa_nil)))
      (pss_cons (ps_while PassesOwn.never (pt_cmpR op_ne (pv 1) pe_int (nomark _))
        (pss_one (ps_par (i := 0) (j := 1) rfl scGcd20.nd rfl rfl (by decide) rfl rfl (pa_cons (pv 1) (pa_cons (pe_op op_modN (pe_callTy call_int1 (by rfl) T.int (by decide +kernel) (pa_cons (pv 0) pa_nil)) (pv 1)) pa_nil)) rfl)))
      (pss_one (ps_ret (pv 0))))), ?_⟩
    refine ⟨_, rfl, _, rfl, _, rfl, _, rfl, ?_⟩
    rw [abs_nat, abs_nat]
    refine while_by (fun σ H' => H' = H ∧ ∃ (x y : Nat), σ = [some (.int (x : Int)), some (.int (y : Int))] ∧ Nat.gcd x y = Nat.gcd a.natAbs b.natAbs)
      (fun σ _ => match σ[1]? with | some (some (V.int y)) => y.natAbs | _ => 0) ⟨rfl, _, _, rfl, rfl⟩ ?_ ?_
    · rintro σ H' ⟨rfl, x, y, rfl, hg⟩
      refine ⟨_, rfl, rfl, _, rfl, ite2 (fun c => ?_) (fun c => ?_)⟩
      · have hy : y ≠ 0 := by
          intro z
          subst z
          simp at c
        have em : ((x : Int)).fmod (y : Int) = ((x % y : Nat) : Int) := by
          rw [Int.fmod_eq_emod_of_nonneg _ (by omega)]
          rfl
        refine ⟨_, rfl, _, rfl, .inl ⟨_, rfl, _, rfl, _, _, rfl, rfl, (by show ((y : Nat) : Int) ≠ 0; omega), ?_⟩⟩
        refine ⟨_, _, rfl, ⟨rfl, y, x % y, ?_, ?_⟩, ?_⟩
        · rw [← em]
          rfl
        · rw [← hg, Nat.gcd_comm x y, Nat.gcd_rec y x, Nat.gcd_comm]
        · show (((x : Int)).fmod (y : Int)).natAbs < ((y : Nat) : Int).natAbs
          rw [em]
          have := Nat.mod_lt x (Nat.pos_of_ne_zero hy)
          omega
      · have hy : y = 0 := by
          have z : ¬ ¬ (V.int (y : Int) = V.int 0) := by simpa using c
          have z2 : V.int (y : Int) = V.int 0 := Classical.not_not.mp z
          injection z2 with z3
          omega
        subst hy
        rw [Nat.gcd_zero_right] at hg
        refine ⟨_, rfl, ?_⟩
        rw [hg]
        exact q
    · rintro σ H' R R' hR ⟨v, e1, e2, b1, e3, h3⟩
      exact ⟨v, e1, e2, b1, e3, hR _ _ h3⟩
end
end Ind

set_option Elab.async false
set_option linter.all false
set_option maxRecDepth 100000
set_option maxHeartbeats 4000000
namespace Ind
open PySem PySem.Spec PyProof.Rows L2
open Builtin.Int (intBits)
abbrev sFrac : Stmt := top 48
def spFrac : Sp := fun vs H Q _ => ∃ n d : Int, vs = [.int n, .int d] ∧ 0 < d ∧
  ∀ (H' : Hp) (t : Addr), Same H H' → H t = none → H' t = some (.tup [.int (nN n d), .int (nD n d)]) → Q (.ref t) H'
section
variable {P : Program} {w : World} {K : PySem.W.Frag} {mg : Str → Option Value} {base : Heap} {C Z : Addr}
theorem scFrac : FnScope ["n", "d", "g"] ["n", "d"] (defScope sFrac) := ⟨rfl, rfl, rfl, by decide +kernel, rfl, by decide +kernel, by decide +kernel⟩
theorem ok_frac {f fG : Addr} {fd fdG : FuncData} (hN : base.NoSeer) (hT : P.given.tree = none) (F : Fun K "_law_frac" "_law_frac" sFrac f fd)
    (GG : FnOk P w K mg base CX0 1 fG fdG ["a", "b"] spGcdI) (kG : PySem.W.keepIn K (.ref fG) = true) (bG : Binds K fdG ["a", "b"] []) (gG : mg "_law_gcd" = some (.ref fG)) : FnOk P w K mg base CX0 41 f fd ["n", "d"] spFrac := by
  refine F.ok scFrac (fun vs H Q E h => ?_) (fun cdv A outer s H vs Q E hr h => ?_)
  · obtain ⟨n, d, rfl, _⟩ := h
    rfl
  · obtain ⟨n, d, rfl, hd, res⟩ := h
    have h40 := hr.mono (show 40 ≤ 40 by decide)
    have h1 := hr.mono (show 1 ≤ 40 by decide)
    have ec : ((Nat.gcd n.natAbs d.natAbs : Nat) : Int) = cg n d := by unfold cg; rw [if_neg (by omega)]
    refine ⟨_, pss_cons (ps_if (pt_cmpR op_lt (pv 1) pe_int (nomark _)) (pss_one (ps_par (i := 0) (j := 1) rfl scFrac.nd rfl rfl (by decide) rfl rfl (pa_cons (pe_un un_neg (pv 0)) (pa_cons (pe_un un_neg (pv 1)) pa_nil)) rfl)) pss_nil)
      (pss_cons (ps_set (i := 2) scFrac.nd rfl (Or.inl rfl) (pe_call GG h1 (by rfl) gG kG bG .nil pass0 (pa_cons (pv 0) (pa_cons (pv 1) pa_nil))))
      (pss_one (ps_ret (pe_tup (pa_cons (pe_op (op_fdivB ⟨hN, hT, ⟨_, _, rfl, rfl, rfl, rfl, rfl⟩, h40⟩) (pv 0) (pv 2)) (pa_cons (pe_op (op_fdivB ⟨hN, hT, ⟨_, _, rfl, rfl, rfl, rfl, rfl⟩, h40⟩) (pv 1) (pv 2)) pa_nil)))))), ?_⟩
    refine ⟨_, rfl, _, _, rfl, rfl, _, rfl, ite2 (fun c => ?_) (fun c => ?_)⟩
    · have : d < 0 := by simpa using c
      omega
    · refine ⟨_, rfl, _, rfl, _, _, rfl, ?_⟩
      rw [ec]
      have cn : cg n d ≠ 0 := cg_ne (by omega)
      refine ⟨_, rfl, _, rfl, _, _, rfl, rfl, cn, ?_⟩
      refine ⟨_, rfl, _, rfl, _, _, rfl, rfl, cn, ?_⟩
      refine ⟨(by show 2 ≤ sizeLine; decide), fun t ht => ?_⟩
      exact res _ t (same_upd ht) ht upd_same
end
end Ind

set_option Elab.async false
set_option linter.all false
set_option maxRecDepth 100000
set_option maxHeartbeats 4000000
namespace Ind
open PySem PySem.Spec PyProof.Rows L2
open Builtin.Int (intBits)
abbrev sTake : Stmt := top 50
/-- a state of the law: two numbers -/
def St (H : Hp) (s : Addr) (a b : Int) : Prop := H s = some (.lst [.int a, .int b]) ∧ 0 ≤ a ∧ 0 ≤ b ∧ b < 2147483647
def spTake : Sp := fun vs H Q _ => ∃ (s : Addr) (a b m : Int), vs = [.ref s, .int m] ∧ St H s a b ∧ 0 < m ∧
  ∀ r a' b' : Int, 0 ≤ r → r < m → 0 ≤ a' → 0 ≤ b' → b' < 2147483647 → Q (.int r) (upd H s (.lst [.int a', .int b']))
section
variable {P : Program} {w : World} {K : PySem.W.Frag} {mg : Str → Option Value} {base : Heap} {C Z : Addr}
theorem scTake : FnScope ["state", "m", "value"] ["state", "m"] (defScope sTake) := ⟨rfl, rfl, rfl, by decide +kernel, rfl, by decide +kernel, by decide +kernel⟩
theorem bits48 : intBits 48271 ≤ 16 := by decide +kernel
theorem at0 {α : Type} (x y : α) : atI [x, y] 0 = some x := rfl
theorem at1 {α : Type} (x y : α) : atI [x, y] 1 = some y := rfl
theorem ok_take {f : Addr} {fd : FuncData} (hN : base.NoSeer) (hT : P.given.tree = none) (F : Fun K "_law_take" "_law_take" sTake f fd) (T : TxL K mg) : FnOk P w K mg base CX0 41 f fd ["state", "m"] spTake := by
  refine F.ok scTake (fun vs H Q E h => ?_) (fun cdv A outer s H vs Q E hr h => ?_)
  · obtain ⟨p, a, b, m, rfl, _⟩ := h
    rfl
  · obtain ⟨p, a, b, m, rfl, ⟨hp, ha, hb, hb2⟩, hm, res⟩ := h
    have h40 := hr.mono (show 40 ≤ 40 by decide)
    refine ⟨_, pss_cons (ps_if (pt_cmpR op_gt (pe_ix ix_list (pv 0) pe_int fun _ _ => rfl) pe_int (nomark _))
        (pss_cons (ps_set (i := 2) scTake.nd rfl (Or.inl rfl) (pe_op op_modN (pe_callTy call_int1 (by rfl) T.int (by decide +kernel) (pa_cons (pe_ix ix_list (pv 0) pe_int fun _ _ => rfl) pa_nil)) (pv 1)))
        (pss_cons (ps_asg (pe_op (op_fdivB ⟨hN, hT, ⟨_, _, rfl, rfl, rfl, rfl, rfl⟩, h40⟩) (pe_ix ix_list (pv 0) pe_int fun _ _ => rfl) (pv 1)) (pg_sub (pv 0) pe_int set_list))
        (pss_one (ps_ret (pv 2))))) pss_nil)
      (pss_cons (ps_asg (pe_op op_modN (pe_callTy call_int1 (by rfl) T.int (by decide +kernel) (pa_cons (pe_op op_add (pe_op op_mulB (pe_ix ix_list (pv 0) pe_int fun _ _ => rfl) pe_int) pe_int) pa_nil)) pe_int) (pg_sub (pv 0) pe_int set_list))
      (pss_one (ps_ret (pe_op op_modN (pe_callTy call_int1 (by rfl) T.int (by decide +kernel) (pa_cons (pe_op (op_fdivB ⟨hN, hT, ⟨_, _, rfl, rfl, rfl, rfl, rfl⟩, h40⟩) (pe_ix ix_list (pv 0) pe_int fun _ _ => rfl) pe_int) pa_nil)) (pv 1))))), ?_⟩
    refine ⟨_, rfl, p, _, _, _, rfl, rfl, SqL.of hp, at0 _ _, ?_⟩
    refine ⟨_, _, rfl, rfl, _, rfl, ite2 (fun c => ?_) (fun c => ?_)⟩
    · have c : 0 < a := of_decide_eq_true c
      refine ⟨_, rfl, p, _, _, _, rfl, rfl, SqL.of hp, at0 _ _, .inl ⟨_, rfl, _, rfl, _, _, rfl, rfl, (by show m ≠ 0; omega), ?_⟩⟩
      refine ⟨_, rfl, p, _, _, _, rfl, rfl, SqL.of hp, at0 _ _, _, rfl, _, _, rfl, rfl, (by show m ≠ 0; omega), ?_⟩
      refine ⟨_, rfl, p, _, _, 0, rfl, rfl, hp, rfl, _, rfl, ?_⟩
      exact res _ _ _ (Int.fmod_nonneg_of_pos a hm) (Int.fmod_lt_of_pos a hm) (Int.fdiv_nonneg ha (by omega)) hb hb2
    · have c : ¬ 0 < a := fun z => c (decide_eq_true z)
      refine ⟨_, rfl, p, _, _, _, rfl, rfl, SqL.of hp, at1 _ _, ?_⟩
      have bb : intBits b + 16 ≤ 134217728 := by
        have := PySem.intBits_le_of_natAbs (x := b) (y := 2147483647) (m := 31) (by omega) (by decide +kernel)
        omega
      have az : a = 0 := by omega
      refine ⟨_, _, rfl, rfl, Nat.le_trans (Nat.add_le_add_left bits48 _) bb, ?_⟩
      have n0 := Int.fmod_nonneg_of_pos (b * 48271 + 11) (show (0 : Int) < 2147483647 by decide)
      have n1 := Int.fmod_lt_of_pos (b * 48271 + 11) (show (0 : Int) < 2147483647 by decide)
      refine ⟨_, _, rfl, rfl, .inl ⟨_, rfl, _, _, rfl, rfl, (by show (2147483647 : Int) ≠ 0; decide), ?_⟩⟩
      refine ⟨_, rfl, p, _, _, 1, rfl, rfl, hp, rfl, ?_⟩
      refine ⟨_, rfl, p, _, _, _, rfl, rfl, SqL.of upd_same, at1 _ _, ?_⟩
      refine ⟨_, _, rfl, rfl, (by show (7 : Int) ≠ 0; decide), .inl ⟨_, rfl, _, rfl, _, _, rfl, rfl, (by show m ≠ 0; omega), ?_⟩⟩
      exact res _ _ _ (Int.fmod_nonneg_of_pos _ hm) (Int.fmod_lt_of_pos _ hm) ha n0 n1
end
end Ind

set_option Elab.async false
set_option linter.all false
set_option maxRecDepth 100000
set_option maxHeartbeats 4000000
namespace Ind
open PySem PySem.Spec PyProof.Rows L2
open Builtin.Int (intBits)
abbrev sState : Stmt := top 49
def spState (K : PySem.W.Frag) : Sp := fun vs H Q _ => ∃ (p : Addr) (ns : List Int), vs = [.ref p] ∧ SqL K H p (ns.map V.int) ∧ (∀ n ∈ ns, intBits n ≤ 1048576) ∧
  ∀ (H' : Hp) (t : Addr) (a b : Int), Same H H' → H t = none → St H' t a b → Q (.ref t) H'
section
variable {P : Program} {w : World} {K : PySem.W.Frag} {mg : Str → Option Value} {base : Heap} {C Z : Addr}
theorem scState : FnScope ["script", "seed", "total", "cell"] ["script"] (defScope sState) := ⟨rfl, rfl, rfl, by decide +kernel, rfl, by decide +kernel, by decide +kernel⟩
theorem ok_state {f : Addr} {fd : FuncData} (F : Fun K "_law_state" "_law_state" sState f fd) (T : TxL K mg) : FnOk P w K mg base CX0 41 f fd ["script"] (spState K) := by
  refine F.ok scState (fun vs H Q E h => ?_) (fun cdv A outer s H vs Q E hr h => ?_)
  · obtain ⟨p, ns, rfl, _⟩ := h
    rfl
  · obtain ⟨p, ns, rfl, hp, hb, res⟩ := h
    refine ⟨_, pss_cons (ps_set (i := 1) scState.nd rfl (Or.inl rfl) pe_int)
      (pss_cons (ps_set (i := 2) scState.nd rfl (Or.inl rfl) pe_int)
      (pss_cons (ps_for PassesOwn.never rfl (pi_list (pe_slice sl_list (pv 0) po_none (po_some pe_int))) (pg_name (i := 3) scState.nd rfl (Or.inl rfl))
        (pss_cons (ps_set (i := 1) scState.nd rfl (Or.inl rfl) (pe_op op_add (pe_op op_mulB (pv 1) pe_int) (pe_callB call_abs (by rfl) T.abs (by decide +kernel) (pa_cons (pv 3) pa_nil))))
        (pss_one (ps_set (i := 2) scState.nd rfl (Or.inl rfl) (pe_op op_modN (pe_callTy call_int1 (by rfl) T.int (by decide +kernel) (pa_cons (pe_op op_add (pe_op op_mulB (pv 2) pe_int) (pv 3)) pa_nil)) pe_int)))))
      (pss_one (ps_ret (pe_lst (pa_cons (pv 1) (pa_cons (pv 2) pa_nil))))))), ?_⟩
    refine ⟨_, rfl, _, rfl, p, _, rfl, hp, fun l hl => ?_⟩
    have hcut : ∃ cs : List Int, cutV (ns.map V.int) none (some 63) = cs.map V.int ∧ (∀ c ∈ cs, intBits c ≤ 1048576) ∧ cs.length ≤ 63 := by
      refine ⟨ns.take 63, ?_, fun c hc => hb c (List.mem_of_mem_take hc), by rw [List.length_take]; omega⟩
      unfold cutV
      rw [show (63 : Int) = ((63 : Nat) : Int) from rfl, HT.sIx_nat]
      rw [HT.sIx_none, List.length_map, List.drop_zero, Nat.sub_zero, List.map_take]
      by_cases hl : 63 ≤ ns.length
      · rw [Nat.min_eq_left hl]
      · rw [Nat.min_eq_right (by omega), List.take_of_length_le (by rw [List.length_map]; exact Nat.le_refl _), List.take_of_length_le (by rw [List.length_map]; omega)]
    obtain ⟨cs, ec, hcb, hcl⟩ := hcut
    rw [ec]
    have s1 := same_upd (o := .lst (cs.map V.int)) hl
    have e1 : (upd H l (.lst (cs.map V.int))) l = some (.lst (cs.map V.int)) := upd_same
    generalize upd H l (.lst (cs.map V.int)) = H1 at s1 e1 ⊢
    refine ⟨l, rfl, ⟨_, SqL.of e1⟩, for_it (walk_list (K := K) (a := l) (xs := cs.map V.int))
      (fun i σ H5 => H5 = H1 ∧ ∃ (a b : Int) (v3 : Option V), σ = [some (.ref p), some (.int a), some (.int b), v3] ∧ 0 ≤ a ∧ intBits a ≤ 1048576 + 30 * i ∧ 0 ≤ b ∧ b < 2147483647)
      ⟨rfl, 0, 1, none, rfl, by decide, by decide, by decide, by decide⟩ (fun i σ H5 _ ⟨e, _⟩ => by rw [e]; exact SqL.of e1) ?_ ?_⟩
    · rintro i x σ H5 H6 hi ⟨rfl, a, b, v3, rfl, a0, ab, b0, b2⟩ ⟨rfl, hx⟩
      obtain ⟨n, hn, rfl⟩ := int_of hx
      have hil := (List.getElem?_eq_some_iff.mp hn).1
      have hnb := hcb n (List.mem_of_getElem? hn)
      have k1 : intBits 1000003 ≤ 20 := by decide +kernel
      have bb : intBits b ≤ 31 := PySem.intBits_le_of_natAbs (x := b) (y := 2147483647) (m := 31) (by omega) (by decide +kernel)
      have kn : intBits (if n < 0 then -n else n) ≤ 1048576 := PySem.intBits_le_of_natAbs (y := n) (by split <;> omega) hnb
      have pb := PySem.intBits_add_le (PySem.intBits_mul_le ab k1) kn
      have n0 := Int.fmod_nonneg_of_pos (b * 48271 + n) (show (0 : Int) < 2147483647 by decide)
      have n1 := Int.fmod_lt_of_pos (b * 48271 + n) (show (0 : Int) < 2147483647 by decide)
      refine ⟨_, rfl, _, _, rfl, rfl, (by show intBits a + intBits 1000003 ≤ 134217728; omega), _, rfl, _, rfl, _, _, rfl, rfl, ?_⟩
      refine ⟨_, rfl, _, _, rfl, rfl, (by have := bits48; show intBits b + intBits 48271 ≤ 134217728; omega), _, rfl, _, _, rfl, rfl, .inl ⟨_, rfl, _, _, rfl, rfl, (by show (2147483647 : Int) ≠ 0; decide), ?_⟩⟩
      refine ⟨rfl, _, _, _, rfl, ?_, ?_, n0, n1⟩
      · have := Int.mul_nonneg a0 (show (0 : Int) ≤ 1000003 by decide)
        have : (0 : Int) ≤ if n < 0 then -n else n := by split <;> omega
        omega
      · have key : ∀ M : Nat, max (M + 30 * i + 20) M + 1 ≤ M + 30 * (i + 1) := fun M => by
          have h1 : max (M + 30 * i + 20) M = M + 30 * i + 20 := Nat.max_eq_left (by omega)
          rw [h1]
          omega
        exact Nat.le_trans pb (key 1048576)
    · rintro σ H5 ⟨rfl, a, b, v3, rfl, a0, ab, b0, b2⟩
      refine ⟨_, rfl, _, rfl, (by show 2 ≤ sizeLine; decide), fun t ht => ?_⟩
      have tn : H t = none := by
        cases e : H t with
        | none => rfl
        | some o => rw [s1 _ _ e] at ht; cases ht
      exact res _ t a b (s1.trans (same_upd ht)) tn ⟨upd_same, a0, b0, b2⟩
end
end Ind

set_option Elab.async false
set_option linter.all false
set_option maxRecDepth 100000
set_option maxHeartbeats 4000000
set_option exponentiation.threshold 20000
namespace Ind
open PySem PySem.Spec PyProof.Rows L2
open Builtin.Int (intBits)
theorem cof_pszF {as qs : List Q2} {gF : Fr} {k d : Nat} (za : PSz k as) (la : as.length ≤ 60) (ta : Trim as) (Dgs : Dg gF d) (hm : gF d = 1) (tq : Trim qs) (lq : ∀ q ∈ qs, Lo q) (lql : qs.length ≤ 100)
    (e : ∀ j, rowF as j = cv (rowF qs) (gF) j) : PSz (2 * k + 16 * as.length + 2) qs := by
  by_cases q0 : qs = []
  · subst q0
    exact ⟨fun q hq => (by cases hq), by decide, 1, by decide, Nat.le_trans (show intBits 1 ≤ 1 by decide) (by omega), fun q hq => (by cases hq)⟩
  obtain ⟨nq, hnq⟩ := len_ne q0
  have Dq := dg_row tq lq hnq
  have Da : Dg (rowF as) (nq + d) := by
    have := dg_cv Dq Dgs
    rwa [← funext e] at this
  have a0 : as ≠ [] := fun z => Da.t (by rw [z]; exact rowF_nil _)
  obtain ⟨na, hna⟩ := len_ne a0
  have en : na = nq + d := dg_uniq (dg_row ta za.1 hna) Da
  obtain ⟨bB, bN⟩ := psz_lcm za
  have pB := lcmD_pos za.1
  have hnf := num_fr za.1
  have hnl := parts_len2 ((lcmD as : Nat) : Int) as
  generalize partsOf ((lcmD as : Nat) : Int) as = ns at bN hnf hnl
  generalize hBe : ((lcmD as : Nat) : Int) = B at *
  have hB := cst_ne (show B ≠ 0 by omega)
  -- the divisor as a primitive row of whole numbers
  obtain ⟨D, d0, iD⟩ := den_row Dgs.s
  have hD : ((D : Int) : Rat) ≠ 0 := cst_ne (by omega)
  obtain ⟨z, hz⟩ := iD d
  obtain ⟨c, h, hc, ih, pr, eh⟩ := pri_ex _ (fun j => ((D : Int) : Rat) * gF j) d iD (dg_sc Dgs hD) ⟨z, hz, rfl⟩
  -- gF = c1 h
  obtain ⟨c1, hc1⟩ : ∃ c1, c1 = c / ((D : Int) : Rat) := ⟨_, rfl⟩
  have c10 : c1 ≠ 0 := fun w => hc (by rw [w] at hc1; grind)
  have eg : gF = fun j => c1 * h j := funext fun j => by
    have := eh j
    rw [hc1]
    grind
  have Dh : Dg h d := by
    have : h = fun j => 1 / c1 * gF j := funext fun j => by rw [eg]; grind
    rw [this]
    exact dg_sc Dgs (by grind)
  -- the whole row is E times h
  have ea : ∀ j, fr ns j = cv (fun j => ((B : Int) : Rat) * c1 * rowF qs j) h j := fun j => by
    rw [cv_sc']
    have h1 : fr ns j = ((B : Int) : Rat) * rowF as j := hnf j
    rw [h1, e j, eg, cv_scr']
    grind
  have iE := gauss (iz_fr ns) ih pr (q := fun j => ((B : Int) : Rat) * c1 * rowF qs j) (N := qs.length) (fun j hj => by dsimp only; rw [fs_row qs j hj]; grind) ea
  have DE : Dg (fun j => ((B : Int) : Rat) * c1 * rowF qs j) nq := dg_sc Dq (by
    intro w
    rcases Rat.mul_eq_zero.mp w with v | v
    · exact hB v
    · exact c10 v)
  have Dn : Dg (fr ns) (nq + d) := by
    have := dg_cv DE Dh
    rwa [← funext ea] at this
  have hA : ∀ j, Bdr (fr ns j) (((2 ^ k : Nat) : Int) : Rat) := fun j => by
    have h1 := PySem.intBits_le_iff.mp (bits_getD bN j)
    unfold fr Bdr
    have h2 : -((2 ^ k : Nat) : Int) ≤ ns.getD j 0 := by omega
    have h3 : ns.getD j 0 ≤ ((2 ^ k : Nat) : Int) := by omega
    have h4 := Rat.intCast_le_intCast.mpr h2
    have h5 := Rat.intCast_le_intCast.mpr h3
    rw [Rat.intCast_neg] at h4
    exact ⟨h4, h5⟩
  have key := div_bits hA Dn iE DE ih Dh.s (fun j => by rw [ea j, cv_comm]) (by omega)
  -- the divisor's last item
  have lc : c1 * h d = 1 := by
    have := congrFun eg d
    rw [hm] at this
    exact this.symm
  obtain ⟨l, hl⟩ := ih d
  have l0 : l ≠ 0 := fun w => Dh.t (by rw [hl, w]; rfl)
  have hlb : l.natAbs ≤ 2 ^ k := by
    have t1 := ea (nq + d)
    rw [cv_top DE.s Dh.s] at t1
    obtain ⟨y, hy⟩ := iE nq
    dsimp only at hy
    rw [hy, hl, ← Rat.intCast_mul] at t1
    have t2 : ns.getD (nq + d) 0 = y * l := by
      unfold fr at t1
      exact_mod_cast t1
    have y0 : y ≠ 0 := fun w => DE.t (by
      show ((B : Int) : Rat) * c1 * rowF qs nq = 0
      rw [hy, w]
      rfl)
    have h1 := PySem.intBits_le_iff.mp (bits_getD bN (nq + d))
    rw [t2, Int.natAbs_mul] at h1
    have := Nat.le_mul_of_pos_left l.natAbs (show 0 < y.natAbs by omega)
    omega
  refine mq_psz (M := B) (B := 2 ^ k * 2 ^ (8 * nq + (k + 7 * (nq + d + 1)))) (by omega) (fun q hq => ?_) ?_ ?_ lql
  · refine ⟨lq q hq, ?_⟩
    obtain ⟨j, hj, ej⟩ := List.getElem_of_mem hq
    have er : rowF qs j = rv q := by
      unfold rowF
      rw [getD_q (by rw [List.getElem?_eq_getElem hj, ej])]
    obtain ⟨y, hy⟩ := iE j
    refine ⟨l * y, ?_, ?_⟩
    · rw [Rat.intCast_mul, ← hy, ← hl, ← er]
      have : h d * (((B : Int) : Rat) * c1 * rowF qs j) = (c1 * h d) * (((B : Int) : Rat) * rowF qs j) := by grind
      rw [this, lc]
      grind
    · rw [Int.natAbs_mul]
      refine Nat.mul_le_mul hlb ?_
      have hb := key j
      unfold Bdr at hb
      dsimp only at hy
      rw [hy] at hb
      obtain ⟨b1, b2⟩ := hb
      have e2 : (256 ^ nq * (2 ^ k * 128 ^ (nq + d + 1)) : Nat) = 2 ^ (8 * nq + (k + 7 * (nq + d + 1))) := by
        rw [show (256 : Nat) = 2 ^ 8 by decide, show (128 : Nat) = 2 ^ 7 by decide, ← Nat.pow_mul, ← Nat.pow_mul, ← Nat.pow_add, ← Nat.pow_add]
      rw [e2] at b1 b2
      rw [← Rat.intCast_neg] at b1
      have c1' := Rat.intCast_le_intCast.mp b1
      have c2 := Rat.intCast_le_intCast.mp b2
      omega
  · rw [← Nat.pow_add]
    exact Nat.pow_lt_pow_right (by decide) (by omega)
  · have h1 := PySem.intBits_le_iff.mp bB
    exact Nat.lt_of_lt_of_le h1 (Nat.pow_le_pow_right (by decide) (by omega))
/-! ### the order at a number -/
def Ord (c : Rat) (f : Fr) (n : Nat) : Prop := ∃ u N y, Fs u N ∧ (∀ j, f j = cv (pw (Lx c) n) u j) ∧ Val u c y ∧ y ≠ 0
theorem nd_val {u : Fr} {c y : Rat} (h : Val u c y) (hy : y ≠ 0) : Nd (Lx c) u := fun x N hx e => hy (val_uniq h ⟨x, N, hx, fun j => by
  rw [e j]
  split <;> grind⟩)
theorem Ord.uniq {c : Rat} {f : Fr} {m n : Nat} (h1 : Ord c f m) (h2 : Ord c f n) : m = n := by
  obtain ⟨u, N, y, hu, e, hv, hy⟩ := h1
  obtain ⟨v, M, z, hv', e', hw, hz⟩ := h2
  exact mult_eq (m := 1) (lx_fs c) (lx_dg c).t (hu.mono (Nat.le_max_left N M)) (hv'.mono (Nat.le_max_right N M)) (nd_val hv hy) (nd_val hw hz) fun j => by rw [← e j, e' j]
theorem Ord.mul {c : Rat} {f g : Fr} {m n : Nat} (h1 : Ord c f m) (h2 : Ord c g n) : Ord c (cv f g) (m + n) := by
  obtain ⟨u, N, y, hu, e, hv, hy⟩ := h1
  obtain ⟨v, M, z, hv', e', hw, hz⟩ := h2
  refine ⟨cv u v, N + M, y * z, cv_out hu hv', fun j => ?_, val_mul hv' hv hw, fun w => ?_⟩
  · rw [show f = cv (pw (Lx c) m) u from funext e, show g = cv (pw (Lx c) n) v from funext e', ← pw_add, cv_assoc', cv_assoc', ← cv_assoc' u, cv_comm' u, cv_assoc' (pw (Lx c) n)]
  · rcases Rat.mul_eq_zero.mp w with z | z
    · exact hy z
    · exact hz z
theorem Ord.lx (c : Rat) : Ord c (Lx c) 1 := ⟨one1, 1, 1, fs_one, fun j => by
  rw [pw_one, cv_comm, cv_one], by
  have := val_cst 1 c
  exact this, by decide⟩
theorem Ord.zero {c y : Rat} {f : Fr} {N : Nat} (hf : Fs f N) (h : Val f c y) (hy : y ≠ 0) : Ord c f 0 := ⟨f, N, y, hf, fun j => by
  show _ = cv one1 f j
  rw [cv_one], h, hy⟩
theorem Ord.lx0 {c d : Rat} (h : d ≠ c) : Ord c (Lx d) 0 := Ord.zero (lx_fs d) (val_lx d c) fun z => h (by grind)
theorem Ord.sc {c k : Rat} {f : Fr} {n : Nat} (hk : k ≠ 0) (h : Ord c f n) : Ord c (fun j => k * f j) n := by
  obtain ⟨u, N, y, hu, e, hv, hy⟩ := h
  refine ⟨fun j => k * u j, N, k * y, fun j hj => by dsimp only; rw [hu j hj]; grind, fun j => ?_, val_sc k hv, fun w => ?_⟩
  · rw [cv_scr', ← e j]
  · rcases Rat.mul_eq_zero.mp w with z | z
    · exact hk z
    · exact hy z
theorem Ord.pow {c : Rat} {f : Fr} {n : Nat} (h : Ord c f n) : ∀ i, Ord c (pw f i) (i * n)
  | 0 => by
    rw [Nat.zero_mul]
    exact Ord.zero fs_one (val_cst 1 c) (by decide)
  | i + 1 => by
    have e : pw f (i + 1) = cv (pw f i) f := by
      rw [← pw_add f i 1, pw_one]
    rw [e, Nat.add_mul, Nat.one_mul]
    exact (Ord.pow h i).mul h
theorem Ord.fs {c : Rat} {f : Fr} {n : Nat} (h : Ord c f n) : ∃ N, Fs f N := by
  obtain ⟨u, N, y, hu, e, hv, hy⟩ := h
  obtain ⟨m, hm⟩ := fs_pw (lx_fs c) n
  exact ⟨m + N, by rw [show f = cv (pw (Lx c) n) u from funext e]; exact cv_out hm hu⟩
/-- zero at c or not -/
theorem Ord.val0 {c y : Rat} {f : Fr} (h : Ord c f 0) (hv : Val f c y) : y ≠ 0 := by
  obtain ⟨u, N, z, hu, e, hw, hz⟩ := h
  have : f = u := funext fun j => by rw [e j]; exact cv_one u j
  rw [this] at hv
  rw [val_uniq hv hw]
  exact hz
theorem Ord.vals {c : Rat} {f : Fr} {n : Nat} (h : Ord c f (n + 1)) : Val f c 0 := by
  obtain ⟨u, N, z, hu, e, hw, hz⟩ := h
  obtain ⟨m, hm⟩ := fs_pw (lx_fs c) n
  refine ⟨cv (pw (Lx c) n) u, m + N, cv_out hm hu, fun j => ?_⟩
  rw [e j, pw_swap]
  split <;> grind
theorem ord_ex (c : Rat) : ∀ (n : Nat) (f : Fr), Dg f n → ∃ m, Ord c f m
  | n, f, h => by
    obtain ⟨y, hy⟩ := val_ex h.s c
    by_cases z : y = 0
    · subst z
      obtain ⟨s, N, hs, e⟩ := hy
      have e : f = cv s (Lx c) := funext fun j => by
        rw [e j]
        split <;> grind
      have hd := h
      rw [e] at hd
      rcases dg_or hs with w | ⟨k, _, dk⟩
      · exact absurd (show cv s (Lx c) n = 0 by rw [show s = fun _ => 0 from funext w, cv_zl]) hd.t
      · have en := dg_uniq hd (dg_cv dk (lx_dg c))
        obtain ⟨m, hm⟩ := ord_ex c k s dk
        refine ⟨m + 1, ?_⟩
        rw [e]
        exact hm.mul (Ord.lx c)
    · exact ⟨0, Ord.zero h.s hy z⟩
termination_by n => n
decreasing_by omega
/-! ### products of linear factors -/
def pL : List Rat → Fr
  | [] => one1
  | c :: l => cv (Lx c) (pL l)
theorem pL_snoc (l : List Rat) (c : Rat) : pL (l ++ [c]) = cv (pL l) (Lx c) := by
  induction l with
  | nil =>
    show cv (Lx c) one1 = cv one1 (Lx c)
    exact cv_comm' _ _
  | cons d l ih =>
    show cv (Lx d) (pL (l ++ [c])) = _
    rw [ih]
    exact (cv_assoc' _ _ _).symm
theorem pL_dg : ∀ l : List Rat, Dg (pL l) l.length
  | [] => ⟨fs_one, by decide⟩
  | c :: l => by
    have := dg_cv (lx_dg c) (pL_dg l)
    rwa [Nat.add_comm] at this
theorem pL_top : ∀ l : List Rat, pL l l.length = 1
  | [] => rfl
  | c :: l => by
    have h := cv_top (lx_fs c) (pL_dg l).s
    show cv (Lx c) (pL l) (l.length + 1) = 1
    rw [Nat.add_comm, h, pL_top l]
    show (if 1 = 0 then -c else if 1 = 1 then 1 else 0) * (1 : Rat) = 1
    rw [if_neg (by decide), if_pos rfl]
    grind
theorem pL_ord (c : Rat) : ∀ l : List Rat, Ord c (pL l) (l.count c)
  | [] => Ord.zero fs_one (val_cst 1 c) (by decide)
  | d :: l => by
    by_cases h : d = c
    · subst h
      rw [List.count_cons_self, Nat.add_comm]
      exact (Ord.lx d).mul (pL_ord d l)
    · rw [List.count_cons_of_ne h]
      have := (Ord.lx0 h).mul (pL_ord c l)
      rwa [Nat.zero_add] at this
theorem pL_int : ∀ l : List Rat, (∀ c ∈ l, ∃ z : Int, c = ((z : Int) : Rat) ∧ z.natAbs ≤ 5) → ∀ j, ∃ z : Int, pL l j = ((z : Int) : Rat) ∧ z.natAbs ≤ 6 ^ l.length
  | [], _, j => by
    show ∃ z : Int, one1 j = _ ∧ _
    unfold one1
    by_cases c : j = 0
    · exact ⟨1, by rw [if_pos c]; rfl, by decide⟩
    · exact ⟨0, by rw [if_neg c]; rfl, by decide⟩
  | c :: l, h, j => by
    have ih := pL_int l fun d hd => h d (List.mem_cons_of_mem _ hd)
    obtain ⟨z, rfl, hz⟩ := h c (by simp)
    have e6 : 6 ^ (((z : Int) : Rat) :: l).length = 6 * 6 ^ l.length := by
      show 6 ^ (l.length + 1) = _
      rw [Nat.pow_succ, Nat.mul_comm]
    rw [e6]
    have t1 : tl (Lx ((z : Int) : Rat)) = one1 := funext fun j => by
      show (if j + 1 = 0 then -((z : Int) : Rat) else if j + 1 = 1 then 1 else 0) = if j = 0 then 1 else 0
      rw [if_neg (by omega)]
      by_cases c : j = 0
      · rw [if_pos (by omega), if_pos c]
      · rw [if_neg (by omega), if_neg c]
    cases j with
    | zero =>
      obtain ⟨y, e, hy⟩ := ih 0
      refine ⟨-z * y, ?_, ?_⟩
      · show cv _ _ 0 = _
        rw [cv_z, e, Rat.intCast_mul, Rat.intCast_neg]
        rfl
      · rw [Int.natAbs_mul, Int.natAbs_neg]
        have := Nat.mul_le_mul hz hy
        omega
    | succ j =>
      obtain ⟨y, e, hy⟩ := ih (j + 1)
      obtain ⟨x, e', hx⟩ := ih j
      refine ⟨-z * y + x, ?_, ?_⟩
      · show cv _ _ (j + 1) = _
        rw [cv_s, t1, cv_one, e, e', Rat.intCast_add, Rat.intCast_mul, Rat.intCast_neg]
        rfl
      · have h1 := Int.natAbs_add_le (-z * y) x
        rw [Int.natAbs_mul, Int.natAbs_neg] at h1
        have := Nat.mul_le_mul hz hy
        omega
/-- what is zero at each of unlike numbers is a multiple of the product -/
theorem pL_div : ∀ (l : List Rat) (f : Fr) (n : Nat), l.Nodup → Dg f n → (∀ c ∈ l, Val f c 0) → Dv (pL l) f
  | [], f, n, _, h, _ => ⟨f, n + 1, h.s, fun j => by
      show _ = cv f one1 j
      rw [cv_comm, cv_one]⟩
  | c :: l, f, n, nd, h, hv => by
    obtain ⟨s, N, hs, e⟩ := hv c (by simp)
    have e : f = cv s (Lx c) := funext fun j => by
      rw [e j]
      split <;> grind
    have hd := h
    rw [e] at hd
    rcases dg_or hs with w | ⟨k, _, dk⟩
    · exact absurd (show cv s (Lx c) n = 0 by rw [show s = fun _ => 0 from funext w, cv_zl]) hd.t
    obtain ⟨nc, nd⟩ := List.nodup_cons.mp nd
    obtain ⟨q, M, hq, eq⟩ := pL_div l s k nd dk fun d hd => by
      obtain ⟨y, hy⟩ := val_ex hs d
      have h1 := val_mul (lx_fs c) hy (val_lx c d)
      have h0 := hv d (List.mem_cons_of_mem _ hd)
      rw [e] at h0
      have h2 := val_uniq h1 h0
      have : d - c ≠ 0 := fun z => nc (by
        have : d = c := by grind
        rw [← this]
        exact hd)
      rcases Rat.mul_eq_zero.mp h2 with z | z
      · rw [← z]
        exact hy
      · exact absurd z this
    refine ⟨q, M, hq, fun j => ?_⟩
    rw [e, show s = cv q (pL l) from funext eq, cv_assoc', cv_comm' (pL l)]
    rfl
/-- a divisor of the product that is zero at none of its numbers is a number -/
theorem pL_cop : ∀ (l : List Rat) (g : Fr) (n : Nat), Dg g n → Dv g (pL l) → (∀ c ∈ l, ¬ Val g c 0) → n = 0
  | [], g, n, h, d, _ => d.one h
  | c :: l, g, n, h, ⟨s, N, hs, e⟩, hv => by
    obtain ⟨y, hy⟩ := val_ex h.s c
    obtain ⟨x, hx⟩ := val_ex hs c
    have y0 : y ≠ 0 := fun z => hv c (by simp) (by rw [← z]; exact hy)
    have h1 := val_mul h.s hx hy
    rw [← show pL (c :: l) = cv s g from funext e] at h1
    have h2 : Val (pL (c :: l)) c 0 := ⟨pL l, l.length + 1, (pL_dg l).s, fun j => by
      show cv (Lx c) (pL l) j = _
      rw [cv_comm]
      split <;> grind⟩
    have x0 : x = 0 := by
      rcases Rat.mul_eq_zero.mp (val_uniq h1 h2) with z | z
      · exact z
      · exact absurd z y0
    subst x0
    obtain ⟨t, M, ht, et⟩ := hx
    have et : s = cv t (Lx c) := funext fun j => by
      rw [et j]
      split <;> grind
    refine pL_cop l g n h ⟨t, M, ht, ?_⟩ fun d hd => hv d (List.mem_cons_of_mem _ hd)
    refine cancel (N := max (l.length + 1) (M + (n + 1))) (lx_dg c).s (lx_dg c).t ((pL_dg l).s.mono (Nat.le_max_left _ _)) ((cv_out ht h.s).mono (Nat.le_max_right _ _)) fun j => ?_
    rw [cv_comm]
    have := e j
    rw [et, cv_assoc', cv_comm' (Lx c), ← cv_assoc'] at this
    exact this
/-- the order of k times a product at another one -/
theorem ord_le {la lb : List Rat} {k : Rat} {as bs cs : List Q2} {i : Nat} (hk : k ≠ 0) (ea : ∀ j, rowF as j = k * pL la j) (eb : rowF bs = pL lb) (ok : MuOk as bs i cs) (nb : lb.Nodup) {c : Rat} (hc : c ∈ lb) :
    ∃ m, Ord c (rowF cs) m ∧ la.count c = i + m := by
  have oa : Ord c (rowF as) (la.count c) := by
    rw [show rowF as = fun j => k * pL la j from funext ea]
    exact (pL_ord c la).sc hk
  have ob : Ord c (rowF bs) 1 := by
    have := pL_ord c lb
    rw [eb]
    have h1 : lb.count c = 1 := by
      have := List.nodup_iff_count.mp nb c
      have := List.count_pos_iff.mpr hc
      omega
    rwa [h1] at this
  have nz : ∃ d, Dg (rowF cs) d := by
    rcases dg_or (fs_row cs) with z | ⟨d, _, h⟩
    · have h2 : rowF as = fun _ => 0 := funext fun j => by
        rw [ok.id j, show rowF cs = fun _ => 0 from funext z, cv_comm, cv_zl]
      have h3 := pL_dg la
      have h4 := ea la.length
      rw [h2] at h4
      rcases Rat.mul_eq_zero.mp h4.symm with w | w
      · exact absurd w hk
      · exact absurd w h3.t
    · exact ⟨d, h⟩
  obtain ⟨d, hd⟩ := nz
  obtain ⟨m, hm⟩ := ord_ex c d _ hd
  refine ⟨m, hm, ?_⟩
  have h5 := (ob.pow i).mul hm
  rw [← show rowF as = cv (pw (rowF bs) i) (rowF cs) from funext ok.id, Nat.mul_one] at h5
  exact oa.uniq h5
theorem ord_min {la lb : List Rat} {k : Rat} {as bs cs : List Q2} {i : Nat} (hk : k ≠ 0) (ea : ∀ j, rowF as j = k * pL la j) (eb : rowF bs = pL lb) (ok : MuOk as bs i cs) (nb : lb.Nodup) (zc : ∃ d, Dg (rowF cs) d) : ∃ c ∈ lb, la.count c = i := by
  apply Classical.byContradiction
  intro h
  obtain ⟨d, hd⟩ := zc
  obtain ⟨s, N, hs, e⟩ := pL_div lb (rowF cs) d nb hd fun c hc => by
    obtain ⟨m, hm, e⟩ := ord_le hk ea eb ok nb hc
    cases m with
    | zero => exact absurd ⟨c, hc, by omega⟩ h
    | succ m => exact hm.vals
  exact ok.nd s N hs fun j => by rw [eb]; exact (e j).symm
/-- the common divisor with the rest -/
theorem ord_gcd {la lb : List Rat} {k : Rat} {as bs cs gs : List Q2} {i : Nat} (hk : k ≠ 0) (ea : ∀ j, rowF as j = k * pL la j) (eb : rowF bs = pL lb) (ok : MuOk as bs i cs) (nb : lb.Nodup) (hb : bs ≠ []) (G : GcQ bs cs gs) : gs.length ≤ 1 ↔ ∀ c ∈ lb, la.count c = i := by
  obtain ⟨d, hd, hm⟩ := G.mon (.inl hb)
  have D : Dg (rowF gs) d := ⟨by rw [← hd]; exact fs_row gs, by rw [hm]; decide⟩
  constructor
  · intro h c hc
    obtain ⟨m, om, e⟩ := ord_le hk ea eb ok nb hc
    cases m with
    | zero => exact e
    | succ m =>
      have d0 : d = 0 := by omega
      subst d0
      have v1 := om.vals
      have v2 : Val (rowF bs) c 0 := by
        have := pL_ord c lb
        have h1 : lb.count c = 0 + 1 := by
          have := List.nodup_iff_count.mp nb c
          have := List.count_pos_iff.mpr hc
          omega
        rw [h1] at this
        rw [eb]
        exact this.vals
      obtain ⟨u, v, N, hu, hv, eg⟩ := G.gc.m
      obtain ⟨yu, hyu⟩ := val_ex hu c
      obtain ⟨yv, hyv⟩ := val_ex hv c
      have v3 := val_add (val_mul (fs_row bs) hyu v2) (val_mul (fs_row cs) hyv v1)
      have v4 : Val (rowF gs) c 0 := by
        rw [show rowF gs = fun j => cv u (rowF bs) j + cv v (rowF cs) j from funext eg]
        have : yu * 0 + yv * 0 = (0 : Rat) := by grind
        rwa [this] at v3
      have v5 : Val (rowF gs) c 1 := by
        have : rowF gs = fun j => if j = 0 then 1 else 0 := funext fun j => by
          by_cases z : j = 0
          · rw [if_pos z, z, hm]
          · rw [if_neg z, D.s j (by omega)]
        rw [this]
        exact val_cst 1 c
      exact absurd (val_uniq v4 v5) (by decide)
  · intro h
    have := pL_cop lb (rowF gs) d D (by rw [← eb]; exact G.gc.l) fun c hc v => by
      obtain ⟨m, om, e⟩ := ord_le hk ea eb ok nb hc
      have m0 : m = 0 := by have := h c hc; omega
      subst m0
      obtain ⟨s, N, hs, es⟩ := G.gc.r
      obtain ⟨ys, hys⟩ := val_ex hs c
      have v1 := val_mul D.s hys v
      rw [← show rowF cs = cv s (rowF gs) from funext es] at v1
      exact om.val0 v1 (by grind)
    omega
end Ind

set_option Elab.async false
set_option linter.all false
set_option maxRecDepth 100000
set_option maxHeartbeats 4000000
namespace Ind
open PySem PySem.Spec PySem.Calls PyProof.Rows L2
/-! ### isinstance of a caught error that carries a dict -/
section
variable {prog : Program} {w : World} {A : Around} {E : Value → Shared → Prop} {K : PySem.W.Frag} {x D : Addr} {ox : Obj} {od : Option Obj}
theorem dd_find {m : Str} {a g : Value} (hc : (PySem.W.clsIn K D).isSome = true) (ha : PySem.W.findIn K (.ref D) m = some (some a)) (hg : PySem.W.specialIn K a "__get__" = some (some g)) (ht : PySem.W.takesIn K a = some true) : PySem.W.findObj K D od m = some (.bind g a) := by
  obtain ⟨cd, e⟩ := Option.isSome_iff_exists.mp hc
  unfold PySem.W.findObj
  simp [e, ha, hg, ht]
theorem own_cls (C : ExcC K D) {Q : Option Value → Shared → Prop} {s : Shared} (X : K.In s.heap) (I : PySem.W.InstAt s.heap x ox D od) (h : Q (some (.ref D)) { s with toks := s.toks + 1 }) : wpAny (model prog w) A (getAttr? (.ref x) "__class__") Q E s := by
  have isC : (PySem.W.clsIn K D).isSome = true := by
    obtain ⟨cd, hc, _⟩ := PySem.W.any_some C.hd
    rw [hc]
    rfl
  have fnd : PySem.W.findObj K D od "__class__" = some (.bind (.builtin "getset_descriptor.__get__") (.builtin "object.__class__")) := dd_find isC C.ha C.hn C.ht
  cases s with
  | mk hp g d t os =>
  have tyL := I.type (M := model prog w)
  have gaL := PySem.W.looks_findIn (M := model prog w) X C.hg
  have gtL := PySem.W.looks_findIn (M := model prog w) X C.hk
  have fdL := PySem.W.looks_find (M := model prog w) X I fnd
  have exL : PySem.W.Looks (model prog w) hp (isInstance (.ref x) (.type "BaseException")) true := tyL.andThen (PySem.W.looks_subIn X C.hs)
  have ne : (Value.builtin "BaseException.__getattribute__" == Value.builtin "object.__getattribute__") = false := by decide +kernel
  have c1 : (onTheHeap (Value.ref D) && Value.builtin "BaseException.__getattribute__" == Value.builtin "object.__getattribute__") = false := by rw [ne]; rfl
  have c0 : (false && onTheHeap (Value.builtin "BaseException.__getattribute__")) = false := rfl
  unfold getAttr? getAttrBy? getAttrBy
  apply wpAny_bind
  apply wpAny_mkText
  apply wpAny_bind
  refine wpAny_attempt (wpAny_holding (wpAny_bind (tyL.at (wpAny_bind (gaL.at ?_)))))
  show wpAny _ _ (ite ((onTheHeap (Value.ref D) && Value.builtin "BaseException.__getattribute__" == Value.builtin "object.__getattribute__") = true) _ _) _ _ _
  rw [c1, if_neg (by decide)]
  unfold getAttrByItsOwn hookBefore
  apply wpAny_bind
  rw [if_pos (by rfl : onTheHeap (Value.ref D) = true)]
  apply gtL.at
  apply wpAny_bind
  refine wpAny_attempt (wpAny_holding ?_)
  unfold callGetattribute
  rw [c0, if_neg (by decide)]
  unfold boundAndCalled
  rw [PySem.F.excAttr_ValueError.ga.bind (.ref x)]
  apply wpAny_bind
  apply wpAny_pure
  show wpAny _ _ (call (.builtin "BaseException.__getattribute__") [.ref x, .str "__class__" t]) _ _ _
  apply wpAny_call
  refine codeAny_call_builtin PySem.F.excAttr_ValueError.ga.plain PySem.F.entry_bexc_ga ?_
  refine @PySem.W.check_slot (model prog w) _ _ ⟨hp, g, d, t + 1, os⟩ "BaseException.__getattribute__" "BaseException" "__getattribute__" (.ref x) [.str "__class__" t] [] _ (by decide +kernel)
    (by decide +kernel) exL (PySem.F.args_bexc_ga (.ref x) (.str "__class__" t)) ?_
  unfold Builtin.«object.__getattribute__»
  refine wpAny_bind (wpAny_of_eq (a := ((Value.ref x : Value), [Value.str "__class__" t]))
    (by first | rfl | (simp only [slotArgs]; rfl)) ?_)
  apply wpAny_bind
  apply wpAny_pure
  refine wpAny_bind (tyL.at (wpAny_bind (fdL.at ?_)))
  show wpAny _ _ (holding [Value.builtin "object.__class__"] (call (.builtin "getset_descriptor.__get__") [.builtin "object.__class__", .ref x, .ref D]) >>= ret) _ _ _
  refine wpAny_bind (wpAny_holding (wpAny_call (PySem.W.class_get (s := ⟨hp, g, d, t + 1, os⟩) (ox := ox) (od := od) X I C.hm ?_)))
  apply wpAny_pure
  show wpAny _ _ (handedOut (.ref D)) _ _ _
  rw [PySem.W.handedOut_of (v := .ref D) (by rfl)]
  first
    | exact wpAny_pure (wpAny_pure h)
    | exact wpAny_pure h
    | exact wpAny_pure (wpAny_bind (wpAny_pure (wpAny_pure h)))
theorem kitx_xd (C : ExcC K D) : PySem.W.KitX K (.ref x) (.ref D) (fun h => PySem.W.InstAt h x ox D od) :=
  have Z := PySem.W.handS_kitx_exc (x := x) (ox := ox) C.hg C.hk C.hs C.hd C.ha C.hn C.ht C.hm
  have cd : ∃ cd, PySem.W.clsIn K D = some cd := let ⟨cd, hc, _⟩ := PySem.W.any_some C.hd; ⟨cd, hc⟩
  { ty := fun _ _ _ I => I.type
    it := fun M h X I => by
      obtain ⟨cd, hc⟩ := cd
      unfold PySem.W.clsIn at hc
      split at hc
      · rename_i ho
        intro A' Q' E' s' k q
        unfold isType loadHead
        exact wpAny_bind (wpAny_loadPart (k _ _ (X _ _ ho)) (wpAny_pure q))
      · cases hc
    ne := fun h tp dd its n sl X e => Z.ne h tp dd its n sl X e
    ca := fun X I k => own_cls C X I k }
end
/-- isinstance(e, c) for a caught error with a dict -/
def rIsXD (K : PySem.W.Frag) (cls : Value) (d : Option Addr) (a : Addr) : List V → Hp → VK → Prop := fun xs H Q => ∃ (D dd : Addr) (fs : List (Str × V)) (c : V) (cv : Value) (b : Bool), cls = .ref D ∧ d = some dd ∧ H dd = some (.xd fs) ∧ ExcC K D ∧ xs = [.ref a, c] ∧ (∀ u, RelV c u → u = cv) ∧ PySem.W.kitOne K (.ref D) cv = some b ∧ Q (.bl b) H
theorem call_isXD {X : Cx} {a : Addr} {oe : Obj} {cls : Value} {d : Option Addr} {pn : List (Addr × Obj)} (hz : Zc cls d oe) (hf : ∃ vs, oe.data = .fields vs) : CallR (X.suite a ((a, oe) :: pn)) (.builtin "isinstance") (rIsXD X.K cls d a) := by
  intro pins s σ H xs us Q I r h
  obtain ⟨D, dd, fs, c, cv, b, rfl, rfl, ed, C, rfl, hcv, e, q⟩ := h
  obtain ⟨u1, u2, rfl, r1, r2⟩ := vals2 r
  cases (show u1 = Value.ref a from r1)
  have ec := hcv _ r2
  subst ec
  obtain ⟨hget, _⟩ := I.pin (a, oe) (List.mem_append.mpr (.inl List.mem_cons_self))
  obtain ⟨vs, hv⟩ := hf
  obtain ⟨mA, hns, _⟩ := (show ObjOk X.prog X.w H s.heap dd (.xd fs) from I.hok dd _ ed)
  obtain ⟨od, ho, _⟩ := lookIn_ns hns
  have J : PySem.W.InstAt s.heap a oe D (some od) := ⟨hget, hz.1, by unfold PySem.W.notCls; rw [hv] <;> rfl, by rw [hz.2]; exact ho⟩
  exact PySem.W.kia_one (kitx_xd C) I.kIn J e (fun z => nomatch z) fun tk => ⟨.bl b, H, I.tok tk, rfl, q⟩
end Ind

set_option Elab.async false
set_option linter.all false
set_option maxRecDepth 100000
set_option maxHeartbeats 4000000
set_option exponentiation.threshold 20000
namespace Ind
open PySem PySem.Spec PyProof.Rows L2
open Builtin.Int (intBits)
abbrev sPrd : Stmt := top 37
/-- the product of rows, from the left on -/
def prF (fs : List Fr) : Fr := fs.foldl cv one1
theorem prF_snoc (fs : List Fr) (f : Fr) : prF (fs ++ [f]) = cv (prF fs) f := by
  unfold prF
  rw [List.foldl_append]
  rfl
/-- product of a list or tuple of n rows of k bits and m items -/
def spPrd (C CP : Addr) : Sp := fun vs H Q _ => ∃ (l : Addr) (pa : List Addr) (qss : List (List Q2)) (k m : Nat), vs = [.ref l] ∧ (H l = some (.lst (pa.map V.ref)) ∨ H l = some (.tup (pa.map V.ref))) ∧ Paired (PolyAt C CP H) pa qss ∧ 1 + m * qss.length ≤ 50 ∧ m ≤ 50 ∧
  (∀ qs ∈ qss, PSz k qs ∧ qs.length ≤ m) ∧ 2 ≤ k ∧ k + qss.length * (k + 100) ≤ 30000000 ∧ ∀ (H' : Hp) (t : Addr) (rs : List Q2), Same H H' → PolyAt C CP H' t rs → PSz (k + qss.length * (k + 100)) rs → rs.length ≤ 1 + m * qss.length → (∀ j, rowF rs j = prF (qss.map rowF) j) → Q (.ref t) H'
theorem paired_at {α β : Type} {F : α → β → Prop} : ∀ {xs : List α} {ys : List β} {i : Nat} {x : α}, Paired F xs ys → xs[i]? = some x → ∃ y, ys[i]? = some y ∧ F x y
  | _, _, 0, _, .cons a _, e => ⟨_, rfl, by cases e; exact a⟩
  | _, _, i + 1, _, .cons _ t, e => paired_at (i := i) t e
theorem row_one (j : Nat) : rowF (trimQ [((1 : Int), (1 : Int))]) j = one1 j := by
  rw [trim_row]
  match j with
  | 0 =>
    rw [rowF_z, rv_q1]
    rfl
  | j + 1 =>
    rw [rowF_s, rowF_nil]
    rfl
section
variable {P : Program} {w : World} {K : PySem.W.Frag} {mg : Str → Option Value} {base : Heap} {C Z CP : Addr}
structure TxC (P : Program) (w : World) (K : PySem.W.Frag) (mg : Str → Option Value) (base : Heap) (C CP : Addr) (fC fO : Addr) (fdC fdO : FuncData) : Prop where
  gC : mg "constant" = some (.ref fC)
  kC : PySem.W.keepIn K (.ref fC) = true
  bC : Binds K fdC ["r"] []
  fnC : FnOk P w K mg base CX0 45 fC fdC ["r"] (spCst C CP)
  gO : mg "one" = some (.ref fO)
  kO : PySem.W.keepIn K (.ref fO) = true
  bO : Binds K fdO [] []
  fnO : FnOk P w K mg base CX0 43 fO fdO [] (spMk C 1 1)
abbrev nPrd : List Str := ["polys", "found", "p"]
theorem scPrd : FnScope nPrd ["polys"] (defScope sPrd) := ⟨rfl, rfl, rfl, by decide +kernel, rfl, by decide +kernel, by decide +kernel⟩
theorem ok_prd {f fC fO fM : Addr} {fd fdC fdO fdM : FuncData} (F : Fun K "product" "product" sPrd f fd) (T : TxC P w K mg base C CP fC fO fdC fdO) (OM : OwnB P w K mg base CP "__mul__" (spPMul C CP) fM fdM) : FnOk P w K mg base CX0 47 f fd ["polys"] (spPrd C CP) := by
  refine F.ok scPrd (fun vs H Q E h => ?_) (fun cdv A outer s H vs Q E hr h => ?_)
  · obtain ⟨l, pa, qss, k, m, rfl, _⟩ := h
    rfl
  · obtain ⟨l, pa, qss, k, m, rfl, hl, hp, hm, hm5, hz, k1, k2, res⟩ := h
    have h45 := hr.mono (show 45 ≤ 46 by decide)
    have h43 := hr.mono (show 43 ≤ 46 by decide)
    refine ⟨_, pss_cons (ps_set (i := 1) scPrd.nd rfl (Or.inl rfl) (pe_call T.fnC h45 (by rfl) T.gC T.kC T.bC .nil pass0 (pa_cons (pe_call0 T.fnO h43 (by rfl) T.gO T.kO T.bO .nil pass0) pa_nil)))
      (pss_cons (ps_for PassesOwn.never rfl (PI.or (pi_list (pv 0)) (pi_tup (pv 0))) (pg_name (i := 2) scPrd.nd rfl (Or.inl rfl)) (pss_one (ps_set (i := 1) scPrd.nd rfl (Or.inl rfl) (pe_op (op_binO (E := E0) (m := "__mul__") (by rfl) ⟨OM.fn, OM.at_, OM.isf, OM.b, pass0, OM.first⟩ hr) (pv 1) (pv 2)))))
      (pss_one (ps_ret (pv 1)))), ?_⟩
    refine ⟨rfl, fun o H1 ho s1 _ => ?_⟩
    have l1 : Lo ((1 : Int), (1 : Int)) := ⟨by decide, by decide⟩
    have kk : k ≤ 30000000 := by omega
    refine ⟨o, (1, 1), k, rfl, ho, l1, Nat.le_trans (show intBits 1 ≤ 2 by decide) k1, Nat.le_trans (show intBits 1 ≤ 2 by decide) k1, by omega, by omega, fun H2 t s2 ht hps => ?_⟩
    have S2 := s1.trans s2
    have hlen := paired_len hp
    have hone : (trimQ [((1 : Int), (1 : Int))]).length ≤ 1 := trim_len _
    have start : (∃ v2 : Option V, (List.set (L2.start nPrd [V.ref l]) 1 (some (V.ref t))) = [some (.ref l), some (.ref t), v2]) ∧ Same H H2 ∧ ∃ rs, PolyAt C CP H2 t rs ∧ PSz (k + 0 * (k + 100)) rs ∧ rs.length ≤ 1 + m * 0 ∧ ∀ j, rowF rs j = prF ((qss.take 0).map rowF) j :=
      ⟨⟨none, rfl⟩, S2, _, ht, by rw [Nat.zero_mul]; exact hps, hone, row_one⟩
    have step : ∀ (i : Nat) (x : V) (σ : L2.St) (H5 : Hp), i < pa.length → (∃ (t : Addr) (v2 : Option V), σ = [some (.ref l), some (.ref t), v2] ∧ Same H H5 ∧ ∃ rs, PolyAt C CP H5 t rs ∧ PSz (k + i * (k + 100)) rs ∧ rs.length ≤ 1 + m * i ∧ ∀ j, rowF rs j = prF ((qss.take i).map rowF) j) → (pa.map V.ref)[i]? = some x →
        ∀ Qn : L2.St → Hp → Prop, (∀ (t : Addr) (v2 : Option V) (H6 : Hp), Same H H6 → (∃ rs, PolyAt C CP H6 t rs ∧ PSz (k + (i + 1) * (k + 100)) rs ∧ rs.length ≤ 1 + m * (i + 1) ∧ ∀ j, rowF rs j = prF ((qss.take (i + 1)).map rowF) j) → Qn [some (.ref l), some (.ref t), v2] H6) →
        gName 2 x σ H5 fun σ2 H6 => tOp (rBinO CP (spPMul C CP) E0) (tVar 1) (tVar 2) σ2 H6 fun y H7 => gName 1 y σ2 H7 Qn := by
      rintro i x σ H5 hi ⟨t, v2, rfl, s5, rs, hr5, ps5, len5, f5⟩ hx Qn hQ
      rw [List.getElem?_map] at hx
      obtain ⟨a, ha, rfl⟩ : ∃ a, pa[i]? = some a ∧ x = .ref a := by
        cases e : pa[i]? with
        | none => rw [e] at hx; cases hx
        | some a => rw [e] at hx; exact ⟨a, rfl, by cases hx; rfl⟩
      obtain ⟨qs, hq, hpo⟩ := paired_at hp ha
      obtain ⟨zq, lq⟩ := hz qs (List.mem_of_getElem? hq)
      have hpo5 := (PolyAt.stb C CP).same s5 hpo
      have e1 : (i + 1) * (k + 100) = i * (k + 100) + (k + 100) := by rw [Nat.add_mul, Nat.one_mul]
      have e2 : (i + 1) * (k + 100) ≤ qss.length * (k + 100) := Nat.mul_le_mul_right _ (by omega)
      have e3 : m * (i + 1) = m * i + m := by rw [Nat.mul_add, Nat.mul_one]
      have e4 : m * (i + 1) ≤ m * qss.length := Nat.mul_le_mul_left _ (by omega)
      refine ⟨_, rfl, _, rfl, ?_⟩
      obtain ⟨dt, _, _, et, _⟩ := id hr5
      obtain ⟨da, _, _, ea, _⟩ := id hpo5
      refine ⟨t, dt, _, a, da, _, rfl, rfl, et, ea, t, a, rs, qs, k + i * (k + 100), k, rfl, hr5, hpo5, ps5, zq, by omega, by omega, by omega, fun H7 t' us s7 hu pu lu fu => ?_⟩
      refine hQ t' (some (.ref a)) H7 (s5.trans s7) ⟨us, hu, psz_mono pu (by omega), by omega, fun j => ?_⟩
      rw [fu j, cvR_cv, List.take_add_one, hq]
      show _ = prF (((qss.take i) ++ [qs]).map rowF) j
      rw [List.map_append]
      show _ = prF ((qss.take i).map rowF ++ [rowF qs]) j
      rw [prF_snoc]
      have e5 : rowF rs = prF ((qss.take i).map rowF) := funext f5
      rw [e5]
    have fin : ∀ (σ : L2.St) (H5 : Hp), (∃ (t : Addr) (v2 : Option V), σ = [some (.ref l), some (.ref t), v2] ∧ Same H H5 ∧ ∃ rs, PolyAt C CP H5 t rs ∧ PSz (k + pa.length * (k + 100)) rs ∧ rs.length ≤ 1 + m * pa.length ∧ ∀ j, rowF rs j = prF ((qss.take pa.length).map rowF) j) → tVar 1 σ H5 Q := by
      rintro σ H5 ⟨t, v2, rfl, s5, rs, hr5, ps5, l5, f5⟩
      rw [hlen, List.take_length] at f5
      rw [hlen] at ps5 l5
      exact ⟨_, rfl, res H5 t rs s5 hr5 ps5 l5 f5⟩
    rcases hl with hl | hl
    · refine .inl ⟨_, rfl, l, rfl, ⟨_, SqL.of (S2 _ _ hl)⟩, for_it (walk_list (K := K) (a := l) (xs := pa.map V.ref))
        (fun i σ H5 => ∃ (t : Addr) (v2 : Option V), σ = [some (.ref l), some (.ref t), v2] ∧ Same H H5 ∧ ∃ rs, PolyAt C CP H5 t rs ∧ PSz (k + i * (k + 100)) rs ∧ rs.length ≤ 1 + m * i ∧ ∀ j, rowF rs j = prF ((qss.take i).map rowF) j)
        (let ⟨⟨v2, e⟩, z⟩ := start; ⟨t, v2, e, z⟩) (fun i σ H5 _ ⟨_, _, _, s5, _⟩ => SqL.of (s5 _ _ hl)) ?_ ?_⟩
      · rintro i x σ H5 H6 hi hP ⟨rfl, hx⟩
        rw [List.length_map] at hi
        exact step i x σ _ hi hP hx _ fun t v2 H6 s6 z => ⟨t, v2, rfl, s6, z⟩
      · intro σ H5 hP
        rw [List.length_map] at hP
        exact fin σ H5 hP
    · refine .inr ⟨_, rfl, l, rfl, ⟨_, SqT.of (S2 _ _ hl)⟩, for_it (walk_tup (K := K) (a := l) (xs := pa.map V.ref))
        (fun i σ H5 => ∃ (t : Addr) (v2 : Option V), σ = [some (.ref l), some (.ref t), v2] ∧ Same H H5 ∧ ∃ rs, PolyAt C CP H5 t rs ∧ PSz (k + i * (k + 100)) rs ∧ rs.length ≤ 1 + m * i ∧ ∀ j, rowF rs j = prF ((qss.take i).map rowF) j)
        (let ⟨⟨v2, e⟩, z⟩ := start; ⟨t, v2, e, z⟩) (fun i σ H5 _ ⟨_, _, _, s5, _⟩ => SqT.of (s5 _ _ hl)) ?_ ?_⟩
      · rintro i x σ H5 H6 hi hP ⟨rfl, hx⟩
        rw [List.length_map] at hi
        exact step i x σ _ hi hP hx _ fun t v2 H6 s6 z => ⟨t, v2, rfl, s6, z⟩
      · intro σ H5 hP
        rw [List.length_map] at hP
        exact fin σ H5 hP
end
end Ind

set_option Elab.async false
set_option linter.all false
set_option maxRecDepth 100000
set_option maxHeartbeats 4000000
set_option exponentiation.threshold 20000
namespace Ind
open PySem PySem.Spec PyProof.Rows L2
open Builtin.Int (intBits)
abbrev sPair20 : Stmt := top 51
abbrev sFct : Stmt := top 52
def spPair20 (C : Addr) : Sp := fun vs H Q _ => ∃ (p : Addr) (a b : Int), vs = [.ref p] ∧ RatAt C H p a b ∧ 0 < b ∧ ∀ (H' : Hp) (t : Addr), Same H H' → H t = none → H' t = some (.tup [.int a, .int b]) → Q (.ref t) H'
/-- the numbers of the factors -/
def rtI : Nat → Int
  | 0 => 0
  | 1 => 1
  | 2 => -1
  | 3 => -2
  | _ => 5
def linQ (c : Int) : List Q2 := [(-c, 1), (1, 1)]
def flN (a : Nat → Nat) : Nat → List Int
  | 0 => []
  | k + 1 => flN a k ++ List.replicate (a k) (rtI k)
def castL (l : List Int) : List Rat := l.map fun c => ((c : Int) : Rat)
theorem flN_mem {a : Nat → Nat} {c : Int} : ∀ {n : Nat}, c ∈ flN a n → ∃ k, k < n ∧ c = rtI k ∧ 0 < a k
  | 0, h => by cases h
  | n + 1, h => by
    rcases List.mem_append.mp h with h | h
    · obtain ⟨k, h1, h2⟩ := flN_mem h
      exact ⟨k, by omega, h2⟩
    · obtain ⟨h1, h2⟩ := List.mem_replicate.mp h
      exact ⟨n, by omega, h2, by omega⟩
theorem rtI_le (k : Nat) : (rtI k).natAbs ≤ 5 := by
  match k with
  | 0 => decide
  | 1 => decide
  | 2 => decide
  | 3 => decide
  | k + 4 => exact Nat.le_refl 5
theorem flN_len (a : Nat → Nat) (h : ∀ k, k < 5 → a k ≤ 2) : ∀ n, n ≤ 5 → (flN a n).length ≤ 2 * n
  | 0, _ => Nat.le_refl _
  | n + 1, hn => by
    have := flN_len a h n (by omega)
    have := h n (by omega)
    show (flN a n ++ List.replicate (a n) (rtI n)).length ≤ _
    rw [List.length_append, List.length_replicate]
    omega
theorem linQ_row (c : Int) : rowF (linQ c) = Lx ((c : Int) : Rat) := funext fun j => by
  match j with
  | 0 =>
    show rv (-c, 1) = _
    unfold rv
    show ((-c : Int) : Rat) / ((1 : Int) : Rat) = if 0 = 0 then -((c : Int) : Rat) else _
    rw [if_pos rfl, Rat.intCast_neg]
    show _ / (1 : Rat) = _
    grind
  | 1 =>
    show rv (1, 1) = _
    rw [rv_q1]
    rfl
  | j + 2 =>
    rw [rowF_out (show (linQ c).length ≤ j + 2 from Nat.le_add_left 2 j)]
    show (0 : Rat) = if j + 2 = 0 then _ else if j + 2 = 1 then _ else _
    rw [if_neg (by omega), if_neg (by omega)]
theorem linQ_psz {c : Int} (h : c.natAbs ≤ 5) : PSz 4 (linQ c) := mq_psz (M := 1) (B := 5) (by decide) (fun q hq => by
  rcases List.mem_cons.mp hq with rfl | hq
  · refine ⟨⟨show (0 : Int) < 1 by decide, by show Nat.gcd _ 1 = 1; exact Nat.gcd_one_right _⟩, -c, ?_, by rw [Int.natAbs_neg]; exact h⟩
    unfold rv
    show _ = ((1 : Int) : Rat) * (((-c : Int) : Rat) / ((1 : Int) : Rat))
    rw [show ((1 : Int) : Rat) = 1 from rfl]
    grind
  · rw [List.mem_singleton.mp hq]
    refine ⟨⟨by decide, by decide⟩, 1, ?_, by decide⟩
    rw [rv_q1, show ((1 : Int) : Rat) = 1 from rfl]
    grind) (by decide) (by decide) (by show 2 ≤ 100; decide)
theorem linQ_trim (c : Int) : trimQ (linQ c) = linQ c := trim_id (qs := [(-c, 1)]) (by decide)
theorem prF_lin : ∀ (l : List Int) (a : Fr), ((l.map linQ).map rowF).foldl cv a = cv a (pL (castL l))
  | [], a => (funext fun j => by
    show cv a one1 j = a j
    rw [cv_comm, cv_one]).symm
  | c :: l, a => by
    show ((l.map linQ).map rowF).foldl cv (cv a (rowF (linQ c))) = _
    rw [prF_lin l, linQ_row, cv_assoc']
    rfl
theorem prF_pL (l : List Int) : prF ((l.map linQ).map rowF) = pL (castL l) := by
  unfold prF
  rw [prF_lin, show cv one1 (pL (castL l)) = pL (castL l) from funext (cv_one _)]
def spFct (C CP : Addr) : Sp := fun vs H Q _ => ∃ (l : Addr) (a : Nat → Nat), vs = [.ref l] ∧ H l = some (.lst ((List.range 5).map fun k => V.int ((a k : Nat) : Int))) ∧ (∀ k, k < 5 → a k ≤ 2) ∧
  ∀ (H' : Hp) (t : Addr) (xs : List Q2), Same H H' → PolyAt C CP H' t xs → (∀ q ∈ xs, Lo q) → rowF xs = pL (castL (flN a 5)) → Q (.ref t) H'
section
variable {P : Program} {w : World} {K : PySem.W.Frag} {mg : Str → Option Value} {base : Heap} {C Z CP : Addr}
theorem scPair20 : FnScope ["value"] ["value"] (defScope sPair20) := ⟨rfl, rfl, rfl, by decide +kernel, rfl, by decide +kernel, by decide +kernel⟩
theorem ok_pair20 {f : Addr} {fd : FuncData} (F : Fun K "_law_pair" "_law_pair" sPair20 f fd) (T : TxL K mg) (R : TxR K mg C Z) (I : TxI K C) : FnOk P w K mg base CX0 1 f fd ["value"] (spPair20 C) := by
  refine F.ok scPair20 (fun vs H Q E h => ?_) (fun cdv A outer s H vs Q E hr h => ?_)
  · obtain ⟨p, a, b, rfl, _⟩ := h
    rfl
  · obtain ⟨p, a, b, rfl, ⟨dx, hp⟩, hb, k⟩ := h
    refine ⟨_, pss_cons (ps_if (pt_not (pt_val (pe_callB call_isi (by rfl) T.isinstance (by decide +kernel) (pa_cons (pv 0) (pa_cons (pe_glob (v := .ref C) rfl R.mgC rfl) pa_nil))))) (pss_one (ps_ret pe_non)) pss_nil)
      (pss_cons (ps_if (PW.pt (pw_or (pt_not (pt_val (pe_callB call_isi (by rfl) T.isinstance (by decide +kernel) (pa_cons (pe_fld (pv 0) rfl) (pa_cons (pe_bltn (v := .ty "int") (by rfl) T.int (by decide +kernel) rfl) pa_nil)))))
        (pw_or (pt_not (pt_val (pe_callB call_isi (by rfl) T.isinstance (by decide +kernel) (pa_cons (pe_fld (pv 0) rfl) (pa_cons (pe_bltn (v := .ty "int") (by rfl) T.int (by decide +kernel) rfl) pa_nil)))))
        (pw_or1 (pt_cmpR op_lt (pe_fld (pv 0) rfl) pe_int (nomark _)))))) (pss_one (ps_ret pe_non)) pss_nil)
      (pss_one (ps_ret (pe_tup (pa_cons (pe_fld (pv 0) rfl) (pa_cons (pe_fld (pv 0) rfl) pa_nil)))))), ?_⟩
    refine ⟨_, rfl, _, _, _, _, true, rfl, ClsV.own C, .base (.ins hp R.cl I.ha I.hn I.ht I.hm), I.kC, true, rfl, ?_⟩
    refine iteF ⟨_, rfl, p, C, dx, _, _, rfl, hp, R.cl, R.nN, rf_n _ _, _, _, _, _, true, rfl, ClsV.ty "int", .base (.int a), kit_ty (by decide +kernel), true, rfl, ?_⟩
    refine iteF ⟨_, rfl, p, C, dx, _, _, rfl, hp, R.cl, R.nD, rf_d _ _, _, _, _, _, true, rfl, ClsV.ty "int", .base (.int b), kit_ty (by decide +kernel), true, rfl, ?_⟩
    refine iteF ⟨_, rfl, p, C, dx, _, _, rfl, hp, R.cl, R.nD, rf_d _ _, _, _, rfl, rfl, _, rfl, ?_⟩
    rw [show decide (b < 1) = false from decide_eq_false (by omega)]
    refine iteF ⟨_, rfl, p, C, dx, _, _, rfl, hp, R.cl, R.nN, rf_n _ _, _, rfl, p, C, dx, _, _, rfl, hp, R.cl, R.nD, rf_d _ _, (by show 2 ≤ sizeLine; decide), fun t ht => ?_⟩
    exact k _ t (same_upd ht) ht upd_same
abbrev nFct : List Str := ["powers", "rows", "found", "k", "turn"]
theorem scFct : FnScope nFct ["powers"] (defScope sFct) := ⟨rfl, rfl, rfl, by decide +kernel, rfl, by decide +kernel, by decide +kernel⟩
theorem ok_fct {f fP fPr : Addr} {fd fdP fdPr : FuncData} (F : Fun K "_law_factors" "_law_factors" sFct f fd) (T : TxL K mg) (TP : TxP K mg CP) (MP : MkP P w K mg base C CP fP fdP)
    (GP : FnOk P w K mg base CX0 47 fPr fdPr ["polys"] (spPrd C CP)) (kP : PySem.W.keepIn K (.ref fPr) = true) (bP : Binds K fdPr ["polys"] []) (gP : mg "product" = some (.ref fPr)) : FnOk P w K mg base CX0 48 f fd ["powers"] (spFct C CP) := by
  refine F.ok scFct (fun vs H Q E h => ?_) (fun cdv A outer s H vs Q E hr h => ?_)
  · obtain ⟨l, a, rfl, _⟩ := h
    rfl
  · obtain ⟨l, a, rfl, hl, ha, res⟩ := h
    have h44 := hr.mono (show 44 ≤ 47 by decide)
    refine ⟨_, pss_cons (ps_set (i := 1) scFct.nd rfl (Or.inl rfl) (pe_lst (pa_cons (pe_lst (pa_cons pe_int (pa_cons pe_int pa_nil))) (pa_cons (pe_lst (pa_cons (pe_un un_neg pe_int) (pa_cons pe_int pa_nil))) (pa_cons (pe_lst (pa_cons pe_int (pa_cons pe_int pa_nil))) (pa_cons (pe_lst (pa_cons pe_int (pa_cons pe_int pa_nil))) (pa_cons (pe_lst (pa_cons (pe_un un_neg pe_int) (pa_cons pe_int pa_nil))) pa_nil)))))))
      (pss_cons (ps_set (i := 2) scFct.nd rfl (Or.inl rfl) (pe_lst pa_nil))
      (pss_cons (ps_for PassesOwn.never rfl (pi_range1 (by rfl) T.range (pa_cons pe_int pa_nil)) (pg_name (i := 3) scFct.nd rfl (Or.inl rfl))
        (pss_one (ps_for PassesOwn.never rfl (pi_range1 (by rfl) T.range (pa_cons (pe_ix ix_list (pv 0) (pv 3) fun _ _ => rfl) pa_nil)) (pg_name (i := 4) scFct.nd rfl (Or.inl rfl))
          (pss_one (ps_expr (pe_bm PySem.F.plainAttrs_list PySem.F.slot_list_append PySem.F.type_list_append mt_append (pv 2) (pa_cons (pe_make MP.cm MP.fn h44 (by rfl) TP.mgP MP.b .nil pass0 (pa_cons (pe_ix ix_list (pv 1) (pv 3) fun _ _ => rfl) pa_nil)) pa_nil)))))))
      (pss_one (ps_ret (pe_call GP hr (by rfl) gP kP bP .nil pass0 (pa_cons (pv 2) pa_nil)))))), ?_⟩
    have s2 : 2 ≤ sizeLine := by decide
    refine ⟨s2, fun r0 n0 => ⟨_, rfl, s2, fun r1 n1 => ⟨s2, fun r2 n2 => ⟨s2, fun r3 n3 => ⟨_, rfl, s2, fun r4 n4 => ⟨(by show 5 ≤ sizeLine; decide), fun rl nl => ?_⟩⟩⟩⟩⟩⟩
    have t0 := same_upd (o := .lst [V.int 0, V.int 1]) n0
    have t1 := same_upd (o := .lst [V.int (-1), V.int 1]) n1
    have t2 := same_upd (o := .lst [V.int 1, V.int 1]) n2
    have t3 := same_upd (o := .lst [V.int 2, V.int 1]) n3
    have t4 := same_upd (o := .lst [V.int (-5), V.int 1]) n4
    have tl := same_upd (o := .lst [V.ref r0, V.ref r1, V.ref r2, V.ref r3, V.ref r4]) nl
    have q0 := tl _ _ (t4 _ _ (t3 _ _ (t2 _ _ (t1 _ _ (upd_same (H := H) (a := r0) (o := .lst [V.int 0, V.int 1]))))))
    have q1 := tl _ _ (t4 _ _ (t3 _ _ (t2 _ _ (upd_same (a := r1) (o := .lst [V.int (-1), V.int 1])))))
    have q2 := tl _ _ (t4 _ _ (t3 _ _ (upd_same (a := r2) (o := .lst [V.int 1, V.int 1]))))
    have q3 := tl _ _ (t4 _ _ (upd_same (a := r3) (o := .lst [V.int 2, V.int 1])))
    have q4 := tl _ _ (upd_same (a := r4) (o := .lst [V.int (-5), V.int 1]))
    have ql := upd_same (H := upd (upd (upd (upd (upd H r0 (.lst [V.int 0, V.int 1])) r1 (.lst [V.int (-1), V.int 1])) r2 (.lst [V.int 1, V.int 1])) r3 (.lst [V.int 2, V.int 1])) r4 (.lst [V.int (-5), V.int 1])) (a := rl) (o := .lst [V.ref r0, V.ref r1, V.ref r2, V.ref r3, V.ref r4])
    have s6 := ((((t0.trans t1).trans t2).trans t3).trans t4).trans tl
    refine ⟨Nat.zero_le _, fun D hD => ?_⟩
    generalize upd (upd (upd (upd (upd (upd H r0 (.lst [V.int 0, V.int 1])) r1 (.lst [V.int (-1), V.int 1])) r2 (.lst [V.int 1, V.int 1])) r3 (.lst [V.int 2, V.int 1])) r4 (.lst [V.int (-5), V.int 1])) rl (.lst [V.ref r0, V.ref r1, V.ref r2, V.ref r3, V.ref r4]) = H6 at q0 q1 q2 q3 q4 ql s6 hD ⊢
    clear t0 t1 t2 t3 t4 tl n0 n1 n2 n3 n4 nl
    have hrow : ∀ i, i < 5 → ∃ r, ([V.ref r0, V.ref r1, V.ref r2, V.ref r3, V.ref r4] : List V)[i]? = some (.ref r) ∧ H6 r = some (.lst [V.int (-(rtI i)), V.int 1]) := fun i hi => by
      match i, hi with
      | 0, _ => exact ⟨r0, rfl, q0⟩
      | 1, _ => exact ⟨r1, rfl, q1⟩
      | 2, _ => exact ⟨r2, rfl, q2⟩
      | 3, _ => exact ⟨r3, rfl, q3⟩
      | 4, _ => exact ⟨r4, rfl, q4⟩
    have hl6 := s6 _ _ hl
    have hai : ∀ i, i < 5 → ((List.range 5).map fun k => V.int ((a k : Nat) : Int))[i]? = some (V.int ((a i : Nat) : Int)) := fun i hi => by
      rw [List.getElem?_map, List.getElem?_range hi]
      rfl
    refine ⟨5, rfl, by decide, by decide, for_range (lo := 0) (n := 5) (fun i σ H5 => ∃ v3 v4 : Option V, σ = [some (.ref l), some (.ref rl), some (.ref D), v3, v4] ∧ Col (PolyAt C CP) D H6 H5 ((flN a i).map linQ)) ⟨none, none, rfl, Col.start hD⟩ ?_ ?_⟩
    · rintro i σ H5 hi ⟨v3, v4, rfl, c5⟩
      have ha2 := ha i hi
      refine ⟨_, rfl, _, rfl, l, _, _, _, rfl, rfl, SqL.of (c5.s _ _ hl6), (by rw [show (0 : Int) + ((i : Nat) : Int) = ((i : Nat) : Int) from Int.zero_add _]; exact atI_of (hai i hi)), ?_⟩
      refine ⟨((a i : Nat) : Int), rfl, by omega, by omega, ?_⟩
      have start : ∃ v4' : Option V, [some (V.ref l), some (V.ref rl), some (V.ref D), some (V.int (0 + ((i : Nat) : Int))), v4] = [some (V.ref l), some (V.ref rl), some (V.ref D), some (V.int (0 + ((i : Nat) : Int))), v4'] ∧ Col (PolyAt C CP) D H6 H5 ((flN a i ++ List.replicate 0 (rtI i)).map linQ) := ⟨v4, rfl, by
        rw [List.replicate_zero, List.append_nil]
        exact c5⟩
      refine for_range (lo := 0) (n := a i) (fun t σ H7 => ∃ v4' : Option V, σ = [some (.ref l), some (.ref rl), some (.ref D), some (.int (0 + ((i : Nat) : Int))), v4'] ∧ Col (PolyAt C CP) D H6 H7 ((flN a i ++ List.replicate t (rtI i)).map linQ)) start ?_ ?_
      · rintro t σ H7 ht ⟨v4', rfl, c7⟩
        obtain ⟨ps, ed, qd⟩ := id c7.at_
        obtain ⟨r, hri, hr6⟩ := hrow i hi
        refine ⟨_, rfl, .inl ⟨rfl, _, SqL.of ed⟩, _, rfl, _, rfl, rl, _, _, _, rfl, rfl, SqL.of (c7.s _ _ ql), (by rw [show (0 : Int) + ((i : Nat) : Int) = ((i : Nat) : Int) from Int.zero_add _]; exact atI_of hri), ?_⟩
        unfold tNil
        dsimp only
        refine mkP_ok (Q := fun v H2 => rAppend (V.ref D) [v] H2 fun _ H1 => ∃ v4'_1 : Option V, [some (V.ref l), some (V.ref rl), some (V.ref D), some (V.int (0 + ((i : Nat) : Int))), v4'].set 4 (some (V.int (0 + ((t : Nat) : Int)))) = [some (V.ref l), some (V.ref rl), some (V.ref D), some (V.int (0 + ((i : Nat) : Int))), v4'_1] ∧ Col (PolyAt C CP) D H6 H1 (List.map linQ (flN a i ++ List.replicate (t + 1) (rtI i)))) (qs := linQ (rtI i)) (k := 4) (.inl (c7.s _ _ hr6)) (.cons (.inr ⟨_, rfl, rfl⟩) (.cons (.inr ⟨_, rfl, rfl⟩) .nil)) (linQ_psz (rtI_le i)) (by decide) fun p H8 hp8 s8 => ?_
        rw [linQ_trim] at hp8
        have hlen := flN_len a ha i (by omega)
        obtain ⟨acc, ea, la, c9⟩ := c7.push ((PolyAt.stb C CP).x D) hD s8 hp8 (by
          rw [List.length_map, List.length_append, List.length_replicate]
          omega)
        refine ⟨D, acc, _, rfl, rfl, ea, la, ⟨_, rfl, ?_⟩⟩
        have e : (flN a i ++ List.replicate (t + 1) (rtI i)).map linQ = (flN a i ++ List.replicate t (rtI i)).map linQ ++ [linQ (rtI i)] := by
          rw [List.replicate_succ', ← List.append_assoc, List.map_append]
          rfl
        rw [e]
        exact c9
      · rintro σ H7 ⟨v4', rfl, c7⟩
        exact ⟨_, _, rfl, c7⟩
    · rintro σ H5 ⟨v3, v4, rfl, c5⟩
      obtain ⟨ps, ed, qd⟩ := id c5.at_
      have hlen := flN_len a ha 5 (Nat.le_refl _)
      have ll : ((flN a 5).map linQ).length = (flN a 5).length := List.length_map _
      refine ⟨_, rfl, D, ps, (flN a 5).map linQ, 4, 2, rfl, .inl ed, qd, by rw [ll]; omega, by decide, fun qs hq => ?_, by decide, by rw [ll]; have := Nat.mul_le_mul_right 104 hlen; omega, fun H9 t xs s9 ht zx lx fx => ?_⟩
      · obtain ⟨c, hc, rfl⟩ := List.mem_map.mp hq
        obtain ⟨k, _, e, _⟩ := flN_mem hc
        exact ⟨linQ_psz (by rw [e]; exact rtI_le k), Nat.le_refl 2⟩
      · exact res H9 t xs (s6.trans (c5.s.trans s9)) ht zx.1 (by rw [← prF_pL]; exact funext fx)
end
end Ind

set_option Elab.async false
set_option linter.all false
set_option maxRecDepth 100000
set_option maxHeartbeats 4000000
set_option exponentiation.threshold 20000
namespace Ind
open PySem PySem.Spec PyProof.Rows L2 SX
open Builtin.Int (intBits)
abbrev sIsR : Stmt := top 53
/-- Refused at the clause of Fault -/
structure TxRf (K : PySem.W.Frag) (mg : Str → Option Value) (Rf Fa : Addr) : Prop where
  g : mg "Fault" = some (.ref Fa)
  ex : PySem.W.exmOne K (.ref Rf) (.ref Fa) = some true
  xf : XfC K Rf
  no : PySem.W.findIn K (.ref Rf) "reason" = some none
  c : ExcC K Rf
  kR : PySem.W.kitOne K (.ref Rf) (.ref Rf) = some true
def spIsR (C CP CF : Addr) : Sp := fun vs H Q _ => ∃ (z p : Addr) (ds bs : List Q2), vs = [.ref z, .ref p] ∧ FunAt C CP CF H z [] ds ∧ PolyAt C CP H p bs ∧ ∀ H' : Hp, Same H H' → Q (.bl true) H'
section
variable {P : Program} {w : World} {K : PySem.W.Frag} {mg : Str → Option Value} {base : Heap} {C Z CP CF Rf Fa : Addr}
abbrev nIsR : List Str := ["zero_v", "p", "count", "turn", "bad"]
theorem scIsR : FnScope nIsR ["zero_v", "p"] (defScope sIsR) := ⟨rfl, rfl, rfl, by decide +kernel, rfl, by decide +kernel, by decide +kernel⟩
theorem ok_isR {f fO fD fL fN : Addr} {fd fdO fdD fdL fdN : FuncData} (F : Fun K "_law_is_refused" "_law_is_refused" sIsR f fd) (T : TxL K mg) (TF : TxF K mg CF) (N : RfC P w K mg base Rf fN fdN) (X : TxRf K mg Rf Fa)
    (GO : FnOk P w K mg base (L2.CX P w) 49 fO fdO ["self", "p"] (spFor C CP CF Rf)) (bO : Binds K fdO ["self", "p"] []) (mO : Meth K CF "order_at" fO)
    (GD : FnOk P w K mg base (L2.CX P w) 3 fD fdD ["self"] (spFdg C CP CF Rf)) (bD : Binds K fdD ["self"] []) (mD : Meth K CF "degree" fD)
    (GL : FnOk P w K mg base (L2.CX P w) 3 fL fdL ["self"] (spFld C CP CF Rf)) (bL : Binds K fdL ["self"] []) (mL : Meth K CF "leading" fL) : FnOk P w K mg base CX0 50 f fd ["zero_v", "p"] (spIsR C CP CF) := by
  refine F.ok scIsR (fun vs H Q E h => ?_) (fun cdv A outer s H vs Q E hr h => ?_)
  · obtain ⟨z, p, ds, bs, rfl, _⟩ := h
    rfl
  · obtain ⟨z, p, ds, bs, rfl, hz0, hb0, k⟩ := h
    have h3 := hr.mono (show 3 ≤ 49 by decide)
    refine ⟨_, pss_cons (ps_set (i := 2) scIsR.nd rfl (Or.inl rfl) pe_int)
      (pss_cons (ps_for PassesOwn.never rfl (pi_range1 (by rfl) T.range (pa_cons pe_int pa_nil)) (pg_name (i := 3) scIsR.nd rfl (Or.inl rfl))
        (pss_one (ps_try_as (i := 4) (c := .ref Fa) (Wout := fun _ _ _ _ => False) rfl rfl scIsR.nd rfl rfl ⟨rfl, by decide, .inl X.g⟩ takes0
          (fun W pn xe tk _ => pss_cons (ps_if (pt_cmpR op_eq (pv 3) pe_int (nomark _)) (pss_one (ps_expr (pe_methS1 (E := fun σ => WE W σ) (pv 0) TF.cl mO GO hr bO (fun σ => passAt tk σ) (pa_cons (pv 1) pa_nil)))) pss_nil)
            (pss_cons (ps_if (pt_cmpR op_eq (pv 3) pe_int (nomark _)) (pss_one (ps_expr (pe_methS0 (E := fun σ => WE W σ) (pv 0) TF.cl mD GD h3 bD (fun σ => passAt tk σ)))) pss_nil)
            (pss_one (ps_if (pt_cmpR op_eq (pv 3) pe_int (nomark _)) (pss_one (ps_expr (pe_methS0 (E := fun σ => WE W σ) (pv 0) TF.cl mL GL h3 bL (fun σ => passAt tk σ)))) pss_nil))))
          (fun a oe cls d pn hz hf => pss_one (ps_if (PW.pt (pw_and (pt_val (pe_callB (call_isXD hz hf) (by rfl) T.isinstance (by decide +kernel) (pa_cons (pv 4) (pa_cons (pe_glob (v := .ref Rf) rfl N.g rfl) pa_nil))))
              (pw_and1 (pt_cmpR op_eq (pe_xf X.xf X.no hz hf (pv 4)) pe_str (nomark _)))))
            (pss_one (ps_set (i := 2) scIsR.nd rfl (Or.inl rfl) (pe_op op_add (pv 2) pe_int))) pss_nil)))))
      (pss_one (ps_ret (pe_cmpR op_eq (pv 2) pe_int (nomark _))))), ?_⟩
    refine ⟨3, rfl, by decide, by decide, fun i m σ H5 => m = 3 - i ∧ i ≤ 3 ∧ ∃ v3 v4 : Option V, σ = [some (.ref z), some (.ref p), some (.int (i : Int)), v3, v4] ∧ Same H H5, ⟨3, rfl, by decide, none, none, rfl, same_rfl⟩, ?_⟩
    rintro i m σ H5 ⟨rfl, hi, v3, v4, rfl, s5⟩
    by_cases hlt : i < 3
    · refine .inr ⟨hlt, fun σ' H' => ∃ v3 v4 : Option V, σ' = [some (.ref z), some (.ref p), some (.int ((i + 1 : Nat) : Int)), v3, v4] ∧ Same H H', fun σ' H' p' => ⟨3 - (i + 1), by omega, rfl, hlt, p'⟩, fun x H' y => ?_⟩
      obtain ⟨e, y⟩ := y
      subst e y
      have hz5 := hz0.same s5
      have hb5 := (PolyAt.stb C CP).same s5 hb0
      obtain ⟨dx, pn, pd, ez, _, _⟩ := id hz5
      have nol : ∀ m : Str, ¬ m = "den" → ¬ m = "num" → (rff pn pd).lookup m = none := fun m h1 h2 => rff_no _ _ h1 h2
      match i, hlt with
      | 0, _ =>
        refine ⟨_, rfl, rfl, _, rfl, iteT ⟨_, rfl, z, dx, _, rfl, ez, nol _ (by decide +kernel) (by decide +kernel), _, rfl, z, p, [], ds, bs, rfl, hz5, hb5, fun _ => ?_, fun e => absurd rfl e⟩⟩
        intro H6 dd s6 hdd
        refine ⟨true, X.ex, fun _ ea hea => ?_, fun z => Bool.noConfusion z⟩
        refine ⟨_, rfl, Rf, dd, _, .ref Rf, _, true, rfl, rfl, hdd, X.c, rfl, fun u hu => hu, X.kR, true, rfl, ?_⟩
        refine iteT ⟨_, rfl, rfl, rfl, dd, _, _, rfl, hdd, rfl, rfl, _, rfl, iteT ⟨_, rfl, _, _, rfl, rfl, _, _, rfl, s5.trans s6⟩⟩
      | 1, _ =>
        refine ⟨_, rfl, rfl, _, rfl, iteF ⟨_, rfl, rfl, _, rfl, iteT ⟨_, rfl, z, dx, _, rfl, ez, nol _ (by decide +kernel) (by decide +kernel), z, [], ds, rfl, hz5, fun _ => ?_, fun e => absurd rfl e⟩⟩⟩
        intro H6 dd s6 hdd
        refine ⟨true, X.ex, fun _ ea hea => ?_, fun z => Bool.noConfusion z⟩
        refine ⟨_, rfl, Rf, dd, _, .ref Rf, _, true, rfl, rfl, hdd, X.c, rfl, fun u hu => hu, X.kR, true, rfl, ?_⟩
        refine iteT ⟨_, rfl, rfl, rfl, dd, _, _, rfl, hdd, rfl, rfl, _, rfl, iteT ⟨_, rfl, _, _, rfl, rfl, _, _, rfl, s5.trans s6⟩⟩
      | 2, _ =>
        refine ⟨_, rfl, rfl, _, rfl, iteF ⟨_, rfl, rfl, _, rfl, iteF ⟨_, rfl, rfl, _, rfl, iteT ⟨_, rfl, z, dx, _, rfl, ez, nol _ (by decide +kernel) (by decide +kernel), z, [], ds, rfl, hz5, fun _ => ?_, fun r q e => by cases e⟩⟩⟩⟩
        intro H6 dd s6 hdd
        refine ⟨true, X.ex, fun _ ea hea => ?_, fun z => Bool.noConfusion z⟩
        refine ⟨_, rfl, Rf, dd, _, .ref Rf, _, true, rfl, rfl, hdd, X.c, rfl, fun u hu => hu, X.kR, true, rfl, ?_⟩
        refine iteT ⟨_, rfl, rfl, rfl, dd, _, _, rfl, hdd, rfl, rfl, _, rfl, iteT ⟨_, rfl, _, _, rfl, rfl, _, _, rfl, s5.trans s6⟩⟩
    · have e : i = 3 := by omega
      subst e
      exact .inl ⟨Nat.le_refl _, _, rfl, rfl, k H5 s5⟩
end
end Ind

set_option Elab.async false
set_option linter.all false
set_option maxRecDepth 100000
set_option maxHeartbeats 4000000
set_option exponentiation.threshold 20000
namespace Ind
open PySem PySem.Spec PyProof.Rows L2
open Builtin.Int (intBits)
theorem pw_dg {f : Fr} {m : Nat} (h : Dg f m) (h1 : f m = 1) : ∀ i, Dg (pw f i) (i * m) ∧ pw f i (i * m) = 1
  | 0 => by
    rw [Nat.zero_mul]
    exact ⟨⟨fs_one, by show (1 : Rat) ≠ 0; decide⟩, rfl⟩
  | i + 1 => by
    obtain ⟨d, e⟩ := pw_dg h h1 i
    have ep : pw f (i + 1) = cv (pw f i) f := by rw [← pw_add f i 1, pw_one]
    rw [ep, Nat.add_mul, Nat.one_mul]
    refine ⟨dg_cv d h, ?_⟩
    rw [cv_top d.s h.s, e, h1]
    grind
theorem pL_len {l : List Rat} {xs : List Q2} (t : Trim xs) (lo : ∀ q ∈ xs, Lo q) {k : Rat} (hk : k ≠ 0) (e : ∀ j, rowF xs j = k * pL l j) : xs.length = l.length + 1 := by
  refine dg_rowQ t lo ?_
  rw [show rowF xs = fun j => k * pL l j from funext e]
  exact dg_sc (pL_dg l) hk
/-- the even order of k times a product at another product -/
theorem ev_prod {la lb : List Rat} {k : Rat} {as bs : List Q2} {o : Option Nat} (hk : k ≠ 0) (ta : Trim as) (za : PSz 40 as) (ea : ∀ j, rowF as j = k * pL la j) (tb : Trim bs) (zb : PSz 40 bs) (eb : rowF bs = pL lb) (h1 : la.length ≤ 10) (h2 : lb.length ≤ 5) (h3 : lb ≠ []) (nd : lb.Nodup)
    (o1 : ∀ i, (∀ c ∈ lb, la.count c = i) → o = some i) (o2 : (¬ ∃ i, ∀ c ∈ lb, la.count c = i) → o = none) : EvOk as bs o := by
  have la1 := pL_len ta za.1 hk ea
  have lb1 : bs.length = lb.length + 1 := pL_len tb zb.1 (k := 1) (by decide) fun j => by rw [eb]; grind
  have l0 : 0 < lb.length := List.length_pos_iff.mpr h3
  have na : as ≠ [] := fun e => by rw [e] at la1; cases la1
  have nb : bs ≠ [] := fun e => by rw [e] at lb1; cases lb1
  have Db : Dg (rowF bs) lb.length := by rw [eb]; exact pL_dg lb
  have Dm : rowF bs lb.length = 1 := by rw [eb]; exact pL_top lb
  refine ⟨na, 40, 40, as.length, ⟨za, zb, by omega, by omega, by omega, ?_, ?_⟩, fun i cs ok tc lc hc => ?_, fun i cs gs ok G hg => ?_, fun i cs gs ok G hg => ?_⟩
  · have := Nat.mul_le_mul_left as.length (show 1 ≤ bs.length - 1 by omega)
    omega
  · unfold gG
    have e1 : as.length + 1 - bs.length ≤ 11 := by omega
    have e2 := Nat.mul_le_mul_right (40 + 1) e1
    have e3 := Nat.mul_le_mul (show as.length ≤ 11 by omega) (show (as.length + 1 - bs.length) * (40 + 1) + 40 + 1 ≤ 500 by omega)
    omega
  · obtain ⟨Dp, Dt⟩ := pw_dg Db Dm i
    have z := cof_pszF (as := as) (qs := cs) za (by omega) ta Dp Dt tc lc (by omega) fun j => by rw [ok.id j, cv_comm]
    have e1 : (bs.length + cs.length) * (270 + 8) ≤ 17 * (270 + 8) := Nat.mul_le_mul_right _ (by omega)
    exact ⟨270, psz_mono zb (by decide), psz_mono z (by omega), by omega, by omega, by omega, by omega⟩
  · refine o2 fun ⟨j, hj⟩ => ?_
    have hD : ∃ d, Dg (rowF cs) d := by
      rcases dg_or (fs_row cs) with z | ⟨d, _, h⟩
      · have h2 : rowF as = fun _ => 0 := funext fun j => by rw [ok.id j, show rowF cs = fun _ => 0 from funext z, cv_comm, cv_zl]
        exact absurd (congrFun h2 la.length) (by
          rw [ea]
          intro w
          rcases Rat.mul_eq_zero.mp w with w | w
          · exact hk w
          · exact (pL_dg la).t w)
      · exact ⟨d, h⟩
    obtain ⟨c, hc, e⟩ := ord_min hk ea eb ok nd hD
    have ej : i = j := by rw [← e]; exact hj c hc
    subst ej
    have := (ord_gcd hk ea eb ok nd nb G).mpr hj
    omega
  · exact o1 i ((ord_gcd hk ea eb ok nd nb G).mp hg)
/-- products without a common number are coprime -/
theorem pL_gc {la lb : List Rat} {k : Rat} (hk : k ≠ 0) (h : ∀ c ∈ lb, la.count c = 0) : Gc (fun j => k * pL la j) (pL lb) one1 := by
  have Da := dg_sc (pL_dg la) hk
  obtain ⟨g, d, Dg', G⟩ := gc_ex lb.length (fun j => k * pL la j) (pL lb) _ Da.s (pL_dg lb)
  have d0 := pL_cop lb g d Dg' G.r fun c hc v => by
    obtain ⟨s, N, hs, e⟩ := G.l
    obtain ⟨y, hy⟩ := val_ex hs c
    have v1 := val_mul Dg'.s hy v
    rw [← show (fun j => k * pL la j) = cv s g from funext e] at v1
    have o := (pL_ord c la).sc hk
    rw [h c hc] at o
    exact o.val0 v1 (by grind)
  subst d0
  have e : g = fun j => g 0 * one1 j := funext fun j => by
    unfold one1
    by_cases z : j = 0
    · rw [if_pos z, z]
      grind
    · rw [if_neg z, Dg'.s j (by omega)]
      grind
  have := G.sc (c := 1 / g 0) (by have := Dg'.t; grind)
  have e2 : (fun j => 1 / g 0 * g j) = one1 := funext fun j => by
    have := Dg'.t
    have := congrFun e j
    rw [this]
    grind
  rw [e2] at this
  exact this
/-! ### the law's exponents -/
theorem castL_count (l : List Int) (c : Int) : (castL l).count ((c : Int) : Rat) = l.count c := by
  unfold castL
  induction l with
  | nil => rfl
  | cons d l ih =>
    rw [List.map_cons, List.count_cons, List.count_cons, ih]
    congr 1
    by_cases h : d = c
    · subst h
      simp
    · have : ¬ ((d : Int) : Rat) = ((c : Int) : Rat) := fun z => h (by exact_mod_cast z)
      rw [if_neg (by simpa using this), if_neg (by simpa using h)]
theorem flN_count (a : Nat → Nat) (k : Nat) (h : k < 5) : (flN a 5).count (rtI k) = a k := by
  match k, h with
  | 0, _ => simp [flN, rtI, List.count_append, List.count_replicate]
  | 1, _ => simp [flN, rtI, List.count_append, List.count_replicate]
  | 2, _ => simp [flN, rtI, List.count_append, List.count_replicate]
  | 3, _ => simp [flN, rtI, List.count_append, List.count_replicate]
  | 4, _ => simp [flN, rtI, List.count_append, List.count_replicate]
theorem fl_mem {a : Nat → Nat} {c : Rat} (h : c ∈ castL (flN a 5)) : ∃ k, k < 5 ∧ c = ((rtI k : Int) : Rat) ∧ 0 < a k := by
  obtain ⟨z, hz, rfl⟩ := List.mem_map.mp h
  obtain ⟨k, h1, h2, h3⟩ := flN_mem hz
  exact ⟨k, h1, by rw [h2], h3⟩
theorem fl_count (a : Nat → Nat) {k : Nat} (h : k < 5) : (castL (flN a 5)).count ((rtI k : Int) : Rat) = a k := by rw [castL_count, flN_count a k h]
theorem fl_in {a : Nat → Nat} {k : Nat} (h : k < 5) (h2 : 0 < a k) : ((rtI k : Int) : Rat) ∈ castL (flN a 5) := List.count_pos_iff.mp (by rw [fl_count a h]; exact h2)
theorem fl_nodup {a : Nat → Nat} (h : ∀ k, k < 5 → a k ≤ 1) : (castL (flN a 5)).Nodup := List.nodup_iff_count.mpr fun c => by
  by_cases hc : c ∈ castL (flN a 5)
  · obtain ⟨k, h1, rfl, _⟩ := fl_mem hc
    rw [fl_count a h1]
    exact h k h1
  · rw [List.count_eq_zero_of_not_mem hc]
    omega
theorem fl_len (a : Nat → Nat) : (castL (flN a 5)).length = a 0 + a 1 + a 2 + a 3 + a 4 := by
  unfold castL
  simp [flN]
  omega
theorem fl_int (a : Nat → Nat) : ∀ c ∈ castL (flN a 5), ∃ z : Int, c = ((z : Int) : Rat) ∧ z.natAbs ≤ 5 := fun c hc => by
  obtain ⟨k, _, e, _⟩ := fl_mem hc
  exact ⟨rtI k, e, rtI_le k⟩
/-- a row of a product: its size -/
theorem pL_psz {l : List Rat} {xs : List Q2} (lo : ∀ q ∈ xs, Lo q) (t : Trim xs) (e : rowF xs = pL l) (hl : l.length ≤ 10) (hi : ∀ c ∈ l, ∃ z : Int, c = ((z : Int) : Rat) ∧ z.natAbs ≤ 5) : PSz 26 xs := by
  have ln := pL_len (l := l) t lo (k := 1) (by decide) fun j => by rw [e]; grind
  have p := Nat.pow_le_pow_right (n := 6) (by decide) hl
  refine mq_psz (M := 1) (B := 6 ^ 10) (by decide) (fun q hq => ⟨lo q hq, ?_⟩) (by decide) (by decide) (by omega)
  obtain ⟨j, hj, ej⟩ := List.getElem_of_mem hq
  obtain ⟨z, hz, hb⟩ := pL_int l hi j
  have er : rowF xs j = rv q := by
    unfold rowF
    rw [getD_q (q := q) (by rw [List.getElem?_eq_getElem hj, ej])]
  refine ⟨z, ?_, Nat.le_trans hb p⟩
  rw [← er, e, hz, show ((1 : Int) : Rat) = 1 from rfl]
  grind
end Ind

set_option Elab.async false
set_option linter.all false
set_option maxRecDepth 100000
set_option maxHeartbeats 4000000
set_option exponentiation.threshold 20000
namespace Ind
open PySem PySem.Spec PyProof.Rows L2 SX
open Builtin.Int (intBits)
abbrev sLaw : Stmt := top 54
def spLaw (K : PySem.W.Frag) : Sp := fun vs H Q _ => ∃ (a : Addr) (ns : List Int), vs = [.ref a] ∧ SqL K H a (ns.map V.int) ∧ (∀ n ∈ ns, intBits n ≤ 1048576) ∧ ∀ H', Q (.bl true) H'
/-- a def of the text that the law calls -/
structure ClD (P : Program) (w : World) (K : PySem.W.Frag) (mg : Str → Option Value) (base : Heap) (CX : CXT) (k : Nat) (x : Str) (ps : List Str) (sp : Sp) where
  f : Addr
  fd : FuncData
  g : mg x = some (.ref f)
  kp : PySem.W.keepIn K (.ref f) = true
  b : Binds K fd ps []
  fn : FnOk P w K mg base CX k f fd ps sp
/-- a method -/
structure MtD (P : Program) (w : World) (K : PySem.W.Frag) (mg : Str → Option Value) (base : Heap) (CX : CXT) (k : Nat) (D : Addr) (x : Str) (ps : List Str) (sp : Sp) where
  f : Addr
  fd : FuncData
  m : Meth K D x f
  b : Binds K fd ps []
  fn : FnOk P w K mg base CX k f fd ps sp
structure TxM (mg : Str → Option Value) : Prop where
  max : mg "max" = none
  min : mg "min" = none
structure LawF (P : Program) (w : World) (K : PySem.W.Frag) (mg : Str → Option Value) (base : Heap) (C Z CP CF Rf : Addr) where
  Sta : ClD P w K mg base CX0 41 "_law_state" ["script"] (spState K)
  Tk : ClD P w K mg base CX0 41 "_law_take" ["state", "m"] spTake
  Fr : ClD P w K mg base CX0 41 "_law_frac" ["n", "d"] spFrac
  Fc : ClD P w K mg base CX0 48 "_law_factors" ["powers"] (spFct C CP)
  Pr : ClD P w K mg base CX0 1 "_law_pair" ["value"] (spPair20 C)
  Re : ClD P w K mg base CX0 50 "_law_is_refused" ["zero_v", "p"] (spIsR C CP CF)
  Or : ClD P w K mg base CX0 51 "of_ratio" ["q"] (spOfR C CP CF)
  Sc : MtD P w K mg base CX0 46 CP "scaled" ["self", "r"] (spPSc C CP)
  Oa : MtD P w K mg base (L2.CX P w) 49 CF "order_at" ["self", "p"] (spFor C CP CF Rf)
  Dg : MtD P w K mg base (L2.CX P w) 3 CF "degree" ["self"] (spFdg C CP CF Rf)
  Ld : MtD P w K mg base (L2.CX P w) 3 CF "leading" ["self"] (spFld C CP CF Rf)
  Ip : MtD P w K mg base CX0 2 CF "is_polynomial" ["self"] (spFp C CP CF)
  Ac : MtD P w K mg base CX0 45 CF "as_constant" ["self"] (spFc C CP CF)
abbrev nL : List Str := ["script", "state", "powers", "c", "above", "f", "chosen", "orders", "actual", "constant_v", "k"]
/-- all but the object at s stays -/
def Kp (s : Addr) (H H' : Hp) : Prop := ∀ b o, H b = some o → b ≠ s → H' b = some o
theorem Kp.trans {s : Addr} {H H1 H2 : Hp} (a : Kp s H H1) (b : Kp s H1 H2) : Kp s H H2 := fun c o e n => b c o (a c o e n) n
theorem Kp.of {s : Addr} {H H1 : Hp} (a : Same H H1) : Kp s H H1 := fun c o e _ => a c o e
theorem Kp.up {s : Addr} {H : Hp} {o : HO} : Kp s H (upd H s o) := fun c u e n => by
  rw [upd_ne n]
  exact e
theorem Kp.new {s D : Addr} {H : Hp} {o : HO} (h : H D = none) : Kp s H (upd H D o) := fun c u e n => by
  rw [upd_ne (ne_of_none e h)]
  exact e
theorem Stb.kp {β : Type} {F : FH β} (h : Stb F) {H H' : Hp} {s p : Addr} {b : β} {xs : List V} (e : H s = some (.lst xs)) (k : Kp s H H') (f : F H p b) : F H' p b := h H H' p b (fun c o ec nl => k c o ec fun z => by
  rw [z, e] at ec
  exact nl xs (Option.some.inj ec).symm) f
def FunQ (C CP CF : Addr) : FH (List Q2 × List Q2) := fun H f x => FunAt C CP CF H f x.1 x.2
theorem FunQ.stb (C CP CF : Addr) : Stb (FunQ C CP CF) := fun H H' p b s ⟨dx, pn, pd, e, h1, h2⟩ => ⟨dx, pn, pd, s _ _ e (by intro xs z; cases z), PolyAt.stb C CP H H' pn _ s h1, PolyAt.stb C CP H H' pd _ s h2⟩
theorem int_rng {r : Int} {n : Nat} (h0 : 0 ≤ r) (h : r < n) : ∃ k : Nat, r = (k : Int) ∧ k < n := ⟨r.toNat, by omega, by omega⟩
/-- the law's drawn numbers -/
def lstF (p : Nat → Int) : List Int := [p 0, p 1, p 2, p 3, p 4]
theorem lstF_range (p : Nat → Int) : (lstF p).map V.int = (List.range 5).map fun k => V.int (p k) := rfl
theorem lstF_at (p : Nat → Int) {k : Nat} (h : k < 5) : ((lstF p).map V.int)[k]? = some (V.int (p k)) := by
  match k, h with
  | 0, _ => rfl
  | 1, _ => rfl
  | 2, _ => rfl
  | 3, _ => rfl
  | 4, _ => rfl
theorem lstF_of {xs : List Int} (h : xs.length = 5) : ∃ p, xs = lstF p := by
  match xs, h with
  | [a, b, c, d, e], _ => exact ⟨fun k => [a, b, c, d, e].getD k 0, rfl⟩
theorem lstF_mem {p : Nat → Int} {m : Int} (h : m ∈ lstF p) : ∃ k, k < 5 ∧ m = p k := by
  simp only [lstF, List.mem_cons, List.not_mem_nil, or_false] at h
  rcases h with h | h | h | h | h
  · exact ⟨0, by decide, h⟩
  · exact ⟨1, by decide, h⟩
  · exact ⟨2, by decide, h⟩
  · exact ⟨3, by decide, h⟩
  · exact ⟨4, by decide, h⟩
theorem lstF_in (p : Nat → Int) {k : Nat} (h : k < 5) : p k ∈ lstF p := by
  match k, h with
  | 0, _ => simp [lstF]
  | 1, _ => simp [lstF]
  | 2, _ => simp [lstF]
  | 3, _ => simp [lstF]
  | 4, _ => simp [lstF]
theorem lstF_nat {c : Nat → Int} (h : ∀ k, k < 5 → 0 ≤ c k ∧ c k ≤ 1) : (lstF c).map V.int = (List.range 5).map fun k => V.int (((c k).toNat : Nat) : Int) := by
  have e : ∀ k, k < 5 → (((c k).toNat : Nat) : Int) = c k := fun k hk => Int.toNat_of_nonneg (h k hk).1
  show [V.int (c 0), V.int (c 1), V.int (c 2), V.int (c 3), V.int (c 4)] = [V.int (((c 0).toNat : Nat) : Int), V.int (((c 1).toNat : Nat) : Int), V.int (((c 2).toNat : Nat) : Int), V.int (((c 3).toNat : Nat) : Int), V.int (((c 4).toNat : Nat) : Int)]
  rw [e 0 (by decide), e 1 (by decide), e 2 (by decide), e 3 (by decide), e 4 (by decide)]
theorem opt_ex {la lb : List Rat} (h : lb ≠ []) : ∃ o : Option Nat, (∀ i, (∀ c ∈ lb, la.count c = i) → o = some i) ∧ ((¬ ∃ i, ∀ c ∈ lb, la.count c = i) → o = none) := by
  by_cases x : ∃ i, ∀ c ∈ lb, la.count c = i
  · obtain ⟨i, hi⟩ := x
    refine ⟨some i, fun j hj => ?_, fun n => absurd ⟨i, hi⟩ n⟩
    obtain ⟨c, hc⟩ := List.exists_mem_of_ne_nil lb h
    rw [← hi c hc, hj c hc]
  · exact ⟨none, fun i hi => absurd ⟨i, hi⟩ x, fun _ => rfl⟩
section
variable {P : Program} {w : World} {K : PySem.W.Frag} {mg : Str → Option Value} {base : Heap} {C Z CP CF Rf : Addr}
theorem scL : FnScope nL ["script"] (defScope sLaw) := ⟨rfl, rfl, rfl, by decide +kernel, rfl, by decide +kernel, by decide +kernel⟩
theorem ok_law {f fI fMF : Addr} {fd fdI fdMF : FuncData} {ds : List Value} (F : Fun K "law" "law" sLaw f fd) (T : TxL K mg) (TM : TxM mg) (R : TxR K mg C Z) (TP : TxP K mg CP) (TF : TxF K mg CF)
    (MR : MkR P w K mg base C Z fI fdI ds) (MF : MkF P w K mg base C Z CP CF fMF fdMF) (L : LawF P w K mg base C Z CP CF Rf) : FnOk P w K mg base CX0 60 f fd ["script"] (spLaw K) := by
  refine F.ok scL (fun vs H Q E h => ?_) (fun cdv A outer s H vs Q E hr h => ?_)
  · obtain ⟨a, ns, rfl, _⟩ := h
    rfl
  · obtain ⟨a, ns, rfl, hS, hbits, kq⟩ := h
    have hSt := hr.mono (show 41 ≤ 59 by decide)
    have hTk := hr.mono (show 41 ≤ 59 by decide)
    have hFc := hr.mono (show 48 ≤ 59 by decide)
    have h1 := hr.mono (show 1 ≤ 59 by decide)
    have h2 := hr.mono (show 2 ≤ 59 by decide)
    have h3 := hr.mono (show 3 ≤ 59 by decide)
    have hRe := hr.mono (show 50 ≤ 59 by decide)
    have hOr := hr.mono (show 51 ≤ 59 by decide)
    have hSc := hr.mono (show 46 ≤ 59 by decide)
    have hOa := hr.mono (show 49 ≤ 59 by decide)
    have hAc := hr.mono (show 45 ≤ 59 by decide)
    have hMF := hr.mono (show 49 ≤ 59 by decide)
    have hMR := hr.mono (show 42 ≤ 59 by decide)
    refine ⟨_, pss_cons (ps_set (i := 1) scL.nd rfl (Or.inr rfl) (pe_call L.Sta.fn hSt (by rfl) L.Sta.g L.Sta.kp L.Sta.b .nil pass0 (pa_cons (pv 0) pa_nil)))
      (pss_cons (ps_set (i := 2) scL.nd rfl (Or.inr rfl) (pe_op op_cat (pe_lc (own := [("k", 10)]) (g := gName 10) (tt := tYes) (te := (tOp (rI0 fun i j => .int (i - j)) (tCall spTake [] E0 (tCons (tVar 1) (tCons (tC (.int 5)) tNil))) (tC (.int 2)))) rfl scL.nd (pi_range1 (by rfl) T.range (pa_cons pe_int pa_nil)) (blkOk_by (N := nL) (sc := defScope sLaw) (by decide +kernel)) (fun _ _ _ _ _ => (pg_name (i := 10) scL.nd rfl (Or.inl rfl))) (fun _ _ _ _ _ => pts_nil) (fun _ _ _ _ _ => (pe_op op_sub (pe_call L.Tk.fn hTk (by rfl) L.Tk.g L.Tk.kp L.Tk.b .nil pass0 (pa_cons (pv 1) (pa_cons pe_int pa_nil))) pe_int))) (pe_lst (pa_cons pe_int pa_nil))))
      (C8.pss_cut (ps_if (pt_cmpR op_eq (pe_call L.Tk.fn hTk (by rfl) L.Tk.g L.Tk.kp L.Tk.b .nil pass0 (pa_cons (pv 1) (pa_cons pe_int pa_nil))) pe_int (nomark _))
        (pss_one (ps_set (i := 2) scL.nd rfl (Or.inr rfl) (pe_lst (pa_cons (pe_ix ix_list (pv 2) pe_int fun _ _ => rfl) (pa_cons (pe_ix ix_list (pv 2) pe_int fun _ _ => rfl) (pa_cons (pe_ix ix_list (pv 2) pe_int fun _ _ => rfl) (pa_cons (pe_ix ix_list (pv 2) pe_int fun _ _ => rfl) (pa_cons pe_int pa_nil))))))))
        pss_nil)
      (pss_cons (ps_set (i := 3) scL.nd rfl (Or.inl rfl) (pe_call L.Fr.fn hTk (by rfl) L.Fr.g L.Fr.kp L.Fr.b .nil pass0 (pa_cons (pe_ix ix_list (pe_lst (pa_cons pe_int (pa_cons (pe_un un_neg pe_int) (pa_cons pe_int (pa_cons pe_int (pa_cons (pe_un un_neg pe_int) pa_nil)))))) (pe_call L.Tk.fn hTk (by rfl) L.Tk.g L.Tk.kp L.Tk.b .nil pass0 (pa_cons (pv 1) (pa_cons pe_int pa_nil))) fun _ _ => rfl) (pa_cons (pe_op op_add pe_int (pe_call L.Tk.fn hTk (by rfl) L.Tk.g L.Tk.kp L.Tk.b .nil pass0 (pa_cons (pv 1) (pa_cons pe_int pa_nil)))) pa_nil))))
      (pss_cons (ps_set (i := 4) scL.nd rfl (Or.inl rfl) (pe_call L.Fc.fn hFc (by rfl) L.Fc.g L.Fc.kp L.Fc.b .nil pass0 (pa_cons (pe_lc (own := [("k", 10)]) (g := gName 10) (tt := tYes) rfl scL.nd (pi_list (pv 2)) (blkOk_by (N := nL) (sc := defScope sLaw) (by decide +kernel)) (fun _ _ _ _ _ => (pg_name (i := 10) scL.nd rfl (Or.inl rfl))) (fun _ _ _ _ _ => pts_nil) (fun _ _ _ _ _ => (pe_callB (call_max2 rfl) (by rfl) TM.max (by decide +kernel) (pa_cons pe_int (pa_cons (pv 10) pa_nil))))) pa_nil)))
      (pss_cons (ps_set (i := 5) scL.nd rfl (Or.inl rfl) (pe_make MF.cm MF.fn hMF (by rfl) TF.g MF.b .nil passL (pa_cons (pe_meth (pv 4) TP.cl L.Sc.m L.Sc.fn hSc L.Sc.b .nil pass0 (pa_cons (pe_make MR.cm MR.fn hMR (by rfl) R.mgC MR.b2 .nil passL (pa_cons (pe_ix ix_tup (pv 3) pe_int fun _ _ => rfl) (pa_cons (pe_ix ix_tup (pv 3) pe_int fun _ _ => rfl) pa_nil))) pa_nil)) (pa_cons (pe_call L.Fc.fn hFc (by rfl) L.Fc.g L.Fc.kp L.Fc.b .nil pass0 (pa_cons (pe_lc (own := [("k", 10)]) (g := gName 10) (tt := tYes) rfl scL.nd (pi_list (pv 2)) (blkOk_by (N := nL) (sc := defScope sLaw) (by decide +kernel)) (fun _ _ _ _ _ => (pg_name (i := 10) scL.nd rfl (Or.inl rfl))) (fun _ _ _ _ _ => pts_nil) (fun _ _ _ _ _ => (pe_callB (call_max2 rfl) (by rfl) TM.max (by decide +kernel) (pa_cons pe_int (pa_cons (pe_un un_neg (pv 10)) pa_nil))))) pa_nil)) pa_nil))))
      (pss_cons (ps_set (i := 6) scL.nd rfl (Or.inr rfl) (pe_op op_cat (pe_lc (own := [("k", 10)]) (g := gName 10) (tt := tYes) (te := (tCall spTake [] E0 (tCons (tVar 1) (tCons (tC (.int 2)) tNil)))) rfl scL.nd (pi_range1 (by rfl) T.range (pa_cons pe_int pa_nil)) (blkOk_by (N := nL) (sc := defScope sLaw) (by decide +kernel)) (fun _ _ _ _ _ => (pg_name (i := 10) scL.nd rfl (Or.inl rfl))) (fun _ _ _ _ _ => pts_nil) (fun _ _ _ _ _ => (pe_call L.Tk.fn hTk (by rfl) L.Tk.g L.Tk.kp L.Tk.b .nil pass0 (pa_cons (pv 1) (pa_cons pe_int pa_nil))))) (pe_lst (pa_cons (pe_callTy call_int1 (by rfl) T.int (by decide +kernel) (pa_cons (pe_cmpR op_eq (pe_call L.Tk.fn hTk (by rfl) L.Tk.g L.Tk.kp L.Tk.b .nil pass0 (pa_cons (pv 1) (pa_cons pe_int pa_nil))) pe_int (nomark _)) pa_nil)) pa_nil))))
      (C8.pss_cut (ps_if (pt_cmpR op_eq (pe_callB (cr_sum rfl) (by rfl) TP.sum (by decide +kernel) (pa_cons (pv 6) pa_nil)) pe_int (nomark _))
        (pss_one (ps_asg pe_int (pg_sub (pv 6) (pe_call L.Tk.fn hTk (by rfl) L.Tk.g L.Tk.kp L.Tk.b .nil pass0 (pa_cons (pv 1) (pa_cons pe_int pa_nil))) set_list)))
        pss_nil)
      (pss_cons (ps_setLc (i := 7) (own := [("k", 10)]) (g := gName 10) (tt := tTest (tOp rEq (tOp (rIxL K) (tVar 6) (tVar 10)) (tC (.int 1)))) (te := (tOp (rIxL K) (tVar 2) (tVar 10))) rfl scL.nd rfl rfl rfl (pi_range1 (by rfl) T.range (pa_cons pe_int pa_nil)) (blkOk_by (N := nL) (sc := defScope sLaw) (by decide +kernel)) (fun _ _ _ _ _ => (pg_name (i := 10) scL.nd rfl (Or.inl rfl))) (fun _ _ _ _ _ => (pts_one (pt_cmpR op_eq (pe_ix ix_list (pv 6) (pv 10) fun _ _ => rfl) pe_int (nomark _)))) (fun _ _ _ _ _ => (pe_ix ix_list (pv 2) (pv 10) fun _ _ => rfl)))
      (pss_cons (ps_set (i := 8) scL.nd rfl (Or.inl rfl) (pe_meth (E := E0) (pv 5) TF.cl L.Oa.m L.Oa.fn hOa L.Oa.b .nil passL (pa_cons (pe_call L.Fc.fn hFc (by rfl) L.Fc.g L.Fc.kp L.Fc.b .nil pass0 (pa_cons (pv 6) pa_nil)) pa_nil)))
      (C8.pss_cut (ps_if (pt_cmpR op_ne (pe_callB (cr_max rfl) (by rfl) TM.max (by decide +kernel) (pa_cons (pv 7) pa_nil)) (pe_callB (cr_min rfl) (by rfl) TM.min (by decide +kernel) (pa_cons (pv 7) pa_nil)) (nomark _))
        (pss_one (ps_if (pt_cmpR op_notN (pv 8) pe_non (nomark _))
        (pss_one (ps_ret pe_bl))
        pss_nil))
        (pss_one (ps_if (PW.pt (pw_or (pt_cmpR op_ne (pv 8) (pe_ix ix_list (pv 7) pe_int fun _ _ => rfl) (nomark _)) (pw_or1 (pt_val (pe_callB call_isi (by rfl) T.isinstance (by decide +kernel) (pa_cons (pv 8) (pa_cons (pe_bltn (v := .ty "bool") (by rfl) T.bool (by decide +kernel) rfl) pa_nil)))))))
        (pss_one (ps_ret pe_bl))
        pss_nil)))
      (pss_cons (ps_if (PW.pt (pw_or (pt_cmpR op_ne (pe_meth0 (E := E0) (pv 5) TF.cl L.Dg.m L.Dg.fn h3 L.Dg.b .nil passL) (pe_callB (cr_sum rfl) (by rfl) TP.sum (by decide +kernel) (pa_cons (pv 2) pa_nil)) (nomark _)) (pw_or1 (pt_cmpR (op_neD hr.units) (pe_call L.Pr.fn h1 (by rfl) L.Pr.g L.Pr.kp L.Pr.b .nil pass0 (pa_cons (pe_meth0 (E := E0) (pv 5) TF.cl L.Ld.m L.Ld.fn h3 L.Ld.b .nil passL) pa_nil)) (pv 3) (nomark _)))))
        (pss_one (ps_ret pe_bl))
        pss_nil)
      (pss_cons (ps_if (pt_cmpR op_ne (pe_meth0 (pv 5) TF.cl L.Ip.m L.Ip.fn h2 L.Ip.b .nil pass0) (pe_cmpR op_ge (pe_callB (cr_min rfl) (by rfl) TM.min (by decide +kernel) (pa_cons (pv 2) pa_nil)) pe_int (nomark _)) (nomark _))
        (pss_one (ps_ret pe_bl))
        pss_nil)
      (C8.pss_cut (ps_set (i := 9) scL.nd rfl (Or.inl rfl) (pe_meth0 (pv 5) TF.cl L.Ac.m L.Ac.fn hAc L.Ac.b .nil pass0))
      (C8.pss_cut (ps_if (PW.pt (pw_and (pt_cmpR op_eq (pe_callB (cr_max rfl) (by rfl) TM.max (by decide +kernel) (pa_cons (pv 2) pa_nil)) pe_int (nomark _)) (pw_and1 (pt_cmpR op_eq (pe_callB (cr_min rfl) (by rfl) TM.min (by decide +kernel) (pa_cons (pv 2) pa_nil)) pe_int (nomark _)))))
        (pss_one (ps_if (PW.pt (pw_or (pt_cmpR op_isN (pv 9) pe_non (nomark _)) (pw_or1 (pt_cmpR (op_neD hr.units) (pe_call L.Pr.fn h1 (by rfl) L.Pr.g L.Pr.kp L.Pr.b .nil pass0 (pa_cons (pv 9) pa_nil)) (pv 3) (nomark _)))))
        (pss_one (ps_ret pe_bl))
        pss_nil))
        (pss_one (ps_if (pt_cmpR op_notN (pv 9) pe_non (nomark _))
        (pss_one (ps_ret pe_bl))
        pss_nil)))
      (pss_one (ps_ret (pe_call L.Re.fn hRe (by rfl) L.Re.g L.Re.kp L.Re.b .nil pass0 (pa_cons (pe_call L.Or.fn hOr (by rfl) L.Or.g L.Or.kp L.Or.b .nil pass0 (pa_cons (pe_make MR.cm MR.fn hMR (by rfl) R.mgC MR.b1 MR.v1 passL (pa_cons pe_int pa_nil)) pa_nil)) (pa_cons (pe_call L.Fc.fn hFc (by rfl) L.Fc.g L.Fc.kp L.Fc.b .nil pass0 (pa_cons (pv 6) pa_nil)) pa_nil))))))))))))))))))), ?_⟩
    -- the state
    refine ⟨_, rfl, a, ns, rfl, hS, hbits, fun H1 s a1 b1 s1 hs1 st1 => ?_⟩
    have k1 : ∀ {H : Hp}, Kp s H H := fun b o e _ => e
    -- the exponents
    refine ⟨4, rfl, by decide, by decide, fun D hD => ?_⟩
    refine lc_range (lo := 0) (n := 4) (fun i H2 => ∃ (a b : Int) (xs : List Int), St H2 s a b ∧ Kp s H1 H2 ∧ D ≠ s ∧ H2 D = some (.lst (xs.map V.int)) ∧ xs.length = i ∧ ∀ x ∈ xs, -2 ≤ x ∧ x ≤ 2) ⟨a1, b1, [], ⟨by rw [upd_ne (ne_of_none st1.1 hD)]; exact st1.1, st1.2⟩, Kp.new hD, (fun e => by rw [e, st1.1] at hD; cases hD), upd_same, rfl, fun x h => by cases h⟩ ?_ ?_
    · rintro i H2 hi ⟨a2, b2, xs, st2, kp2, Ds, e2, len2, hx⟩
      refine ⟨rfl, _, rfl, s, _, _, _, rfl, st2, by decide, fun r a3 b3 r0 r1 a0 b0 b9 => ?_⟩
      have st3 : St (upd H2 s (.lst [.int a3, .int b3])) s a3 b3 := ⟨upd_same, a0, b0, b9⟩
      refine ⟨_, _, rfl, rfl, xs.map V.int, by rw [upd_ne Ds]; exact e2, by rw [List.length_map, len2]; exact Nat.lt_of_lt_of_le (show i < 4 from hi) (by decide), a3, b3, xs ++ [r - 2], ?_⟩
      refine ⟨⟨by rw [upd_ne (Ne.symm Ds)]; exact st3.1, st3.2⟩, fun c o e n => ?_, Ds, by rw [upd_same, List.map_append]; rfl, by rw [List.length_append, len2]; rfl, fun x hx2 => ?_⟩
      · rw [upd_ne (ne_of_none e hD), upd_ne n]
        exact kp2 _ _ e n
      · rcases List.mem_append.mp hx2 with h | h
        · exact hx x h
        · rw [List.mem_singleton.mp h]
          have : r < 5 := r1
          omega
    rintro H2 ⟨a2, b2, xs, st2, kp2, Ds, e2, len2, hx⟩
    refine ⟨(by show 1 ≤ sizeLine; decide), fun l0 hl0 => ?_⟩
    have t2 := same_upd (o := .lst [V.int 0]) hl0
    refine ⟨_, _, _, _, rfl, rfl, t2 _ _ e2, upd_same, by rw [List.length_map, len2]; decide, fun pl hpl => ?_⟩
    obtain ⟨p, hp⟩ : ∃ p, xs ++ [0] = lstF p := lstF_of (by rw [List.length_append, len2]; rfl)
    have hp2 : ∀ k, k < 5 → -2 ≤ p k ∧ p k ≤ 2 := fun k hk => by
      have := lstF_in p hk
      rw [← hp] at this
      rcases List.mem_append.mp this with h | h
      · exact hx _ h
      · rw [List.mem_singleton.mp h]
        decide
    have hp4 : p 4 = 0 := by
      have : (xs ++ [(0 : Int)])[4]? = some 0 := by rw [List.getElem?_append_right (by omega), len2]; rfl
      rw [hp] at this
      exact Option.some.inj this
    rw [show xs.map V.int ++ [V.int 0] = (lstF p).map V.int by rw [← hp, List.map_append]; rfl]
    have t3 := same_upd (o := .lst ((lstF p).map V.int)) hpl
    have st3 : St (upd (upd H2 l0 (.lst [V.int 0])) pl (.lst ((lstF p).map V.int))) s a2 b2 := ⟨t3 _ _ (t2 _ _ st2.1), st2.2⟩
    have kp3 : Kp s H1 (upd (upd H2 l0 (.lst [V.int 0])) pl (.lst ((lstF p).map V.int))) := (kp2.trans (Kp.of t2)).trans (Kp.of t3)
    have e3 : (upd (upd H2 l0 (.lst [V.int 0])) pl (.lst ((lstF p).map V.int))) pl = some (.lst ((lstF p).map V.int)) := upd_same
    have ps3 : pl ≠ s := fun z => by
      have := t2 _ _ st2.1
      rw [← z, hpl] at this
      cases this
    generalize upd (upd H2 l0 (.lst [V.int 0])) pl (.lst ((lstF p).map V.int)) = H3 at st3 kp3 e3 ⊢
    clear e2 len2 hx hp t2 t3 hpl hl0 st2
    refine ⟨fun σ' Ha => ∃ (pl : Addr) (p : Nat → Int) (a3 b3 : Int), σ' = [some (.ref a), some (.ref s), some (.ref pl), none, none, none, none, none, none, none, none] ∧ St Ha s a3 b3 ∧ pl ≠ s ∧ Ha pl = some (.lst ((lstF p).map V.int)) ∧ (∀ k, k < 5 → -2 ≤ p k ∧ p k ≤ 2) ∧ p 4 = 0, ?_, ?_⟩
    · refine ⟨_, rfl, s, _, _, _, rfl, st3, by decide, fun r a4 b4 r0 r1 a0 b0 b9 => ?_⟩
      have st4 : St (upd H3 s (.lst [.int a4, .int b4])) s a4 b4 := ⟨upd_same, a0, b0, b9⟩
      have e4 : (upd H3 s (.lst [.int a4, .int b4])) pl = some (.lst ((lstF p).map V.int)) := by rw [upd_ne ps3]; exact e3
      refine ⟨rfl, _, rfl, ite2 (fun c => ?_) (fun c => ?_)⟩
      · refine ⟨_, rfl, pl, _, _, _, rfl, rfl, SqL.of e4, atI_of (k := 0) (lstF_at p (by decide)), ?_⟩
        refine ⟨_, rfl, pl, _, _, _, rfl, rfl, SqL.of e4, atI_of (k := 0) (lstF_at p (by decide)), ?_⟩
        refine ⟨_, rfl, pl, _, _, _, rfl, rfl, SqL.of e4, atI_of (k := 1) (lstF_at p (by decide)), ?_⟩
        refine ⟨_, rfl, pl, _, _, _, rfl, rfl, SqL.of e4, atI_of (k := 0) (lstF_at p (by decide)), ?_⟩
        refine ⟨(by show 5 ≤ sizeLine; decide), fun l hl => ?_⟩
        refine ⟨l, fun k => [p 0, p 0, p 1, p 0, 0].getD k 0, a4, b4, rfl, ⟨by rw [upd_ne (ne_of_none st4.1 hl)]; exact st4.1, st4.2⟩, (fun z => by rw [z, st4.1] at hl; cases hl), upd_same, fun k hk => ?_, rfl⟩
        have h0 := hp2 0 (by decide)
        have h1 := hp2 1 (by decide)
        match k, hk with
        | 0, _ => exact h0
        | 1, _ => exact h0
        | 2, _ => exact h1
        | 3, _ => exact h0
        | 4, _ => exact ⟨show (-2 : Int) ≤ 0 by decide, show (0 : Int) ≤ 2 by decide⟩
      · exact ⟨pl, p, a4, b4, rfl, st4, ps3, e4, hp2, hp4⟩
    clear st3 kp3 e3 ps3 hp4 hp2 p pl H3
    rintro σ' H3 ⟨pl, p, a3, b3, rfl, st3, ps3, e3, hp2, hp4⟩
    -- the number
    refine ⟨_, rfl, _, rfl, (by show 5 ≤ sizeLine; decide), fun lc hlc => ?_⟩
    have t4 := same_upd (o := .lst [V.int 1, V.int (-1), V.int 2, V.int 3, V.int (-5)]) hlc
    have st4 : St (upd H3 lc (.lst [V.int 1, V.int (-1), V.int 2, V.int 3, V.int (-5)])) s a3 b3 := ⟨t4 _ _ st3.1, st3.2⟩
    have lcs : lc ≠ s := fun z => by rw [z, st3.1] at hlc; cases hlc
    have kp4 : Kp s H3 (upd H3 lc (.lst [V.int 1, V.int (-1), V.int 2, V.int 3, V.int (-5)])) := Kp.of t4
    have e4 : (upd H3 lc (.lst [V.int 1, V.int (-1), V.int 2, V.int 3, V.int (-5)])) lc = some (.lst [V.int 1, V.int (-1), V.int 2, V.int 3, V.int (-5)]) := upd_same
    generalize upd H3 lc (.lst [V.int 1, V.int (-1), V.int 2, V.int 3, V.int (-5)]) = H4 at st4 kp4 e4 ⊢
    clear t4 hlc
    refine ⟨_, rfl, s, _, _, _, rfl, st4, by decide, fun r a5 b5 r0 r1 a0 b0 b9 => ?_⟩
    have st5 : St (upd H4 s (.lst [.int a5, .int b5])) s a5 b5 := ⟨upd_same, a0, b0, b9⟩
    have kp5 : Kp s H3 (upd H4 s (.lst [.int a5, .int b5])) := kp4.trans Kp.up
    have e5 : (upd H4 s (.lst [.int a5, .int b5])) lc = some (.lst [V.int 1, V.int (-1), V.int 2, V.int 3, V.int (-5)]) := by rw [upd_ne lcs]; exact e4
    generalize upd H4 s (.lst [.int a5, .int b5]) = H5 at st5 kp5 e5 ⊢
    clear st4 kp4 e4 H4
    obtain ⟨rk, rfl, hrk⟩ := int_rng r0 r1
    obtain ⟨m, hm, m0, m5⟩ : ∃ m : Int, ([V.int 1, V.int (-1), V.int 2, V.int 3, V.int (-5)] : List V)[rk]? = some (V.int m) ∧ m ≠ 0 ∧ m.natAbs ≤ 5 := by
      match rk, hrk with
      | 0, _ => exact ⟨1, rfl, by decide, by decide⟩
      | 1, _ => exact ⟨-1, rfl, by decide, by decide⟩
      | 2, _ => exact ⟨2, rfl, by decide, by decide⟩
      | 3, _ => exact ⟨3, rfl, by decide, by decide⟩
      | 4, _ => exact ⟨-5, rfl, by decide, by decide⟩
    refine ⟨lc, _, _, _, rfl, rfl, SqL.of e5, atI_of hm, ?_⟩
    refine ⟨_, rfl, s, _, _, _, rfl, st5, by decide, fun r a6 b6 r0' r1' a0 b0 b9 => ?_⟩
    have st6 : St (upd H5 s (.lst [.int a6, .int b6])) s a6 b6 := ⟨upd_same, a0, b0, b9⟩
    have kp6 : Kp s H3 (upd H5 s (.lst [.int a6, .int b6])) := kp5.trans Kp.up
    generalize upd H5 s (.lst [.int a6, .int b6]) = H6 at st6 kp6 ⊢
    clear st5 kp5 e5 H5 hm lcs
    have d3 : r < 3 := r1'
    refine ⟨_, _, rfl, rfl, _, _, rfl, by omega, fun H7 tc s7 htc0 htc => ?_⟩
    obtain ⟨d, hd⟩ : ∃ d, d = 1 + r := ⟨_, rfl⟩
    rw [← hd] at htc
    have dp : 0 < d ∧ d ≤ 3 := by omega
    have kp7 : Kp s H3 H7 := kp6.trans (Kp.of s7)
    have st7 : St H7 s a6 b6 := ⟨s7 _ _ st6.1, st6.2⟩
    have e7 := kp7 _ _ e3 ps3
    have loc : Lo (mkq m d) := lo_mk (by omega)
    have cne : rv (mkq m d) ≠ 0 := by
      rw [rv_mk (by omega)]
      have h1 := cst_ne m0
      have h2 := cst_ne (show d ≠ 0 by omega)
      intro z
      apply h1
      grind
    have cb : Bq 3 (mkq m d) := bq_mk (PySem.intBits_le_of_natAbs (y := 7) (by show m.natAbs ≤ 7; omega) (by decide)) (PySem.intBits_le_of_natAbs (y := 7) (by show d.natAbs ≤ 7; omega) (by decide))
    have htc : H7 tc = some (.tup [.int (mkq m d).1, .int (mkq m d).2]) := htc
    generalize mkq m d = cq at loc cne cb htc
    clear st6 kp6 s7 htc0 hd dp d3 r0' r1' H6 m0 m5 kp7 st3 e3
    -- the factors above and below
    have mx : ∀ z : Int, (if z > 0 then z else 0) = ((z.toNat : Nat) : Int) := fun z => by split <;> omega
    refine ⟨_, rfl, pl, rfl, ⟨_, SqL.of e7⟩, fun D hD => ?_⟩
    refine lc_list (K := K) (a := pl) (xs := (lstF p).map V.int) (fun i H2 => ColI D H7 H2 (((lstF p).map fun z => ((z.toNat : Nat) : Int)).take i)) (ColI.start hD) (fun i H2 _ z => SqL.of (z.s _ _ e7)) ?_ ?_
    · rintro i x H2 hx z
      obtain ⟨v, hv, rfl⟩ := int_of hx
      refine ⟨rfl, _, rfl, _, _, rfl, ?_⟩
      rw [mx v, take_snoc (x := ((v.toNat : Nat) : Int)) (by rw [List.getElem?_map, hv]; rfl)]
      exact z.push hD same_rfl (by rw [← List.map_take, List.length_map, List.length_take]; show min i 5 ≤ 1000; omega)
    rintro H8 z8
    have s8 := z8.s
    have e8 := z8.at_
    rw [List.length_map, show (lstF p).length = 5 from rfl, List.take_of_length_le (by rw [List.length_map]; exact Nat.le_refl 5)] at e8
    refine ⟨D, fun k => (p k).toNat, rfl, e8, fun k hk => by have := hp2 k hk; show (p k).toNat ≤ 2; omega, fun H9 pa xs s9 hpa lx fx => ?_⟩
    have s79 := s8.trans s9
    clear s8 e8 z8
    have la10 : (castL (flN (fun k => (p k).toNat) 5)).length ≤ 10 := by
      rw [fl_len]
      have h0 := hp2 0 (by decide)
      have h1 := hp2 1 (by decide)
      have h2 := hp2 2 (by decide)
      have h3 := hp2 3 (by decide)
      have h4 := hp2 4 (by decide)
      show (p 0).toNat + (p 1).toNat + (p 2).toNat + (p 3).toNat + (p 4).toNat ≤ 10
      omega
    have zx := pL_psz lx hpa.trim fx la10 (fl_int _)
    have lxl := pL_len (l := castL (flN (fun k => (p k).toNat) 5)) hpa.trim lx (k := 1) (by decide) fun j => by rw [fx]; grind
    -- the function
    have e9 := s79 _ _ e7
    have htc9 := s79 _ _ htc
    obtain ⟨dxa, _, _, ea9, _⟩ := id hpa
    refine ⟨_, rfl, pa, dxa, _, rfl, ea9, by rfl, _, rfl, tc, _, _, _, rfl, rfl, SqT.of htc9, atI_of (k := 0) rfl, _, rfl, tc, _, _, _, rfl, rfl, SqT.of htc9, atI_of (k := 1) rfl, ?_⟩
    intro u du nu ndu neu
    refine ⟨u, du, cq.1, cq.2, rfl, upd_same, fun z => absurd z loc.ne, fun _ H10 hu kk10 => ⟨rfl, ?_⟩⟩
    have hu : RatQ C H10 u (mkq cq.1 cq.2) := hu
    rw [mkq_lo loc] at hu
    have s910 : Same H9 H10 := Same.made nu ndu kk10
    clear kk10 nu ndu neu
    refine ⟨pa, u, xs, cq, 26, 3, rfl, (PolyAt.stb C CP).same s910 hpa, hu, loc, zx, cb.1, cb.2, by decide, fun H11 pn as s11 hpn zn ln fn => ?_⟩
    have s711 := s79.trans (s910.trans s11)
    have fa : ∀ j, rowF as j = rv cq * pL (castL (flN (fun k => (p k).toNat) 5)) j := fun j => by
      rw [fn j, fx]
      grind
    have e11 := s711 _ _ e7
    refine ⟨_, rfl, pl, rfl, ⟨_, SqL.of e11⟩, fun D2 hD2 => ?_⟩
    refine lc_list (K := K) (a := pl) (xs := (lstF p).map V.int) (fun i H2 => ColI D2 H11 H2 (((lstF p).map fun z => (((-z).toNat : Nat) : Int)).take i)) (ColI.start hD2) (fun i H2 _ z => SqL.of (z.s _ _ e11)) ?_ ?_
    · rintro i x H2 hx z
      obtain ⟨v, hv, rfl⟩ := int_of hx
      refine ⟨rfl, _, rfl, _, rfl, _, _, rfl, ?_⟩
      rw [mx (-v), take_snoc (x := (((-v).toNat : Nat) : Int)) (by rw [List.getElem?_map, hv]; rfl)]
      exact z.push hD2 same_rfl (by rw [← List.map_take, List.length_map, List.length_take]; show min i 5 ≤ 1000; omega)
    rintro H12 z12
    have s12 := z12.s
    have e12 := z12.at_
    rw [List.length_map, show (lstF p).length = 5 from rfl, List.take_of_length_le (by rw [List.length_map]; exact Nat.le_refl 5)] at e12
    refine ⟨D2, fun k => (-p k).toNat, rfl, e12, fun k hk => by have := hp2 k hk; show (-p k).toNat ≤ 2; omega, fun H13 pd bs s13 hpd lb fb => ?_⟩
    have lb10 : (castL (flN (fun k => (-p k).toNat) 5)).length ≤ 10 := by
      rw [fl_len]
      have h0 := hp2 0 (by decide)
      have h1 := hp2 1 (by decide)
      have h2 := hp2 2 (by decide)
      have h3 := hp2 3 (by decide)
      have h4 := hp2 4 (by decide)
      show (-p 0).toNat + (-p 1).toNat + (-p 2).toNat + (-p 3).toNat + (-p 4).toNat ≤ 10
      omega
    have zb := pL_psz lb hpd.trim fb lb10 (fl_int _)
    have lbl := pL_len (l := castL (flN (fun k => (-p k).toNat) 5)) hpd.trim lb (k := 1) (by decide) fun j => by rw [fb]; grind
    have las := pL_len hpn.trim zn.1 cne fa
    have nb : bs ≠ [] := fun e => by rw [e] at lbl; cases lbl
    have s1113 := s12.trans s13
    have hpn13 := (PolyAt.stb C CP).same s1113 hpn
    have s713 := s711.trans s1113
    clear s12 s13 z12 e12 hD2 s711 s11 s910 hD e9 htc9 hu zx lxl ln fn
    intro fA dF nF ndF neF
    have sF : Same H13 (upd (upd H13 dF (.own fA)) fA (.ins CF dF [])) := by
      have nx2 : (upd H13 dF (.own fA)) fA = none := by
        rw [upd_ne (Ne.symm neF)]
        exact nF
      exact (same_upd ndF).trans (same_upd nx2)
    refine ⟨fA, dF, pn, pd, as, bs, 30, rfl, upd_same, (PolyAt.stb C CP).same sF hpn13, (PolyAt.stb C CP).same sF hpd, psz_mono zn (by decide), psz_mono zb (by decide), ⟨by omega, by omega, ?_, by omega⟩, fun e => absurd e nb, fun _ H14 nn dd hF kk14 RF zn2 zd2 => ⟨rfl, ?_⟩⟩
    · have := Nat.mul_le_mul_right (30 + 8) (show as.length + bs.length ≤ 22 by omega)
      omega
    have s14 : Same H13 H14 := Same.made nF ndF kk14
    have coz : ∀ c ∈ castL (flN (fun k => (-p k).toNat) 5), (castL (flN (fun k => (p k).toNat) 5)).count c = 0 := fun c hc => by
      obtain ⟨k, hk, rfl, h0⟩ := fl_mem hc
      rw [fl_count _ hk]
      have h0 : 0 < (-p k).toNat := h0
      show (p k).toNat = 0
      omega
    have gcab : Gc (rowF as) (rowF bs) one1 := by
      rw [show rowF as = fun j => rv cq * pL (castL (flN (fun k => (p k).toNat) 5)) j from funext fa, fb]
      exact pL_gc cne coz
    have hFx := hF
    obtain ⟨dxf, qn, qd, ef, hqn, hqd⟩ := hFx
    obtain ⟨en, ed⟩ := rf_uniq hqn.trim zn2.1 hqd.trim zd2.1 hpn.trim zn.1 hpd.trim zb.1 RF.m ⟨(castL (flN (fun k => (-p k).toNat) 5)).length, lbl, by rw [fb]; exact pL_top _⟩ RF.g gcab RF.x
    rw [en, ed] at hF
    clear kk14 nF ndF neF sF zn2 zd2 RF gcab en hqn hqd ef
    have st14 : St H14 s a6 b6 := ⟨s14 _ _ (s713 _ _ st7.1), st7.2⟩
    have e14 := s14 _ _ (s713 _ _ e7)
    have htc14 := s14 _ _ (s713 _ _ htc)
    have tas := hpn.trim
    have tbs := hpd.trim
    clear st7 e7 htc hpn hpn13 s1113 s713 s79 s14 hpd hpa ea9 ed nn dd
    -- what is chosen
    refine ⟨4, rfl, by decide, by decide, fun D hD => ?_⟩
    refine lc_range (lo := 0) (n := 4) (fun i H2 => ∃ (a b : Int) (xs : List Int), St H2 s a b ∧ Kp s H14 H2 ∧ D ≠ s ∧ H2 D = some (.lst (xs.map V.int)) ∧ xs.length = i ∧ ∀ x ∈ xs, 0 ≤ x ∧ x ≤ 1) ⟨a6, b6, [], ⟨by rw [upd_ne (ne_of_none st14.1 hD)]; exact st14.1, st14.2⟩, Kp.new hD, (fun e => by rw [e, st14.1] at hD; cases hD), upd_same, rfl, fun x h => by cases h⟩ ?_ ?_
    · rintro i H2 hi ⟨a2, b2, xs, st2, kp2, Ds, e2, len2, hx⟩
      refine ⟨rfl, _, rfl, s, _, _, _, rfl, st2, by decide, fun r a3 b3 r0 r1 a0 b0 b9 => ?_⟩
      have st3 : St (upd H2 s (.lst [.int a3, .int b3])) s a3 b3 := ⟨upd_same, a0, b0, b9⟩
      refine ⟨xs.map V.int, by rw [upd_ne Ds]; exact e2, by rw [List.length_map, len2]; exact Nat.lt_of_lt_of_le (show i < 4 from hi) (by decide), a3, b3, xs ++ [r], ?_⟩
      refine ⟨⟨by rw [upd_ne (Ne.symm Ds)]; exact st3.1, st3.2⟩, fun c o e n => ?_, Ds, by rw [upd_same, List.map_append]; rfl, by rw [List.length_append, len2]; rfl, fun x hx2 => ?_⟩
      · rw [upd_ne (ne_of_none e hD), upd_ne n]
        exact kp2 _ _ e n
      · rcases List.mem_append.mp hx2 with h | h
        · exact hx x h
        · rw [List.mem_singleton.mp h]
          have : r < 2 := r1
          omega
    rintro H2 ⟨a2, b2, xs, st2, kp2, Ds, e2, len2, hx⟩
    refine ⟨_, rfl, s, _, _, _, rfl, st2, by decide, fun r a3 b3 r0' r1' a0 b0 b9 => ?_⟩
    have st3 : St (upd H2 s (.lst [.int a3, .int b3])) s a3 b3 := ⟨upd_same, a0, b0, b9⟩
    have kp3 : Kp s H14 (upd H2 s (.lst [.int a3, .int b3])) := kp2.trans Kp.up
    have e3 : (upd H2 s (.lst [.int a3, .int b3])) D = some (.lst (xs.map V.int)) := by rw [upd_ne Ds]; exact e2
    generalize upd H2 s (.lst [.int a3, .int b3]) = H3 at st3 kp3 e3 ⊢
    refine ⟨rfl, .inr ⟨_, rfl, (by show 1 ≤ sizeLine; decide), fun l0 hl0 => ?_⟩⟩
    obtain ⟨v, hv, v0, v1⟩ : ∃ v : Int, v = (if decide (V.int r = V.int 0) = true then 1 else 0) ∧ 0 ≤ v ∧ v ≤ 1 := ⟨_, rfl, by split <;> decide, by split <;> decide⟩
    rw [← hv]
    have t2 := same_upd (o := .lst [V.int v]) hl0
    refine ⟨_, _, _, _, rfl, rfl, t2 _ _ e3, upd_same, by rw [List.length_map, len2]; show 4 + 1 ≤ sizeLine; decide, fun cl hcl => ?_⟩
    obtain ⟨c, hc⟩ : ∃ c, xs ++ [v] = lstF c := lstF_of (by rw [List.length_append, len2]; rfl)
    have hc2 : ∀ k, k < 5 → 0 ≤ c k ∧ c k ≤ 1 := fun k hk => by
      have := lstF_in c hk
      rw [← hc] at this
      rcases List.mem_append.mp this with h | h
      · exact hx _ h
      · rw [List.mem_singleton.mp h]
        exact ⟨v0, v1⟩
    rw [show xs.map V.int ++ [V.int v] = (lstF c).map V.int by rw [← hc, List.map_append]; rfl]
    have t3 := same_upd (o := .lst ((lstF c).map V.int)) hcl
    have st4 : St (upd (upd H3 l0 (.lst [V.int v])) cl (.lst ((lstF c).map V.int))) s a3 b3 := ⟨t3 _ _ (t2 _ _ st3.1), st3.2⟩
    have kp4 : Kp s H14 (upd (upd H3 l0 (.lst [V.int v])) cl (.lst ((lstF c).map V.int))) := (kp3.trans (Kp.of t2)).trans (Kp.of t3)
    have e4 : (upd (upd H3 l0 (.lst [V.int v])) cl (.lst ((lstF c).map V.int))) cl = some (.lst ((lstF c).map V.int)) := upd_same
    have cs4 : cl ≠ s := fun z => by
      have := t2 _ _ st3.1
      rw [← z, hcl] at this
      cases this
    have cp4 : cl ≠ pl := fun z => by
      have := t2 _ _ (kp3 _ _ e14 ps3)
      rw [← z, hcl] at this
      cases this
    generalize upd (upd H3 l0 (.lst [V.int v])) cl (.lst ((lstF c).map V.int)) = H4 at st4 kp4 e4 ⊢
    clear e2 len2 hx hc t2 t3 hcl hl0 st2 st3 kp2 kp3 e3 hv v0 v1 Ds hD
    have f4 : FunQ C CP CF H4 fA (as, bs) := Stb.kp (FunQ.stb C CP CF) st14.1 kp4 hF
    have p4 := kp4 _ _ e14 ps3
    have c4 := kp4 _ _ htc14 fun z => by rw [z, st14.1] at htc14; cases htc14
    refine ⟨fun σ' Ha => ∃ (c : Nat → Int) (a3 b3 : Int), σ' = [some (.ref a), some (.ref s), some (.ref pl), some (.ref tc), some (.ref pa), some (.ref fA), some (.ref cl), none, none, none, none] ∧ FunAt C CP CF Ha fA as bs ∧ Ha pl = some (.lst ((lstF p).map V.int)) ∧ Ha cl = some (.lst ((lstF c).map V.int)) ∧ PairQ Ha tc cq ∧ (∀ k, k < 5 → 0 ≤ c k ∧ c k ≤ 1) ∧ ∃ k, k < 5 ∧ c k = 1, ?_, ?_⟩
    · refine ⟨_, rfl, cl, lstF c, rfl, SqL.of e4, rfl, _, rfl, ite2 (fun z => ?_) (fun z => ?_)⟩
      · refine ⟨_, rfl, _, rfl, s, _, _, _, rfl, st4, by decide, fun r a4 b4 r0 r1 a0 b0 b9 => ?_⟩
        obtain ⟨rk2, rfl, hrk2⟩ := int_rng r0 r1
        have e5 : (upd H4 s (.lst [.int a4, .int b4])) cl = some (.lst ((lstF c).map V.int)) := by rw [upd_ne cs4]; exact e4
        refine ⟨cl, _, _, rk2, rfl, rfl, e5, ?_, ?_⟩
        · unfold ixN
          rw [if_pos (by omega), if_pos (by show (rk2 : Int) < (((lstF c).map V.int).length : Nat); rw [List.length_map]; show (rk2 : Int) < 5; omega)]
          all_goals rfl
        have f5 : FunQ C CP CF (upd (upd H4 s (.lst [.int a4, .int b4])) cl (.lst (((lstF c).map V.int).set rk2 (.int 1)))) fA (as, bs) := Stb.kp (FunQ.stb C CP CF) e5 Kp.up (Stb.kp (FunQ.stb C CP CF) st4.1 Kp.up f4)
        have ce : ((lstF c).map V.int).set rk2 (.int 1) = (lstF fun k => if k = rk2 then 1 else c k).map V.int := by
          match rk2, hrk2 with
          | 0, _ => rfl
          | 1, _ => rfl
          | 2, _ => rfl
          | 3, _ => rfl
          | 4, _ => rfl
        refine ⟨fun k => if k = rk2 then 1 else c k, a4, b4, rfl, f5, ?_, ?_, ?_, fun k hk => ?_, rk2, hrk2, if_pos rfl⟩
        · rw [upd_ne (Ne.symm cp4), upd_ne ps3]
          exact p4
        · rw [upd_same, ce]
        · exact (PairQ.stb.kp e5 Kp.up (PairQ.stb.kp st4.1 Kp.up c4))
        · have := hc2 k hk
          dsimp only
          split
          · decide
          · exact this
      · refine ⟨c, a3, b3, rfl, f4, p4, e4, c4, hc2, Classical.byContradiction fun h => z ?_⟩
        have hz : ∀ k, k < 5 → c k = 0 := fun k hk => by
          have := hc2 k hk
          have : c k ≠ 1 := fun e => h ⟨k, hk, e⟩
          omega
        have h0 := hz 0 (by decide)
        have h1 := hz 1 (by decide)
        have h2 := hz 2 (by decide)
        have h3 := hz 3 (by decide)
        have h4 := hz 4 (by decide)
        refine decide_eq_true ?_
        show V.int (lstF c).sum = V.int 0
        unfold lstF
        rw [h0, h1, h2, h3, h4]
        rfl
    clear f4 p4 c4 st4 kp4 e4 hc2 cs4 hF e14 htc14 st14 c
    rintro σ' H5 ⟨c, a3, b3, rfl, hF, e5, ec5, ht5, hc2, kk, hkk, ck⟩
    -- the orders
    refine ⟨5, rfl, by decide, by decide, fun D hD => ?_⟩
    refine lc_range (lo := 0) (n := 5) (fun i H2 => ∃ os : List Int, ColI D H5 H2 os ∧ os.length ≤ i ∧ (∀ o ∈ os, ∃ k, k < 5 ∧ c k = 1 ∧ o = p k) ∧ ∀ k, k < i → c k = 1 → p k ∈ os) ⟨[], ColI.start hD, Nat.le_refl _, (fun o h => by cases h), fun k h => absurd h (Nat.not_lt_zero k)⟩ ?_ ?_
    · rintro i H2 hi ⟨os, z, lo1, ho1, ho2⟩
      refine ⟨rfl, _, rfl, _, rfl, cl, _, _, _, rfl, rfl, SqL.of (z.s _ _ ec5), (by rw [Int.zero_add]; exact atI_of (lstF_at c hi)), rfl, _, rfl, ?_⟩
      refine ite2 (fun w => ?_) (fun w => ?_)
      · have w : c i = 1 := V.int.inj (of_decide_eq_true w)
        obtain ⟨acc, ea, la, c9⟩ := z.push (n := p i) hD same_rfl (by omega)
        refine ⟨_, rfl, _, rfl, pl, _, _, _, rfl, rfl, SqL.of (z.s _ _ e5), (by rw [Int.zero_add]; exact atI_of (lstF_at p hi)), acc, ea, la, os ++ [p i], c9, by rw [List.length_append]; show os.length + 1 ≤ i + 1; omega, fun o ho => ?_, fun k hk h1 => ?_⟩
        · rcases List.mem_append.mp ho with h | h
          · exact ho1 o h
          · exact ⟨i, hi, w, List.mem_singleton.mp h⟩
        · rcases Nat.lt_or_eq_of_le (show k ≤ i by omega) with h | h
          · exact List.mem_append.mpr (.inl (ho2 k h h1))
          · rw [h]
            exact List.mem_append.mpr (.inr (List.mem_singleton.mpr rfl))
      · have w : c i ≠ 1 := fun e => w (decide_eq_true (by rw [e]))
        refine ⟨os, z, by omega, ho1, fun k hk h1 => ?_⟩
        rcases Nat.lt_or_eq_of_le (show k ≤ i by omega) with h | h
        · exact ho2 k h h1
        · rw [h] at h1
          exact absurd h1 w
    rintro H6 ⟨os, z6, lo1, ho1, ho2⟩
    have s6 := z6.s
    have eD := z6.at_
    have osp : 0 < os.length := List.length_pos_of_mem (ho2 kk hkk ck)
    have hF6 := hF.same s6
    have e6 := s6 _ _ e5
    have ec6 := s6 _ _ ec5
    have ht6 := PairQ.stb.same s6 ht5
    clear z6 s6 hD hF e5 ec5 ht5
    -- the order at the chosen numbers
    obtain ⟨dF, pn, pd, ef, _, _⟩ := id hF6
    have nol : ∀ m : Str, ¬ m = "den" → ¬ m = "num" → (rff pn pd).lookup m = none := fun m h1 h2 => rff_no _ _ h1 h2
    refine ⟨_, rfl, fA, dF, _, rfl, ef, nol _ (by decide +kernel) (by decide +kernel), _, rfl, cl, fun k => (c k).toNat, rfl, by rw [← lstF_nat hc2]; exact ec6, fun k hk => by have := hc2 k hk; show (c k).toNat ≤ 2; omega, fun H7 pc cs s7 hpc lcs fcs => ?_⟩
    have hF7 := hF6.same s7
    have na : as ≠ [] := fun e => by rw [e] at las; cases las
    have cnd := fl_nodup (a := fun k => (c k).toNat) fun k hk => by have := hc2 k hk; show (c k).toNat ≤ 1; omega
    have c5 : (castL (flN (fun k => (c k).toNat) 5)).length ≤ 5 := by
      rw [fl_len]
      have h0 := hc2 0 (by decide)
      have h1 := hc2 1 (by decide)
      have h2 := hc2 2 (by decide)
      have h3 := hc2 3 (by decide)
      have h4 := hc2 4 (by decide)
      show (c 0).toNat + (c 1).toNat + (c 2).toNat + (c 3).toNat + (c 4).toNat ≤ 5
      omega
    have cin : ∀ k, k < 5 → c k = 1 → ((rtI k : Int) : Rat) ∈ castL (flN (fun k => (c k).toNat) 5) := fun k hk h1 => fl_in hk (by show 0 < (c k).toNat; omega)
    have cne' : castL (flN (fun k => (c k).toNat) 5) ≠ [] := List.ne_nil_of_mem (cin kk hkk ck)
    have zc := pL_psz lcs hpc.trim fcs (by omega) (fl_int _)
    obtain ⟨oa, a1, a2⟩ := opt_ex (la := castL (flN (fun k => (p k).toNat) 5)) cne'
    obtain ⟨ob, b1, b2⟩ := opt_ex (la := castL (flN (fun k => (-p k).toNat) 5)) cne'
    have cmem : ∀ x ∈ castL (flN (fun k => (c k).toNat) 5), ∃ k, k < 5 ∧ c k = 1 ∧ x = ((rtI k : Int) : Rat) := fun x hx => by
      obtain ⟨k, hk, e, h0⟩ := fl_mem hx
      have h0 : 0 < (c k).toNat := h0
      have := hc2 k hk
      exact ⟨k, hk, by omega, e⟩
    refine ⟨fA, pc, as, bs, cs, rfl, hF7, hpc, fun e => absurd e na, fun _ => ⟨oa, ob, ev_prod cne tas (psz_mono zn (by decide)) fa hpc.trim (psz_mono zc (by decide)) fcs la10 c5 cne' cnd a1 a2, ev_prod (k := 1) (by decide) tbs (psz_mono zb (by decide)) (fun j => by rw [fb]; grind) hpc.trim (psz_mono zc (by decide)) fcs lb10 c5 cne' cnd b1 b2, fun H8 s8 => ?_⟩⟩
    have s68 := s7.trans s8
    have eD8 := s68 _ _ eD
    have hF8 := hF6.same s68
    have e8 := s68 _ _ e6
    have ec8 := s68 _ _ ec6
    have ht8 := PairQ.stb.same s68 ht6
    clear s68 eD hF6 e6 ec6 ht6 s7 s8 hF7 hpc lcs fcs zc ef nol
    have yes : ∀ v : Int, (∀ k, k < 5 → c k = 1 → p k = v) → ordV oa ob = .int v := fun v hv => by
      rw [a1 v.toNat fun x hx => by
        obtain ⟨k, hk, h1, rfl⟩ := cmem x hx
        rw [fl_count _ hk, hv k hk h1], b1 (-v).toNat fun x hx => by
        obtain ⟨k, hk, h1, rfl⟩ := cmem x hx
        rw [fl_count _ hk, hv k hk h1]]
      show V.int (((v.toNat : Nat) : Int) - (((-v).toNat : Nat) : Int)) = _
      congr 1
      omega
    have no : (¬ ∃ v : Int, ∀ k, k < 5 → c k = 1 → p k = v) → ordV oa ob = .non := fun hn => by
      by_cases x : ∃ i, ∀ c' ∈ castL (flN (fun k => (c k).toNat) 5), (castL (flN (fun k => (p k).toNat) 5)).count c' = i
      · by_cases y : ∃ i, ∀ c' ∈ castL (flN (fun k => (c k).toNat) 5), (castL (flN (fun k => (-p k).toNat) 5)).count c' = i
        · obtain ⟨i, hi⟩ := x
          obtain ⟨j, hj⟩ := y
          refine absurd ⟨(i : Int) - (j : Int), fun k hk h1 => ?_⟩ hn
          have h2 := hi _ (cin k hk h1)
          have h3 := hj _ (cin k hk h1)
          rw [fl_count _ hk] at h2 h3
          have h2 : (p k).toNat = i := h2
          have h3 : (-p k).toNat = j := h3
          omega
        · rw [b2 y]
          cases oa <;> rfl
      · rw [a2 x]
        rfl
    clear a1 a2 b1 b2 cmem
    refine ⟨fun σ' Ha => ∃ va : V, σ' = [some (.ref a), some (.ref s), some (.ref pl), some (.ref tc), some (.ref pa), some (.ref fA), some (.ref cl), some (.ref D), some va, none, none] ∧ Ha = H8, ?_, ?_⟩
    · refine ⟨_, rfl, D, os, rfl, SqL.of eD8, osp, fun m hm hle => ⟨_, rfl, D, os, rfl, SqL.of eD8, osp, fun m2 hm2 hle2 => ⟨rfl, _, rfl, ?_⟩⟩⟩
      by_cases hv : ∃ v : Int, ∀ k, k < 5 → c k = 1 → p k = v
      · obtain ⟨v, hv⟩ := hv
        have all : ∀ o ∈ os, o = v := fun o ho => by
          obtain ⟨k, hk, h1, rfl⟩ := ho1 o ho
          exact hv k hk h1
        rw [all m hm, all m2 hm2, show (!decide (V.int v = V.int v)) = false by rw [decide_eq_true rfl]; rfl, yes v hv]
        obtain ⟨o0, os', rfl⟩ : ∃ o0 os', os = o0 :: os' := by
          cases os with
          | nil => exact absurd osp (by decide)
          | cons x xs => exact ⟨x, xs, rfl⟩
        have h0 := all o0 (by simp)
        subst h0
        refine iteF ⟨_, rfl, _, rfl, D, _, _, V.int o0, rfl, rfl, SqL.of eD8, atI_of (k := 0) rfl, rfl, _, rfl, ?_⟩
        rw [show (!decide (V.int o0 = V.int o0)) = false by rw [decide_eq_true rfl]; rfl]
        refine iteF ⟨_, rfl, _, _, _, _, false, rfl, ClsV.ty "bool", .base (.int o0), kit_ty (by decide +kernel), false, rfl, iteF ?_⟩
        exact ⟨_, rfl, rfl⟩
      · have ne : m ≠ m2 := fun e => hv ⟨m, fun k hk h1 => by
          have h2 := hle _ (ho2 k hk h1)
          have h3 := hle2 _ (ho2 k hk h1)
          omega⟩
        rw [show (!decide (V.int m = V.int m2)) = true by rw [decide_eq_false fun z => ne (V.int.inj z)]; rfl, no hv]
        exact iteT ⟨_, rfl, rfl, _, rfl, iteF ⟨_, rfl, rfl⟩⟩
    clear yes no
    rintro σ' Ha ⟨va, rfl, rfl⟩
    rename_i H8
    -- degree, leading
    obtain ⟨dF, pn, pd, ef, _, _⟩ := id hF8
    have nol : ∀ m : Str, ¬ m = "den" → ¬ m = "num" → (rff pn pd).lookup m = none := fun m h1 h2 => rff_no _ _ h1 h2
    have hsum : (lstF p).sum = (as.length : Int) - (bs.length : Int) := by
      rw [las, lbl, fl_len, fl_len]
      show p 0 + (p 1 + (p 2 + (p 3 + (p 4 + 0)))) = (((p 0).toNat + (p 1).toNat + (p 2).toNat + (p 3).toNat + (p 4).toNat + 1 : Nat) : Int) - (((-p 0).toNat + (-p 1).toNat + (-p 2).toNat + (-p 3).toNat + (-p 4).toNat + 1 : Nat) : Int)
      omega
    refine ⟨_, rfl, fA, dF, _, rfl, ef, nol _ (by decide +kernel) (by decide +kernel), fA, as, bs, rfl, hF8, fun e => absurd e na, fun _ => ⟨_, rfl, pl, lstF p, rfl, SqL.of e8, rfl, _, rfl, ?_⟩⟩
    rw [show (!decide (V.int ((as.length : Int) - (bs.length : Int)) = V.int (lstF p).sum)) = false by rw [decide_eq_true (by rw [hsum])]; rfl]
    refine iteF ⟨_, rfl, fA, dF, _, rfl, ef, nol _ (by decide +kernel) (by decide +kernel), fA, as, bs, rfl, hF8, fun e => absurd e na, fun r q hq hr => ?_⟩
    have eq : q = cq := by
      have hqm := List.mem_of_getLast? hq
      refine lo_eq (zn.1 q hqm) loc ?_
      have h1 := fa (castL (flN (fun k => (p k).toNat) 5)).length
      rw [pL_top] at h1
      have h2 : rowF as (castL (flN (fun k => (p k).toNat) 5)).length = rv q := by
        unfold rowF
        rw [List.getLast?_eq_getElem?, las, Nat.add_sub_cancel] at hq
        rw [getD_q hq]
      rw [← h2, h1]
      grind
    subst eq
    refine ⟨r, q.1, q.2, rfl, hr, loc.pos, fun H9 t s9 _ ht => ?_⟩
    have ht9 := PairQ.stb.same s9 ht8
    have ht : PairQ H9 t q := ht
    refine ⟨_, rfl, pD q, pD q, dp_pair ht, dp_pair ht9, shape_pair _, shape_pair _, ?_⟩
    rw [eqv_shape (shape_pair q)]
    refine ⟨_, rfl, iteF ?_⟩
    have hF9 := hF8.same s9
    have e9 := s9 _ _ e8
    have ec9 := s9 _ _ ec8
    have ef9 := s9 _ _ ef
    clear hF8 e8 ec8 ht8 ef ht hr s9
    -- is_polynomial
    refine ⟨_, rfl, fA, dF, _, rfl, ef9, nol _ (by decide +kernel) (by decide +kernel), fA, as, bs, rfl, hF9, _, rfl, pl, lstF p, rfl, SqL.of e9, (by show 0 < 5; decide), fun m hm hle => ⟨_, _, rfl, rfl, rfl, _, rfl, ?_⟩⟩
    have bl1 : bs.length = 1 ↔ ∀ k, k < 5 → 0 ≤ p k := by
      rw [lbl, fl_len]
      constructor
      · intro h k hk
        have h : (-p 0).toNat + (-p 1).toNat + (-p 2).toNat + (-p 3).toNat + (-p 4).toNat + 1 = 1 := h
        match k, hk with
        | 0, _ => omega
        | 1, _ => omega
        | 2, _ => omega
        | 3, _ => omega
        | 4, _ => omega
      · intro h
        have h0 := h 0 (by decide)
        have h1 := h 1 (by decide)
        have h2 := h 2 (by decide)
        have h3 := h 3 (by decide)
        have h4 := h 4 (by decide)
        show (-p 0).toNat + (-p 1).toNat + (-p 2).toNat + (-p 3).toNat + (-p 4).toNat + 1 = 1
        omega
    have al1 : as.length = 1 ↔ ∀ k, k < 5 → p k ≤ 0 := by
      rw [las, fl_len]
      constructor
      · intro h k hk
        have h : (p 0).toNat + (p 1).toNat + (p 2).toNat + (p 3).toNat + (p 4).toNat + 1 = 1 := h
        match k, hk with
        | 0, _ => omega
        | 1, _ => omega
        | 2, _ => omega
        | 3, _ => omega
        | 4, _ => omega
      · intro h
        have h0 := h 0 (by decide)
        have h1 := h 1 (by decide)
        have h2 := h 2 (by decide)
        have h3 := h 3 (by decide)
        have h4 := h 4 (by decide)
        show (p 0).toNat + (p 1).toNat + (p 2).toNat + (p 3).toNat + (p 4).toNat + 1 = 1
        omega
    have minw : ∀ {m : Int}, m ∈ lstF p → (∀ y ∈ lstF p, m ≤ y) → (0 ≤ m ↔ ∀ k, k < 5 → 0 ≤ p k) := fun {m} hm hle => by
      constructor
      · intro h k hk
        have := hle _ (lstF_in p hk)
        omega
      · intro h
        obtain ⟨k, hk, e⟩ := lstF_mem hm
        rw [e]
        exact h k hk
    have maxw : ∀ {m : Int}, m ∈ lstF p → (∀ y ∈ lstF p, y ≤ m) → (m ≤ 0 ↔ ∀ k, k < 5 → p k ≤ 0) := fun {m} hm hle => by
      constructor
      · intro h k hk
        have := hle _ (lstF_in p hk)
        omega
      · intro h
        obtain ⟨k, hk, e⟩ := lstF_mem hm
        rw [e]
        exact h k hk
    rw [show (!decide (V.bl (decide (bs.length = 1)) = V.bl (decide (0 ≤ m)))) = false by
      rw [decide_eq_true]
      · rfl
      · congr 1
        exact decide_eq_decide.mpr (bl1.trans (minw hm hle).symm)]
    refine iteF ?_
    clear hm hle m
    -- as_constant
    refine ⟨fun σ' Ha => ∃ v9 : V, σ' = [some (.ref a), some (.ref s), some (.ref pl), some (.ref tc), some (.ref pa), some (.ref fA), some (.ref cl), some (.ref D), some va, some v9, none] ∧ Same H9 Ha ∧ ((v9 = .non ∧ ¬ (as.length = 1 ∧ bs.length = 1)) ∨ ∃ r, v9 = .ref r ∧ RatQ C Ha r q ∧ as.length = 1 ∧ bs.length = 1), ?_, ?_⟩
    · refine ⟨_, rfl, fA, dF, _, rfl, ef9, nol _ (by decide +kernel) (by decide +kernel), fA, as, bs, rfl, hF9, fun h => ?_, fun h1 h2 H' r s' hr => ?_⟩
      · exact ⟨.non, rfl, same_rfl, .inl ⟨rfl, fun ⟨x, y⟩ => by omega⟩⟩
      · have l1 : as.length = 1 := by omega
        have l2 : bs.length = 1 := by omega
        refine ⟨.ref r, rfl, s', .inr ⟨r, rfl, ?_, l1, l2⟩⟩
        obtain ⟨x, hx⟩ : ∃ x, as = [x] := by
          match as, l1 with
          | [x], _ => exact ⟨x, rfl⟩
        have lz : (castL (flN (fun k => (p k).toNat) 5)).length = 0 := by omega
        have h3 := fa 0
        rw [List.length_eq_zero_iff.mp lz, hx] at h3
        have ex : x = q := lo_eq (zn.1 x (by rw [hx]; simp)) loc (by
          have h4 : rv x = rv q * 1 := h3
          rw [h4]
          grind)
        rw [hx, ex] at hr
        exact hr
    rintro σ' H10 ⟨v9, rfl, s10, hv9⟩
    have e10 := s10 _ _ e9
    have ec10 := s10 _ _ ec9
    have ht10 := PairQ.stb.same s10 ht9
    refine ⟨fun σ' Ha => σ' = [some (.ref a), some (.ref s), some (.ref pl), some (.ref tc), some (.ref pa), some (.ref fA), some (.ref cl), some (.ref D), some va, some v9, none] ∧ Ha cl = some (.lst ((lstF c).map V.int)), ?_, ?_⟩
    · refine ⟨_, rfl, pl, lstF p, rfl, SqL.of e10, (by show 0 < 5; decide), fun m hm hle => ⟨rfl, _, rfl, ?_⟩⟩
      by_cases hz : as.length = 1 ∧ bs.length = 1
      · have p0 : ∀ k, k < 5 → p k = 0 := fun k hk => by
          have h1 := al1.mp hz.1 k hk
          have h2 := bl1.mp hz.2 k hk
          omega
        have em : m = 0 := by
          obtain ⟨k, hk, e⟩ := lstF_mem hm
          rw [e, p0 k hk]
        subst em
        refine iteT ⟨_, rfl, pl, lstF p, rfl, SqL.of e10, (by show 0 < 5; decide), fun m2 hm2 hle2 => ⟨rfl, _, rfl, ?_⟩⟩
        have em : m2 = 0 := by
          obtain ⟨k, hk, e⟩ := lstF_mem hm2
          rw [e, p0 k hk]
        subst em
        rcases hv9 with ⟨_, w⟩ | ⟨r, rfl, hr, _⟩
        · exact absurd hz w
        refine iteT ⟨_, rfl, rfl, _, rfl, iteF ⟨_, rfl, r, q.1, q.2, rfl, hr, loc.pos, fun H11 t s11 _ ht => ?_⟩⟩
        have ht : PairQ H11 t q := ht
        refine ⟨_, rfl, pD q, pD q, dp_pair ht, dp_pair (PairQ.stb.same s11 ht10), shape_pair _, shape_pair _, ?_⟩
        rw [eqv_shape (shape_pair q)]
        exact ⟨_, rfl, iteF ⟨rfl, s11 _ _ ec10⟩⟩
      · rcases hv9 with ⟨rfl, _⟩ | ⟨r, rfl, hr, w⟩
        · by_cases m0 : m = 0
          · subst m0
            refine iteT ⟨_, rfl, pl, lstF p, rfl, SqL.of e10, (by show 0 < 5; decide), fun m2 hm2 hle2 => ⟨rfl, _, rfl, ?_⟩⟩
            have n2 : m2 ≠ 0 := fun e => hz ⟨al1.mpr ((maxw hm hle).mp (Int.le_refl 0)), bl1.mpr ((minw hm2 hle2).mp (by rw [e]; exact Int.le_refl 0))⟩
            rw [show decide (V.int m2 = V.int 0) = false from decide_eq_false fun z => n2 (V.int.inj z)]
            exact iteF ⟨_, rfl, rfl, _, rfl, iteF ⟨rfl, ec10⟩⟩
          · rw [show decide (V.int m = V.int 0) = false from decide_eq_false fun z => m0 (V.int.inj z)]
            exact iteF ⟨_, rfl, rfl, _, rfl, iteF ⟨rfl, ec10⟩⟩
        · exact absurd w hz
    clear hv9 e10 ht10 s10 hF9 e9 ec9 ef9 ht9 nol
    rintro σ' H11 ⟨rfl, ec11⟩
    -- zero is refused
    intro u du nu ndu neu
    refine ⟨u, du, 0, 1, rfl, upd_same, fun z => absurd z (by decide), fun _ H12 hu kk12 => ⟨rfl, ?_⟩⟩
    have s12 : Same H11 H12 := Same.made nu ndu kk12
    have hu : RatQ C H12 u (mkq 0 1) := hu
    rw [mkq_lo (q := ((0 : Int), (1 : Int))) lo_q0] at hu
    refine ⟨u, q0, 1, rfl, hu, lo_q0, by decide, by decide, Nat.le_refl 1, by decide, fun H13 fz ns2 ds2 s13 hfz RZ _ _ => ?_⟩
    have nz : ns2 = [] := List.length_eq_zero_iff.mp (Nat.le_zero.mp RZ.ln)
    subst nz
    have ec13 := s13 _ _ (s12 _ _ ec11)
    refine ⟨_, rfl, cl, fun k => (c k).toNat, rfl, by rw [← lstF_nat hc2]; exact ec13, fun k hk => by have := hc2 k hk; show (c k).toNat ≤ 2; omega, fun H14 pc cs s14 hpc _ _ => ?_⟩
    exact ⟨fz, pc, ds2, cs, rfl, hfz.same s14, hpc, fun H15 _ => kq H15⟩
end
end Ind

set_option Elab.async false
set_option linter.all false
set_option maxRecDepth 100000
set_option maxHeartbeats 4000000
set_option exponentiation.threshold 20000
namespace Ind
open PySem PySem.Spec PyProof.Rows L2 SX
open Builtin.Int (intBits)
theorem fields_at {K : PySem.W.Frag} {fF : Addr} {n0 n1 n2 n3 : Int} {t0 t1 t2 t3 : Tok} {odF : Option Addr} {slF : Array (Option Value)} {nF : Nat} (lF : K.lookup fF = some ⟨.type "tuple", odF, .seq #[.int n0 t0, .int n1 t1, .int n2 t2, .int n3 t3] nF, slF⟩)
    (e0 : n0 = ((2 ^ 61 - 1 : Nat) : Int)) (e1 : n1 = ((2 ^ 521 - 1 : Nat) : Int)) (e2 : n2 = ((2 ^ 2203 - 1 : Nat) : Int)) (e3 : n3 = ((2 ^ 9689 - 1 : Nat) : Int)) (H : Hp) : SqT K H fF (fieldsL.map V.int) := by
  subst e0
  subst e1
  subst e2
  subst e3
  exact .inr ⟨_, _, _, lF, rfl, rfl, (by show 4 ≤ sizeLine; decide), .cons ⟨t0, rfl⟩ (.cons ⟨t1, rfl⟩ (.cons ⟨t2, rfl⟩ (.cons ⟨t3, rfl⟩ .nil)))⟩
theorem all_mk {P : Program} {w : World} {K : PySem.W.Frag} {h : Heap} {mg : Str → Option Value} {fa C CP CF Z fF Nt fN Fa fLg fCf fNn fRs fRp fTr fCt fPp fIm fMm fRe fDm fSy fDr fRd fEu fZr fOn fCs fPd fCd fDo fEv fOp fOr fG fFr fSta fTk fP fFct fIsr fZi fIv fPI fPz fPg fDb fPl fPm fSc fMo fFd fMl fPc fFI fFz fFp fFc fFo fFg fFl fL : Addr} (hT : P.given.tree = none) (X : K.In h) (G : h.Ns mainGlobals mg) (hfa : mg "law" = some (.ref fa))
    {ocLg kVLg dcLg pmLg cdLg ctLg : Value} {odLg anLg : Option Addr} {slLg : Array (Option Value)}
    {ocCf kVCf dcCf pmCf cdCf ctCf : Value} {odCf anCf : Option Addr} {slCf : Array (Option Value)}
    {ocNn kVNn dcNn pmNn cdNn ctNn : Value} {odNn anNn : Option Addr} {slNn : Array (Option Value)}
    {ocRs kVRs dcRs pmRs cdRs ctRs : Value} {odRs anRs : Option Addr} {slRs : Array (Option Value)}
    {ocRp kVRp dcRp pmRp cdRp ctRp : Value} {odRp anRp : Option Addr} {slRp : Array (Option Value)}
    {ocTr kVTr dcTr pmTr cdTr ctTr : Value} {odTr anTr : Option Addr} {slTr : Array (Option Value)}
    {ocCt kVCt dcCt pmCt cdCt ctCt : Value} {odCt anCt : Option Addr} {slCt : Array (Option Value)}
    {ocPp kVPp dcPp pmPp cdPp ctPp : Value} {odPp anPp : Option Addr} {slPp : Array (Option Value)}
    {ocIm kVIm dcIm pmIm cdIm ctIm : Value} {odIm anIm : Option Addr} {slIm : Array (Option Value)}
    {ocMm kVMm dcMm pmMm cdMm ctMm : Value} {odMm anMm : Option Addr} {slMm : Array (Option Value)}
    {ocRe kVRe dcRe pmRe cdRe ctRe : Value} {odRe anRe : Option Addr} {slRe : Array (Option Value)}
    {ocDm kVDm dcDm pmDm cdDm ctDm : Value} {odDm anDm : Option Addr} {slDm : Array (Option Value)}
    {ocSy kVSy dcSy pmSy cdSy ctSy : Value} {odSy anSy : Option Addr} {slSy : Array (Option Value)}
    {ocDr kVDr dcDr pmDr cdDr ctDr : Value} {odDr anDr : Option Addr} {slDr : Array (Option Value)}
    {ocRd kVRd dcRd pmRd cdRd ctRd : Value} {odRd anRd : Option Addr} {slRd : Array (Option Value)}
    {ocEu kVEu dcEu pmEu cdEu ctEu : Value} {odEu anEu : Option Addr} {slEu : Array (Option Value)}
    {ocZr kVZr dcZr pmZr cdZr ctZr : Value} {odZr anZr : Option Addr} {slZr : Array (Option Value)}
    {ocOn kVOn dcOn pmOn cdOn ctOn : Value} {odOn anOn : Option Addr} {slOn : Array (Option Value)}
    {ocCs kVCs dcCs pmCs cdCs ctCs : Value} {odCs anCs : Option Addr} {slCs : Array (Option Value)}
    {ocPd kVPd dcPd pmPd cdPd ctPd : Value} {odPd anPd : Option Addr} {slPd : Array (Option Value)}
    {ocCd kVCd dcCd pmCd cdCd ctCd : Value} {odCd anCd : Option Addr} {slCd : Array (Option Value)}
    {ocDo kVDo dcDo pmDo cdDo ctDo : Value} {odDo anDo : Option Addr} {slDo : Array (Option Value)}
    {ocEv kVEv dcEv pmEv cdEv ctEv : Value} {odEv anEv : Option Addr} {slEv : Array (Option Value)}
    {ocOp kVOp dcOp pmOp cdOp ctOp : Value} {odOp anOp : Option Addr} {slOp : Array (Option Value)}
    {ocOr kVOr dcOr pmOr cdOr ctOr : Value} {odOr anOr : Option Addr} {slOr : Array (Option Value)}
    {ocG kVG dcG pmG cdG ctG : Value} {odG anG : Option Addr} {slG : Array (Option Value)}
    {ocFr kVFr dcFr pmFr cdFr ctFr : Value} {odFr anFr : Option Addr} {slFr : Array (Option Value)}
    {ocSta kVSta dcSta pmSta cdSta ctSta : Value} {odSta anSta : Option Addr} {slSta : Array (Option Value)}
    {ocTk kVTk dcTk pmTk cdTk ctTk : Value} {odTk anTk : Option Addr} {slTk : Array (Option Value)}
    {ocP kVP dcP pmP cdP ctP : Value} {odP anP : Option Addr} {slP : Array (Option Value)}
    {ocFct kVFct dcFct pmFct cdFct ctFct : Value} {odFct anFct : Option Addr} {slFct : Array (Option Value)}
    {ocIsr kVIsr dcIsr pmIsr cdIsr ctIsr : Value} {odIsr anIsr : Option Addr} {slIsr : Array (Option Value)}
    {ocZi kVZi dcZi pmZi cdZi ctZi : Value} {odZi anZi : Option Addr} {slZi : Array (Option Value)}
    {ocIv kVIv dcIv pmIv cdIv ctIv : Value} {odIv anIv : Option Addr} {slIv : Array (Option Value)}
    {ocPI kVPI dcPI pmPI cdPI ctPI : Value} {odPI anPI : Option Addr} {slPI : Array (Option Value)}
    {ocPz kVPz dcPz pmPz cdPz ctPz : Value} {odPz anPz : Option Addr} {slPz : Array (Option Value)}
    {ocPg kVPg dcPg pmPg cdPg ctPg : Value} {odPg anPg : Option Addr} {slPg : Array (Option Value)}
    {ocDb kVDb dcDb pmDb cdDb ctDb : Value} {odDb anDb : Option Addr} {slDb : Array (Option Value)}
    {ocPl kVPl dcPl pmPl cdPl ctPl : Value} {odPl anPl : Option Addr} {slPl : Array (Option Value)}
    {ocPm kVPm dcPm pmPm cdPm ctPm : Value} {odPm anPm : Option Addr} {slPm : Array (Option Value)}
    {ocSc kVSc dcSc pmSc cdSc ctSc : Value} {odSc anSc : Option Addr} {slSc : Array (Option Value)}
    {ocMo kVMo dcMo pmMo cdMo ctMo : Value} {odMo anMo : Option Addr} {slMo : Array (Option Value)}
    {ocFd kVFd dcFd pmFd cdFd ctFd : Value} {odFd anFd : Option Addr} {slFd : Array (Option Value)}
    {ocMl kVMl dcMl pmMl cdMl ctMl : Value} {odMl anMl : Option Addr} {slMl : Array (Option Value)}
    {ocPc kVPc dcPc pmPc cdPc ctPc : Value} {odPc anPc : Option Addr} {slPc : Array (Option Value)}
    {ocFI kVFI dcFI pmFI cdFI ctFI : Value} {odFI anFI : Option Addr} {slFI : Array (Option Value)}
    {ocFz kVFz dcFz pmFz cdFz ctFz : Value} {odFz anFz : Option Addr} {slFz : Array (Option Value)}
    {ocFp kVFp dcFp pmFp cdFp ctFp : Value} {odFp anFp : Option Addr} {slFp : Array (Option Value)}
    {ocFc kVFc dcFc pmFc cdFc ctFc : Value} {odFc anFc : Option Addr} {slFc : Array (Option Value)}
    {ocFo kVFo dcFo pmFo cdFo ctFo : Value} {odFo anFo : Option Addr} {slFo : Array (Option Value)}
    {ocFg kVFg dcFg pmFg cdFg ctFg : Value} {odFg anFg : Option Addr} {slFg : Array (Option Value)}
    {ocFl kVFl dcFl pmFl cdFl ctFl : Value} {odFl anFl : Option Addr} {slFl : Array (Option Value)}
    {ocL kVL dcL pmL cdL ctL : Value} {odL anL : Option Addr} {slL : Array (Option Value)}
    {ocI kVI dcI pmI cdI ctI cT : Value} {odI anI ddT : Option Addr} {slI slT : Array (Option Value)} {tT : Tok} {nT : Nat} {fI T' : Addr}
    {n0 n1 n2 n3 : Int} {t0 t1 t2 t3 : Tok} {odF : Option Addr} {slF : Array (Option Value)} {nF : Nat}
    {nmN qN : Str} {NN : Addr} {bsN bmN subN : List Value} {snN : List Str} {abN : Bool} {colN : Option Bool} {ddN : Option Addr} {k0N k1N k2N k3N k5N : Option Value}
    {ocN kVN dcN pmN ctN cclN clN : Value} {odN anN cddN cldN : Option Addr} {slN ccsN cslN : Array (Option Value)} {vsN : Array Value} {flN : Str} {tfN : Tok} {ccN cdaN : Addr}
    (aLg : PySem.W.nsIn K mainGlobals "long_division" = some (some (.ref fLg)))
    (lLg : K.lookup fLg = some ⟨ocLg, odLg, .func (PySem.W.fnOf "long_division" "long_division" (defArgs sLd) (defBody sLd) (defScope sLd) .none kVLg dcLg pmLg anLg cdLg ctLg), slLg⟩)
    (cLg : PySem.W.codeIn K cdLg "long_division" = true)
    (kpLg : PySem.W.keepIn K (.ref fLg) = true)
    (aCf : PySem.W.nsIn K mainGlobals "common_form" = some (some (.ref fCf)))
    (lCf : K.lookup fCf = some ⟨ocCf, odCf, .func (PySem.W.fnOf "common_form" "common_form" (defArgs sCF) (defBody sCF) (defScope sCF) .none kVCf dcCf pmCf anCf cdCf ctCf), slCf⟩)
    (cCf : PySem.W.codeIn K cdCf "common_form" = true)
    (kpCf : PySem.W.keepIn K (.ref fCf) = true)
    (aNn : PySem.W.nsIn K mainGlobals "of_numbers" = some (some (.ref fNn)))
    (lNn : K.lookup fNn = some ⟨ocNn, odNn, .func (PySem.W.fnOf "of_numbers" "of_numbers" (defArgs sOfN) (defBody sOfN) (defScope sOfN) .none kVNn dcNn pmNn anNn cdNn ctNn), slNn⟩)
    (cNn : PySem.W.codeIn K cdNn "of_numbers" = true)
    (kpNn : PySem.W.keepIn K (.ref fNn) = true)
    (aRs : PySem.W.nsIn K mainGlobals "row_sum" = some (some (.ref fRs)))
    (lRs : K.lookup fRs = some ⟨ocRs, odRs, .func (PySem.W.fnOf "row_sum" "row_sum" (defArgs sRS) (defBody sRS) (defScope sRS) .none kVRs dcRs pmRs anRs cdRs ctRs), slRs⟩)
    (cRs : PySem.W.codeIn K cdRs "row_sum" = true)
    (kpRs : PySem.W.keepIn K (.ref fRs) = true)
    (aRp : PySem.W.nsIn K mainGlobals "row_product" = some (some (.ref fRp)))
    (lRp : K.lookup fRp = some ⟨ocRp, odRp, .func (PySem.W.fnOf "row_product" "row_product" (defArgs sRP) (defBody sRP) (defScope sRP) .none kVRp dcRp pmRp anRp cdRp ctRp), slRp⟩)
    (cRp : PySem.W.codeIn K cdRp "row_product" = true)
    (kpRp : PySem.W.keepIn K (.ref fRp) = true)
    (aTr : PySem.W.nsIn K mainGlobals "trimmed" = some (some (.ref fTr)))
    (lTr : K.lookup fTr = some ⟨ocTr, odTr, .func (PySem.W.fnOf "trimmed" "trimmed" (defArgs sTr) (defBody sTr) (defScope sTr) .none kVTr dcTr pmTr anTr cdTr ctTr), slTr⟩)
    (cTr : PySem.W.codeIn K cdTr "trimmed" = true)
    (kpTr : PySem.W.keepIn K (.ref fTr) = true)
    (aCt : PySem.W.nsIn K mainGlobals "content" = some (some (.ref fCt)))
    (lCt : K.lookup fCt = some ⟨ocCt, odCt, .func (PySem.W.fnOf "content" "content" (defArgs sCont) (defBody sCont) (defScope sCont) .none kVCt dcCt pmCt anCt cdCt ctCt), slCt⟩)
    (cCt : PySem.W.codeIn K cdCt "content" = true)
    (kpCt : PySem.W.keepIn K (.ref fCt) = true)
    (aPp : PySem.W.nsIn K mainGlobals "primitive_row" = some (some (.ref fPp)))
    (lPp : K.lookup fPp = some ⟨ocPp, odPp, .func (PySem.W.fnOf "primitive_row" "primitive_row" (defArgs sPrR) (defBody sPrR) (defScope sPrR) .none kVPp dcPp pmPp anPp cdPp ctPp), slPp⟩)
    (cPp : PySem.W.codeIn K cdPp "primitive_row" = true)
    (kpPp : PySem.W.keepIn K (.ref fPp) = true)
    (aIm : PySem.W.nsIn K mainGlobals "inverse_modulo" = some (some (.ref fIm)))
    (lIm : K.lookup fIm = some ⟨ocIm, odIm, .func (PySem.W.fnOf "inverse_modulo" "inverse_modulo" (defArgs sInvM) (defBody sInvM) (defScope sInvM) .none kVIm dcIm pmIm anIm cdIm ctIm), slIm⟩)
    (cIm : PySem.W.codeIn K cdIm "inverse_modulo" = true)
    (kpIm : PySem.W.keepIn K (.ref fIm) = true)
    (aMm : PySem.W.nsIn K mainGlobals "monic_modulo" = some (some (.ref fMm)))
    (lMm : K.lookup fMm = some ⟨ocMm, odMm, .func (PySem.W.fnOf "monic_modulo" "monic_modulo" (defArgs sMonM) (defBody sMonM) (defScope sMonM) .none kVMm dcMm pmMm anMm cdMm ctMm), slMm⟩)
    (cMm : PySem.W.codeIn K cdMm "monic_modulo" = true)
    (kpMm : PySem.W.keepIn K (.ref fMm) = true)
    (aRe : PySem.W.nsIn K mainGlobals "remainder_modulo" = some (some (.ref fRe)))
    (lRe : K.lookup fRe = some ⟨ocRe, odRe, .func (PySem.W.fnOf "remainder_modulo" "remainder_modulo" (defArgs sRemM) (defBody sRemM) (defScope sRemM) .none kVRe dcRe pmRe anRe cdRe ctRe), slRe⟩)
    (cRe : PySem.W.codeIn K cdRe "remainder_modulo" = true)
    (kpRe : PySem.W.keepIn K (.ref fRe) = true)
    (aDm : PySem.W.nsIn K mainGlobals "divisor_modulo" = some (some (.ref fDm)))
    (lDm : K.lookup fDm = some ⟨ocDm, odDm, .func (PySem.W.fnOf "divisor_modulo" "divisor_modulo" (defArgs sDivMd) (defBody sDivMd) (defScope sDivMd) .none kVDm dcDm pmDm anDm cdDm ctDm), slDm⟩)
    (cDm : PySem.W.codeIn K cdDm "divisor_modulo" = true)
    (kpDm : PySem.W.keepIn K (.ref fDm) = true)
    (aSy : PySem.W.nsIn K mainGlobals "symmetric" = some (some (.ref fSy)))
    (lSy : K.lookup fSy = some ⟨ocSy, odSy, .func (PySem.W.fnOf "symmetric" "symmetric" (defArgs sSym) (defBody sSym) (defScope sSym) .none kVSy dcSy pmSy anSy cdSy ctSy), slSy⟩)
    (cSy : PySem.W.codeIn K cdSy "symmetric" = true)
    (kpSy : PySem.W.keepIn K (.ref fSy) = true)
    (aDr : PySem.W.nsIn K mainGlobals "divides_row" = some (some (.ref fDr)))
    (lDr : K.lookup fDr = some ⟨ocDr, odDr, .func (PySem.W.fnOf "divides_row" "divides_row" (defArgs sDvR) (defBody sDvR) (defScope sDvR) .none kVDr dcDr pmDr anDr cdDr ctDr), slDr⟩)
    (cDr : PySem.W.codeIn K cdDr "divides_row" = true)
    (kpDr : PySem.W.keepIn K (.ref fDr) = true)
    (aRd : PySem.W.nsIn K mainGlobals "row_divisor" = some (some (.ref fRd)))
    (lRd : K.lookup fRd = some ⟨ocRd, odRd, .func (PySem.W.fnOf "row_divisor" "row_divisor" (defArgs sRowD) (defBody sRowD) (defScope sRowD) .none kVRd dcRd pmRd anRd cdRd ctRd), slRd⟩)
    (cRd : PySem.W.codeIn K cdRd "row_divisor" = true)
    (kpRd : PySem.W.keepIn K (.ref fRd) = true)
    (aEu : PySem.W.nsIn K mainGlobals "euclid_divisor" = some (some (.ref fEu)))
    (lEu : K.lookup fEu = some ⟨ocEu, odEu, .func (PySem.W.fnOf "euclid_divisor" "euclid_divisor" (defArgs sEu) (defBody sEu) (defScope sEu) .none kVEu dcEu pmEu anEu cdEu ctEu), slEu⟩)
    (cEu : PySem.W.codeIn K cdEu "euclid_divisor" = true)
    (kpEu : PySem.W.keepIn K (.ref fEu) = true)
    (aZr : PySem.W.nsIn K mainGlobals "zero" = some (some (.ref fZr)))
    (lZr : K.lookup fZr = some ⟨ocZr, odZr, .func (PySem.W.fnOf "zero" "zero" (defArgs sZero) (defBody sZero) (defScope sZero) .none kVZr dcZr pmZr anZr cdZr ctZr), slZr⟩)
    (cZr : PySem.W.codeIn K cdZr "zero" = true)
    (kpZr : PySem.W.keepIn K (.ref fZr) = true)
    (aOn : PySem.W.nsIn K mainGlobals "one" = some (some (.ref fOn)))
    (lOn : K.lookup fOn = some ⟨ocOn, odOn, .func (PySem.W.fnOf "one" "one" (defArgs sOn) (defBody sOn) (defScope sOn) .none kVOn dcOn pmOn anOn cdOn ctOn), slOn⟩)
    (cOn : PySem.W.codeIn K cdOn "one" = true)
    (kpOn : PySem.W.keepIn K (.ref fOn) = true)
    (aCs : PySem.W.nsIn K mainGlobals "constant" = some (some (.ref fCs)))
    (lCs : K.lookup fCs = some ⟨ocCs, odCs, .func (PySem.W.fnOf "constant" "constant" (defArgs sCst) (defBody sCst) (defScope sCst) .none kVCs dcCs pmCs anCs cdCs ctCs), slCs⟩)
    (cCs : PySem.W.codeIn K cdCs "constant" = true)
    (kpCs : PySem.W.keepIn K (.ref fCs) = true)
    (aPd : PySem.W.nsIn K mainGlobals "product" = some (some (.ref fPd)))
    (lPd : K.lookup fPd = some ⟨ocPd, odPd, .func (PySem.W.fnOf "product" "product" (defArgs sPrd) (defBody sPrd) (defScope sPrd) .none kVPd dcPd pmPd anPd cdPd ctPd), slPd⟩)
    (cPd : PySem.W.codeIn K cdPd "product" = true)
    (kpPd : PySem.W.keepIn K (.ref fPd) = true)
    (aCd : PySem.W.nsIn K mainGlobals "common_divisor" = some (some (.ref fCd)))
    (lCd : K.lookup fCd = some ⟨ocCd, odCd, .func (PySem.W.fnOf "common_divisor" "common_divisor" (defArgs sCd) (defBody sCd) (defScope sCd) .none kVCd dcCd pmCd anCd cdCd ctCd), slCd⟩)
    (cCd : PySem.W.codeIn K cdCd "common_divisor" = true)
    (kpCd : PySem.W.keepIn K (.ref fCd) = true)
    (aDo : PySem.W.nsIn K mainGlobals "divided_out" = some (some (.ref fDo)))
    (lDo : K.lookup fDo = some ⟨ocDo, odDo, .func (PySem.W.fnOf "divided_out" "divided_out" (defArgs sDo) (defBody sDo) (defScope sDo) .none kVDo dcDo pmDo anDo cdDo ctDo), slDo⟩)
    (cDo : PySem.W.codeIn K cdDo "divided_out" = true)
    (kpDo : PySem.W.keepIn K (.ref fDo) = true)
    (aEv : PySem.W.nsIn K mainGlobals "even_order" = some (some (.ref fEv)))
    (lEv : K.lookup fEv = some ⟨ocEv, odEv, .func (PySem.W.fnOf "even_order" "even_order" (defArgs sEv) (defBody sEv) (defScope sEv) .none kVEv dcEv pmEv anEv cdEv ctEv), slEv⟩)
    (cEv : PySem.W.codeIn K cdEv "even_order" = true)
    (kpEv : PySem.W.keepIn K (.ref fEv) = true)
    (aOp : PySem.W.nsIn K mainGlobals "of_poly" = some (some (.ref fOp)))
    (lOp : K.lookup fOp = some ⟨ocOp, odOp, .func (PySem.W.fnOf "of_poly" "of_poly" (defArgs sOfP) (defBody sOfP) (defScope sOfP) .none kVOp dcOp pmOp anOp cdOp ctOp), slOp⟩)
    (cOp : PySem.W.codeIn K cdOp "of_poly" = true)
    (kpOp : PySem.W.keepIn K (.ref fOp) = true)
    (aOr : PySem.W.nsIn K mainGlobals "of_ratio" = some (some (.ref fOr)))
    (lOr : K.lookup fOr = some ⟨ocOr, odOr, .func (PySem.W.fnOf "of_ratio" "of_ratio" (defArgs sOfR) (defBody sOfR) (defScope sOfR) .none kVOr dcOr pmOr anOr cdOr ctOr), slOr⟩)
    (cOr : PySem.W.codeIn K cdOr "of_ratio" = true)
    (kpOr : PySem.W.keepIn K (.ref fOr) = true)
    (aG : PySem.W.nsIn K mainGlobals "_law_gcd" = some (some (.ref fG)))
    (lG : K.lookup fG = some ⟨ocG, odG, .func (PySem.W.fnOf "_law_gcd" "_law_gcd" (defArgs sGcd) (defBody sGcd) (defScope sGcd) .none kVG dcG pmG anG cdG ctG), slG⟩)
    (cG : PySem.W.codeIn K cdG "_law_gcd" = true)
    (kpG : PySem.W.keepIn K (.ref fG) = true)
    (aFr : PySem.W.nsIn K mainGlobals "_law_frac" = some (some (.ref fFr)))
    (lFr : K.lookup fFr = some ⟨ocFr, odFr, .func (PySem.W.fnOf "_law_frac" "_law_frac" (defArgs sFrac) (defBody sFrac) (defScope sFrac) .none kVFr dcFr pmFr anFr cdFr ctFr), slFr⟩)
    (cFr : PySem.W.codeIn K cdFr "_law_frac" = true)
    (kpFr : PySem.W.keepIn K (.ref fFr) = true)
    (aSta : PySem.W.nsIn K mainGlobals "_law_state" = some (some (.ref fSta)))
    (lSta : K.lookup fSta = some ⟨ocSta, odSta, .func (PySem.W.fnOf "_law_state" "_law_state" (defArgs sState) (defBody sState) (defScope sState) .none kVSta dcSta pmSta anSta cdSta ctSta), slSta⟩)
    (cSta : PySem.W.codeIn K cdSta "_law_state" = true)
    (kpSta : PySem.W.keepIn K (.ref fSta) = true)
    (aTk : PySem.W.nsIn K mainGlobals "_law_take" = some (some (.ref fTk)))
    (lTk : K.lookup fTk = some ⟨ocTk, odTk, .func (PySem.W.fnOf "_law_take" "_law_take" (defArgs sTake) (defBody sTake) (defScope sTake) .none kVTk dcTk pmTk anTk cdTk ctTk), slTk⟩)
    (cTk : PySem.W.codeIn K cdTk "_law_take" = true)
    (kpTk : PySem.W.keepIn K (.ref fTk) = true)
    (aP : PySem.W.nsIn K mainGlobals "_law_pair" = some (some (.ref fP)))
    (lP : K.lookup fP = some ⟨ocP, odP, .func (PySem.W.fnOf "_law_pair" "_law_pair" (defArgs sPair20) (defBody sPair20) (defScope sPair20) .none kVP dcP pmP anP cdP ctP), slP⟩)
    (cP : PySem.W.codeIn K cdP "_law_pair" = true)
    (kpP : PySem.W.keepIn K (.ref fP) = true)
    (aFct : PySem.W.nsIn K mainGlobals "_law_factors" = some (some (.ref fFct)))
    (lFct : K.lookup fFct = some ⟨ocFct, odFct, .func (PySem.W.fnOf "_law_factors" "_law_factors" (defArgs sFct) (defBody sFct) (defScope sFct) .none kVFct dcFct pmFct anFct cdFct ctFct), slFct⟩)
    (cFct : PySem.W.codeIn K cdFct "_law_factors" = true)
    (kpFct : PySem.W.keepIn K (.ref fFct) = true)
    (aIsr : PySem.W.nsIn K mainGlobals "_law_is_refused" = some (some (.ref fIsr)))
    (lIsr : K.lookup fIsr = some ⟨ocIsr, odIsr, .func (PySem.W.fnOf "_law_is_refused" "_law_is_refused" (defArgs sIsR) (defBody sIsR) (defScope sIsR) .none kVIsr dcIsr pmIsr anIsr cdIsr ctIsr), slIsr⟩)
    (cIsr : PySem.W.codeIn K cdIsr "_law_is_refused" = true)
    (kpIsr : PySem.W.keepIn K (.ref fIsr) = true)
    (aZi : PySem.W.findIn K (.ref C) "is_zero" = some (some (.ref fZi)))
    (iZi : PySem.W.isFn K (.ref fZi) = true)
    (lZi : K.lookup fZi = some ⟨ocZi, odZi, .func (PySem.W.fnOf "is_zero" "Ratio.is_zero" (defArgs sIsZ) (defBody sIsZ) (defScope sIsZ) .none kVZi dcZi pmZi anZi cdZi ctZi), slZi⟩)
    (cZi : PySem.W.codeIn K cdZi "Ratio.is_zero" = true)
    (kpZi : PySem.W.keepIn K (.ref fZi) = true)
    (aIv : PySem.W.findIn K (.ref C) "inverse" = some (some (.ref fIv)))
    (iIv : PySem.W.isFn K (.ref fIv) = true)
    (lIv : K.lookup fIv = some ⟨ocIv, odIv, .func (PySem.W.fnOf "inverse" "Ratio.inverse" (defArgs sInvR) (defBody sInvR) (defScope sInvR) .none kVIv dcIv pmIv anIv cdIv ctIv), slIv⟩)
    (cIv : PySem.W.codeIn K cdIv "Ratio.inverse" = true)
    (kpIv : PySem.W.keepIn K (.ref fIv) = true)
    (aPI : PySem.W.findIn K (.ref CP) "__init__" = some (some (.ref fPI)))
    (iPI : PySem.W.isFn K (.ref fPI) = true)
    (lPI : K.lookup fPI = some ⟨ocPI, odPI, .func (PySem.W.fnOf "__init__" "Poly.__init__" (defArgs sPI) (defBody sPI) (defScope sPI) .none kVPI dcPI pmPI anPI cdPI ctPI), slPI⟩)
    (cPI : PySem.W.codeIn K cdPI "Poly.__init__" = true)
    (kpPI : PySem.W.keepIn K (.ref fPI) = true)
    (aPz : PySem.W.findIn K (.ref CP) "is_zero" = some (some (.ref fPz)))
    (iPz : PySem.W.isFn K (.ref fPz) = true)
    (lPz : K.lookup fPz = some ⟨ocPz, odPz, .func (PySem.W.fnOf "is_zero" "Poly.is_zero" (defArgs sPIz) (defBody sPIz) (defScope sPIz) .none kVPz dcPz pmPz anPz cdPz ctPz), slPz⟩)
    (cPz : PySem.W.codeIn K cdPz "Poly.is_zero" = true)
    (kpPz : PySem.W.keepIn K (.ref fPz) = true)
    (aPg : PySem.W.findIn K (.ref CP) "degree" = some (some (.ref fPg)))
    (iPg : PySem.W.isFn K (.ref fPg) = true)
    (lPg : K.lookup fPg = some ⟨ocPg, odPg, .func (PySem.W.fnOf "degree" "Poly.degree" (defArgs sPDg) (defBody sPDg) (defScope sPDg) .none kVPg dcPg pmPg anPg cdPg ctPg), slPg⟩)
    (cPg : PySem.W.codeIn K cdPg "Poly.degree" = true)
    (kpPg : PySem.W.keepIn K (.ref fPg) = true)
    (aDb : PySem.W.findIn K (.ref CP) "divided_by" = some (some (.ref fDb)))
    (iDb : PySem.W.isFn K (.ref fDb) = true)
    (lDb : K.lookup fDb = some ⟨ocDb, odDb, .func (PySem.W.fnOf "divided_by" "Poly.divided_by" (defArgs sPDb) (defBody sPDb) (defScope sPDb) .none kVDb dcDb pmDb anDb cdDb ctDb), slDb⟩)
    (cDb : PySem.W.codeIn K cdDb "Poly.divided_by" = true)
    (kpDb : PySem.W.keepIn K (.ref fDb) = true)
    (aPl : PySem.W.findIn K (.ref CP) "last" = some (some (.ref fPl)))
    (iPl : PySem.W.isFn K (.ref fPl) = true)
    (lPl : K.lookup fPl = some ⟨ocPl, odPl, .func (PySem.W.fnOf "last" "Poly.last" (defArgs sPLa) (defBody sPLa) (defScope sPLa) .none kVPl dcPl pmPl anPl cdPl ctPl), slPl⟩)
    (cPl : PySem.W.codeIn K cdPl "Poly.last" = true)
    (kpPl : PySem.W.keepIn K (.ref fPl) = true)
    (aPm : PySem.W.findIn K (.ref CP) "primitive" = some (some (.ref fPm)))
    (iPm : PySem.W.isFn K (.ref fPm) = true)
    (lPm : K.lookup fPm = some ⟨ocPm, odPm, .func (PySem.W.fnOf "primitive" "Poly.primitive" (defArgs sPPr) (defBody sPPr) (defScope sPPr) .none kVPm dcPm pmPm anPm cdPm ctPm), slPm⟩)
    (cPm : PySem.W.codeIn K cdPm "Poly.primitive" = true)
    (kpPm : PySem.W.keepIn K (.ref fPm) = true)
    (aSc : PySem.W.findIn K (.ref CP) "scaled" = some (some (.ref fSc)))
    (iSc : PySem.W.isFn K (.ref fSc) = true)
    (lSc : K.lookup fSc = some ⟨ocSc, odSc, .func (PySem.W.fnOf "scaled" "Poly.scaled" (defArgs sPSc) (defBody sPSc) (defScope sPSc) .none kVSc dcSc pmSc anSc cdSc ctSc), slSc⟩)
    (cSc : PySem.W.codeIn K cdSc "Poly.scaled" = true)
    (kpSc : PySem.W.keepIn K (.ref fSc) = true)
    (aMo : PySem.W.findIn K (.ref CP) "monic" = some (some (.ref fMo)))
    (iMo : PySem.W.isFn K (.ref fMo) = true)
    (lMo : K.lookup fMo = some ⟨ocMo, odMo, .func (PySem.W.fnOf "monic" "Poly.monic" (defArgs sPMo) (defBody sPMo) (defScope sPMo) .none kVMo dcMo pmMo anMo cdMo ctMo), slMo⟩)
    (cMo : PySem.W.codeIn K cdMo "Poly.monic" = true)
    (kpMo : PySem.W.keepIn K (.ref fMo) = true)
    (aFd : PySem.W.findIn K (.ref CP) "__floordiv__" = some (some (.ref fFd)))
    (iFd : PySem.W.isFn K (.ref fFd) = true)
    (lFd : K.lookup fFd = some ⟨ocFd, odFd, .func (PySem.W.fnOf "__floordiv__" "Poly.__floordiv__" (defArgs sPFd) (defBody sPFd) (defScope sPFd) .none kVFd dcFd pmFd anFd cdFd ctFd), slFd⟩)
    (cFd : PySem.W.codeIn K cdFd "Poly.__floordiv__" = true)
    (kpFd : PySem.W.keepIn K (.ref fFd) = true)
    (aMl : PySem.W.findIn K (.ref CP) "__mul__" = some (some (.ref fMl)))
    (iMl : PySem.W.isFn K (.ref fMl) = true)
    (lMl : K.lookup fMl = some ⟨ocMl, odMl, .func (PySem.W.fnOf "__mul__" "Poly.__mul__" (defArgs sPMul) (defBody sPMul) (defScope sPMul) .none kVMl dcMl pmMl anMl cdMl ctMl), slMl⟩)
    (cMl : PySem.W.codeIn K cdMl "Poly.__mul__" = true)
    (kpMl : PySem.W.keepIn K (.ref fMl) = true)
    (aPc : PySem.W.findIn K (.ref CP) "coefficient" = some (some (.ref fPc)))
    (iPc : PySem.W.isFn K (.ref fPc) = true)
    (lPc : K.lookup fPc = some ⟨ocPc, odPc, .func (PySem.W.fnOf "coefficient" "Poly.coefficient" (defArgs sPCo) (defBody sPCo) (defScope sPCo) .none kVPc dcPc pmPc anPc cdPc ctPc), slPc⟩)
    (cPc : PySem.W.codeIn K cdPc "Poly.coefficient" = true)
    (kpPc : PySem.W.keepIn K (.ref fPc) = true)
    (aFI : PySem.W.findIn K (.ref CF) "__init__" = some (some (.ref fFI)))
    (iFI : PySem.W.isFn K (.ref fFI) = true)
    (lFI : K.lookup fFI = some ⟨ocFI, odFI, .func (PySem.W.fnOf "__init__" "RatFun.__init__" (defArgs sRF) (defBody sRF) (defScope sRF) .none kVFI dcFI pmFI anFI cdFI ctFI), slFI⟩)
    (cFI : PySem.W.codeIn K cdFI "RatFun.__init__" = true)
    (kpFI : PySem.W.keepIn K (.ref fFI) = true)
    (aFz : PySem.W.findIn K (.ref CF) "is_zero" = some (some (.ref fFz)))
    (iFz : PySem.W.isFn K (.ref fFz) = true)
    (lFz : K.lookup fFz = some ⟨ocFz, odFz, .func (PySem.W.fnOf "is_zero" "RatFun.is_zero" (defArgs sFz) (defBody sFz) (defScope sFz) .none kVFz dcFz pmFz anFz cdFz ctFz), slFz⟩)
    (cFz : PySem.W.codeIn K cdFz "RatFun.is_zero" = true)
    (kpFz : PySem.W.keepIn K (.ref fFz) = true)
    (aFp : PySem.W.findIn K (.ref CF) "is_polynomial" = some (some (.ref fFp)))
    (iFp : PySem.W.isFn K (.ref fFp) = true)
    (lFp : K.lookup fFp = some ⟨ocFp, odFp, .func (PySem.W.fnOf "is_polynomial" "RatFun.is_polynomial" (defArgs sFp) (defBody sFp) (defScope sFp) .none kVFp dcFp pmFp anFp cdFp ctFp), slFp⟩)
    (cFp : PySem.W.codeIn K cdFp "RatFun.is_polynomial" = true)
    (kpFp : PySem.W.keepIn K (.ref fFp) = true)
    (aFc : PySem.W.findIn K (.ref CF) "as_constant" = some (some (.ref fFc)))
    (iFc : PySem.W.isFn K (.ref fFc) = true)
    (lFc : K.lookup fFc = some ⟨ocFc, odFc, .func (PySem.W.fnOf "as_constant" "RatFun.as_constant" (defArgs sFc) (defBody sFc) (defScope sFc) .none kVFc dcFc pmFc anFc cdFc ctFc), slFc⟩)
    (cFc : PySem.W.codeIn K cdFc "RatFun.as_constant" = true)
    (kpFc : PySem.W.keepIn K (.ref fFc) = true)
    (aFo : PySem.W.findIn K (.ref CF) "order_at" = some (some (.ref fFo)))
    (iFo : PySem.W.isFn K (.ref fFo) = true)
    (lFo : K.lookup fFo = some ⟨ocFo, odFo, .func (PySem.W.fnOf "order_at" "RatFun.order_at" (defArgs sFo) (defBody sFo) (defScope sFo) .none kVFo dcFo pmFo anFo cdFo ctFo), slFo⟩)
    (cFo : PySem.W.codeIn K cdFo "RatFun.order_at" = true)
    (kpFo : PySem.W.keepIn K (.ref fFo) = true)
    (aFg : PySem.W.findIn K (.ref CF) "degree" = some (some (.ref fFg)))
    (iFg : PySem.W.isFn K (.ref fFg) = true)
    (lFg : K.lookup fFg = some ⟨ocFg, odFg, .func (PySem.W.fnOf "degree" "RatFun.degree" (defArgs sFd2) (defBody sFd2) (defScope sFd2) .none kVFg dcFg pmFg anFg cdFg ctFg), slFg⟩)
    (cFg : PySem.W.codeIn K cdFg "RatFun.degree" = true)
    (kpFg : PySem.W.keepIn K (.ref fFg) = true)
    (aFl : PySem.W.findIn K (.ref CF) "leading" = some (some (.ref fFl)))
    (iFl : PySem.W.isFn K (.ref fFl) = true)
    (lFl : K.lookup fFl = some ⟨ocFl, odFl, .func (PySem.W.fnOf "leading" "RatFun.leading" (defArgs sFl) (defBody sFl) (defScope sFl) .none kVFl dcFl pmFl anFl cdFl ctFl), slFl⟩)
    (cFl : PySem.W.codeIn K cdFl "RatFun.leading" = true)
    (kpFl : PySem.W.keepIn K (.ref fFl) = true)
    (aL : PySem.W.nsIn K mainGlobals "law" = some (some (.ref fL)))
    (lL : K.lookup fL = some ⟨ocL, odL, .func (PySem.W.fnOf "law" "law" (defArgs sLaw) (defBody sLaw) (defScope sLaw) .none kVL dcL pmL anL cdL ctL), slL⟩)
    (cL : PySem.W.codeIn K cdL "law" = true)
    (kpL : PySem.W.keepIn K (.ref fL) = true)
    (g1 : PySem.W.nsIn K mainGlobals "Ratio" = some (some (.ref C)))
    (pg1 : PySem.W.plainGet K C Str.empty = true)
    (hd1 : PySem.W.hasDictIn K C = true)
    (po1 : PySem.W.plainOver K C = true)
    (sa1 : PySem.W.findIn K (.ref C) "__setattr__" = some (some (.builtin "object.__setattr__")))
    (mk1 : PySem.W.makesIn K C = true)
    (kpC1 : PySem.W.keepIn K (.ref C) = true)
    (ca1 : PySem.W.findIn K (.ref C) "__class__" = some (some (.builtin "object.__class__")))
    (cm1 : PySem.W.mroIn K C (.type "object") = some true)
    (ck1 : PySem.W.kitOne K (.ref C) (.ref C) = some true)
    (sf1 : PySem.W.selfFirst K C = true)
    (nN : PySem.W.findIn K (.ref C) "n" = some none)
    (nD : PySem.W.findIn K (.ref C) "d" = some none)
    (g2 : PySem.W.nsIn K mainGlobals "Poly" = some (some (.ref CP)))
    (pg2 : PySem.W.plainGet K CP Str.empty = true)
    (hd2 : PySem.W.hasDictIn K CP = true)
    (po2 : PySem.W.plainOver K CP = true)
    (sa2 : PySem.W.findIn K (.ref CP) "__setattr__" = some (some (.builtin "object.__setattr__")))
    (mk2 : PySem.W.makesIn K CP = true)
    (kpC2 : PySem.W.keepIn K (.ref CP) = true)
    (ca2 : PySem.W.findIn K (.ref CP) "__class__" = some (some (.builtin "object.__class__")))
    (cm2 : PySem.W.mroIn K CP (.type "object") = some true)
    (ck2 : PySem.W.kitOne K (.ref CP) (.ref CP) = some true)
    (sf2 : PySem.W.selfFirst K CP = true)
    (nR : PySem.W.findIn K (.ref CP) "row" = some none)
    (nU : PySem.W.findIn K (.ref CP) "_numbers" = some none)
    (nB : PySem.W.findIn K (.ref CP) "_below" = some none)
    (g3 : PySem.W.nsIn K mainGlobals "RatFun" = some (some (.ref CF)))
    (pg3 : PySem.W.plainGet K CF Str.empty = true)
    (hd3 : PySem.W.hasDictIn K CF = true)
    (po3 : PySem.W.plainOver K CF = true)
    (sa3 : PySem.W.findIn K (.ref CF) "__setattr__" = some (some (.builtin "object.__setattr__")))
    (mk3 : PySem.W.makesIn K CF = true)
    (kpC3 : PySem.W.keepIn K (.ref CF) = true)
    (ca3 : PySem.W.findIn K (.ref CF) "__class__" = some (some (.builtin "object.__class__")))
    (cm3 : PySem.W.mroIn K CF (.type "object") = some true)
    (ck3 : PySem.W.kitOne K (.ref CF) (.ref CF) = some true)
    (sf3 : PySem.W.selfFirst K CF = true)
    (nFn : PySem.W.findIn K (.ref CF) "num" = some none)
    (nFd : PySem.W.findIn K (.ref CF) "den" = some none)
    (xZ : PySem.W.excIn K Z [.type "ValueError", .type "Exception", .type "BaseException", .type "object"] "ValueError.__new__" = true)
    (gZ : PySem.W.nsIn K mainGlobals "ZeroDivisor" = some (some (.ref Z)))
    (kpZ : PySem.W.keepIn K (.ref Z) = true)
    (bZ : PySem.W.subIn K (.ref Z) (.type "BaseException") = some true)
    (tZ : PySem.W.typeIn K (.ref Z) = some (.type "type"))
    (aI : PySem.W.findIn K (.ref C) "__init__" = some (some (.ref fI)))
    (iI : PySem.W.isFn K (.ref fI) = true)
    (lI : K.lookup fI = some ⟨ocI, odI, .func (PySem.W.fnOf "__init__" "Ratio.__init__" (defArgs sInit) (defBody sInit) (defScope sInit) (.ref T') kVI dcI pmI anI cdI ctI), slI⟩)
    (lT : K.lookup T' = some ⟨cT, ddT, .seq #[.int 1 tT] nT, slT⟩)
    (cI : PySem.W.codeIn K cdI "Ratio.__init__" = true)
    (kpI : PySem.W.keepIn K (.ref fI) = true)
    (gFF : PySem.W.nsIn K mainGlobals "FIELDS" = some (some (.ref fF)))
    (lF : K.lookup fF = some ⟨.type "tuple", odF, .seq #[.int n0 t0, .int n1 t1, .int n2 t2, .int n3 t3] nF, slF⟩)
    (e0 : n0 = ((2 ^ 61 - 1 : Nat) : Int))
    (e1 : n1 = ((2 ^ 521 - 1 : Nat) : Int))
    (e2 : n2 = ((2 ^ 2203 - 1 : Nat) : Int))
    (e3 : n3 = ((2 ^ 9689 - 1 : Nat) : Int))
    (cn : PySem.W.specialIn K (.builtin "object.__class__") "__get__" = some (some (.builtin "getset_descriptor.__get__")))
    (ct : PySem.W.takesIn K (.builtin "object.__class__") = some true)
    (gN : PySem.W.nsIn K mainGlobals "Refused" = some (some (.ref Nt)))
    (lN : K.lookup Nt = some (excClassObj nmN qN Nt NN bsN bmN true snN subN abN colN ddN k0N k1N k2N k3N k5N "ValueError.__new__"))
    (vN : PySem.HandSPX.refsVE bmN = true)
    (sN : PySem.W.findIn K (.ref Nt) "__setattr__" = some (some (.builtin "object.__setattr__")))
    (bN : PySem.W.subIn K (.ref Nt) (.type "BaseException") = some true)
    (tN : PySem.W.typeIn K (.ref Nt) = some (.type "type"))
    (kpN : PySem.W.keepIn K (.ref Nt) = true)
    (iN : PySem.W.findIn K (.ref Nt) "__init__" = some (some (.ref fN)))
    (tfN' : PySem.W.typeIn K (.ref fN) = some (.type "function"))
    (fnN : K.lookup fN = some ⟨ocN, odN, .func (PySem.W.fnX "__init__" "Refused.__init__" (defArgs sRfu) (defBody sRfu) (defScope sRfu) [("__class__", ccN)] .none kVN dcN pmN anN (.ref cdaN) ctN), slN⟩)
    (cdN : PySem.W.codeIn K (.ref cdaN) "Refused.__init__" = true)
    (cfN : K.lookup cdaN = some ⟨cclN, cddN, .fields vsN, ccsN⟩)
    (h2N : vsN[2]? = some (.str flN tfN))
    (hfN : ((P.main.file : Str) == flN) = true)
    (ceN : K.lookup ccN = some ⟨clN, cldN, .cell (some (.ref Nt)), cslN⟩)
    (mN : PySem.W.mroIn K Nt (.ref Nt) = some true)
    (suN : PySem.W.ks_superIn K Nt Nt "__init__" = some (some (.builtin "ValueError.__init__")))
    (sbN : PySem.W.subIn K (.ref Nt) (.type "ValueError") = some true)
    (stN : PySem.W.nsIn K cStatics "thirdparty.any" = some none)
    (topN : (P.main.scope.names.lookup ("super" : Str)).isSome = false)
    (hdN : PySem.W.hasDictIn K Nt = true)
    (ssN : PySem.W.subIn K (.ref Nt) (.ref Nt) = some true)
    (gaN : PySem.W.findIn K (.ref Nt) "__getattribute__" = some (some (.builtin "BaseException.__getattribute__")))
    (ggN : PySem.W.findIn K (.ref Nt) "__getattr__" = some none)
    (atN : PySem.W.findIn K (.ref Nt) "reason" = some none)
    (caN : PySem.W.findIn K (.ref Nt) "__class__" = some (some (.builtin "object.__class__")))
    (cmN : PySem.W.mroIn K Nt (.type "object") = some true)
    (ckN : PySem.W.kitOne K (.ref Nt) (.ref Nt) = some true)
    (gFa : PySem.W.nsIn K mainGlobals "Fault" = some (some (.ref Fa)))
    (bFa : PySem.W.subIn K (.ref Fa) (.type "BaseException") = some true)
    (hFa : PySem.W.hasDictIn K Fa = true)
    (tFa : PySem.W.typeIn K (.ref Fa) = some (.type "type"))
    (sFa : PySem.W.subIn K (.ref Nt) (.ref Fa) = some true)
    (gg : PySem.W.nsIn K mainGlobals "gcd" = some (some (.builtin "math.gcd")))
    (gl : PySem.W.nsIn K mainGlobals "lcm" = some (some (.builtin "math.lcm")))
    (ki : PySem.W.kitOne K (.type "int") (.ref C) = some false)
    (zsuper : PySem.W.nsIn K mainGlobals "super" = some none)
    (zlen : PySem.W.nsIn K mainGlobals "len" = some none)
    (zrange : PySem.W.nsIn K mainGlobals "range" = some none)
    (zint : PySem.W.nsIn K mainGlobals "int" = some none)
    (zabs : PySem.W.nsIn K mainGlobals "abs" = some none)
    (zisinstance : PySem.W.nsIn K mainGlobals "isinstance" = some none)
    (zbool : PySem.W.nsIn K mainGlobals "bool" = some none)
    (ztuple : PySem.W.nsIn K mainGlobals "tuple" = some none)
    (zlist : PySem.W.nsIn K mainGlobals "list" = some none)
    (ziter : PySem.W.nsIn K mainGlobals "iter" = some none)
    (zzip : PySem.W.nsIn K mainGlobals "zip" = some none)
    (zsum : PySem.W.nsIn K mainGlobals "sum" = some none)
    (zenumerate : PySem.W.nsIn K mainGlobals "enumerate" = some none)
    (zmax : PySem.W.nsIn K mainGlobals "max" = some none)
    (zmin : PySem.W.nsIn K mainGlobals "min" = some none) :
    ∃ fd : FuncData, (∀ (s : Shared) (v : Value), BindsTo s fd ⟨[v], []⟩ [("script", v)]) ∧ ∀ base : Heap, K.In base → base.Ns mainGlobals mg → base.NoSeer → FnOk P w K mg base CX0 60 fa fd ["script"] (spLaw K) := by
  have e := hfa.symm.trans (PySem.W.mg_of X G aL)
  cases e
  have FLg := fun_mk (st := sLd) lLg cLg kpLg
  have bLg := FLg.binds (ps := ["a", "b"]) fun _ _ _ _ _ _ us hl => match us, hl with | [_, _], _ => rfl
  have mLg := PySem.W.mg_of X G aLg
  have FCf := fun_mk (st := sCF) lCf cCf kpCf
  have bCf := FCf.binds (ps := ["numbers"]) fun _ _ _ _ _ _ us hl => match us, hl with | [_], _ => rfl
  have mCf := PySem.W.mg_of X G aCf
  have FNn := fun_mk (st := sOfN) lNn cNn kpNn
  have bNn := FNn.binds (ps := ["numbers", "below"]) fun _ _ _ _ _ _ us hl => match us, hl with | [_, _], _ => rfl
  have mNn := PySem.W.mg_of X G aNn
  have FRs := fun_mk (st := sRS) lRs cRs kpRs
  have bRs := FRs.binds (ps := ["a", "left", "b", "right"]) fun _ _ _ _ _ _ us hl => match us, hl with | [_, _, _, _], _ => rfl
  have mRs := PySem.W.mg_of X G aRs
  have FRp := fun_mk (st := sRP) lRp cRp kpRp
  have bRp := FRp.binds (ps := ["a", "b"]) fun _ _ _ _ _ _ us hl => match us, hl with | [_, _], _ => rfl
  have mRp := PySem.W.mg_of X G aRp
  have FTr := fun_mk (st := sTr) lTr cTr kpTr
  have bTr := FTr.binds (ps := ["row"]) fun _ _ _ _ _ _ us hl => match us, hl with | [_], _ => rfl
  have mTr := PySem.W.mg_of X G aTr
  have FCt := fun_mk (st := sCont) lCt cCt kpCt
  have bCt := FCt.binds (ps := ["row"]) fun _ _ _ _ _ _ us hl => match us, hl with | [_], _ => rfl
  have mCt := PySem.W.mg_of X G aCt
  have FPp := fun_mk (st := sPrR) lPp cPp kpPp
  have bPp := FPp.binds (ps := ["row"]) fun _ _ _ _ _ _ us hl => match us, hl with | [_], _ => rfl
  have mPp := PySem.W.mg_of X G aPp
  have FIm := fun_mk (st := sInvM) lIm cIm kpIm
  have bIm := FIm.binds (ps := ["n", "m"]) fun _ _ _ _ _ _ us hl => match us, hl with | [_, _], _ => rfl
  have mIm := PySem.W.mg_of X G aIm
  have FMm := fun_mk (st := sMonM) lMm cMm kpMm
  have bMm := FMm.binds (ps := ["row", "m"]) fun _ _ _ _ _ _ us hl => match us, hl with | [_, _], _ => rfl
  have mMm := PySem.W.mg_of X G aMm
  have FRe := fun_mk (st := sRemM) lRe cRe kpRe
  have bRe := FRe.binds (ps := ["a", "b", "m"]) fun _ _ _ _ _ _ us hl => match us, hl with | [_, _, _], _ => rfl
  have mRe := PySem.W.mg_of X G aRe
  have FDm := fun_mk (st := sDivMd) lDm cDm kpDm
  have bDm := FDm.binds (ps := ["a", "b", "m"]) fun _ _ _ _ _ _ us hl => match us, hl with | [_, _, _], _ => rfl
  have mDm := PySem.W.mg_of X G aDm
  have FSy := fun_mk (st := sSym) lSy cSy kpSy
  have bSy := FSy.binds (ps := ["n", "m"]) fun _ _ _ _ _ _ us hl => match us, hl with | [_, _], _ => rfl
  have mSy := PySem.W.mg_of X G aSy
  have FDr := fun_mk (st := sDvR) lDr cDr kpDr
  have bDr := FDr.binds (ps := ["a", "b"]) fun _ _ _ _ _ _ us hl => match us, hl with | [_, _], _ => rfl
  have mDr := PySem.W.mg_of X G aDr
  have FRd := fun_mk (st := sRowD) lRd cRd kpRd
  have bRd := FRd.binds (ps := ["a", "b"]) fun _ _ _ _ _ _ us hl => match us, hl with | [_, _], _ => rfl
  have mRd := PySem.W.mg_of X G aRd
  have FEu := fun_mk (st := sEu) lEu cEu kpEu
  have bEu := FEu.binds (ps := ["a", "b"]) fun _ _ _ _ _ _ us hl => match us, hl with | [_, _], _ => rfl
  have mEu := PySem.W.mg_of X G aEu
  have FZr := fun_mk (st := sZero) lZr cZr kpZr
  have bZr := FZr.binds (ps := []) fun _ _ _ _ _ _ us hl => match us, hl with | [], _ => rfl
  have mZr := PySem.W.mg_of X G aZr
  have FOn := fun_mk (st := sOn) lOn cOn kpOn
  have bOn := FOn.binds (ps := []) fun _ _ _ _ _ _ us hl => match us, hl with | [], _ => rfl
  have mOn := PySem.W.mg_of X G aOn
  have FCs := fun_mk (st := sCst) lCs cCs kpCs
  have bCs := FCs.binds (ps := ["r"]) fun _ _ _ _ _ _ us hl => match us, hl with | [_], _ => rfl
  have mCs := PySem.W.mg_of X G aCs
  have FPd := fun_mk (st := sPrd) lPd cPd kpPd
  have bPd := FPd.binds (ps := ["polys"]) fun _ _ _ _ _ _ us hl => match us, hl with | [_], _ => rfl
  have mPd := PySem.W.mg_of X G aPd
  have FCd := fun_mk (st := sCd) lCd cCd kpCd
  have bCd := FCd.binds (ps := ["p", "q"]) fun _ _ _ _ _ _ us hl => match us, hl with | [_, _], _ => rfl
  have mCd := PySem.W.mg_of X G aCd
  have FDo := fun_mk (st := sDo) lDo cDo kpDo
  have bDo := FDo.binds (ps := ["p", "a"]) fun _ _ _ _ _ _ us hl => match us, hl with | [_, _], _ => rfl
  have mDo := PySem.W.mg_of X G aDo
  have FEv := fun_mk (st := sEv) lEv cEv kpEv
  have bEv := FEv.binds (ps := ["p", "a"]) fun _ _ _ _ _ _ us hl => match us, hl with | [_, _], _ => rfl
  have mEv := PySem.W.mg_of X G aEv
  have FOp := fun_mk (st := sOfP) lOp cOp kpOp
  have bOp := FOp.binds (ps := ["p"]) fun _ _ _ _ _ _ us hl => match us, hl with | [_], _ => rfl
  have mOp := PySem.W.mg_of X G aOp
  have FOr := fun_mk (st := sOfR) lOr cOr kpOr
  have bOr := FOr.binds (ps := ["q"]) fun _ _ _ _ _ _ us hl => match us, hl with | [_], _ => rfl
  have mOr := PySem.W.mg_of X G aOr
  have FG := fun_mk (st := sGcd) lG cG kpG
  have bG := FG.binds (ps := ["a", "b"]) fun _ _ _ _ _ _ us hl => match us, hl with | [_, _], _ => rfl
  have mG := PySem.W.mg_of X G aG
  have FFr := fun_mk (st := sFrac) lFr cFr kpFr
  have bFr := FFr.binds (ps := ["n", "d"]) fun _ _ _ _ _ _ us hl => match us, hl with | [_, _], _ => rfl
  have mFr := PySem.W.mg_of X G aFr
  have FSta := fun_mk (st := sState) lSta cSta kpSta
  have bSta := FSta.binds (ps := ["script"]) fun _ _ _ _ _ _ us hl => match us, hl with | [_], _ => rfl
  have mSta := PySem.W.mg_of X G aSta
  have FTk := fun_mk (st := sTake) lTk cTk kpTk
  have bTk := FTk.binds (ps := ["state", "m"]) fun _ _ _ _ _ _ us hl => match us, hl with | [_, _], _ => rfl
  have mTk := PySem.W.mg_of X G aTk
  have FP := fun_mk (st := sPair20) lP cP kpP
  have bP := FP.binds (ps := ["value"]) fun _ _ _ _ _ _ us hl => match us, hl with | [_], _ => rfl
  have mP := PySem.W.mg_of X G aP
  have FFct := fun_mk (st := sFct) lFct cFct kpFct
  have bFct := FFct.binds (ps := ["powers"]) fun _ _ _ _ _ _ us hl => match us, hl with | [_], _ => rfl
  have mFct := PySem.W.mg_of X G aFct
  have FIsr := fun_mk (st := sIsR) lIsr cIsr kpIsr
  have bIsr := FIsr.binds (ps := ["zero_v", "p"]) fun _ _ _ _ _ _ us hl => match us, hl with | [_, _], _ => rfl
  have mIsr := PySem.W.mg_of X G aIsr
  have FZi := fun_mk (st := sIsZ) lZi cZi kpZi
  have bZi := FZi.binds (ps := ["self"]) fun _ _ _ _ _ _ us hl => match us, hl with | [_], _ => rfl
  have MZi : Meth K C "is_zero" fZi := ⟨aZi, iZi, kpZi⟩
  have FIv := fun_mk (st := sInvR) lIv cIv kpIv
  have bIv := FIv.binds (ps := ["self"]) fun _ _ _ _ _ _ us hl => match us, hl with | [_], _ => rfl
  have MIv : Meth K C "inverse" fIv := ⟨aIv, iIv, kpIv⟩
  have FPI := fun_mk (st := sPI) lPI cPI kpPI
  have bPI := FPI.binds (ps := ["self", "row"]) fun _ _ _ _ _ _ us hl => match us, hl with | [_, _], _ => rfl
  have MPI : Meth K CP "__init__" fPI := ⟨aPI, iPI, kpPI⟩
  have FPz := fun_mk (st := sPIz) lPz cPz kpPz
  have bPz := FPz.binds (ps := ["self"]) fun _ _ _ _ _ _ us hl => match us, hl with | [_], _ => rfl
  have MPz : Meth K CP "is_zero" fPz := ⟨aPz, iPz, kpPz⟩
  have FPg := fun_mk (st := sPDg) lPg cPg kpPg
  have bPg := FPg.binds (ps := ["self"]) fun _ _ _ _ _ _ us hl => match us, hl with | [_], _ => rfl
  have MPg : Meth K CP "degree" fPg := ⟨aPg, iPg, kpPg⟩
  have FDb := fun_mk (st := sPDb) lDb cDb kpDb
  have bDb := FDb.binds (ps := ["self", "other"]) fun _ _ _ _ _ _ us hl => match us, hl with | [_, _], _ => rfl
  have MDb : Meth K CP "divided_by" fDb := ⟨aDb, iDb, kpDb⟩
  have FPl := fun_mk (st := sPLa) lPl cPl kpPl
  have bPl := FPl.binds (ps := ["self"]) fun _ _ _ _ _ _ us hl => match us, hl with | [_], _ => rfl
  have MPl : Meth K CP "last" fPl := ⟨aPl, iPl, kpPl⟩
  have FPm := fun_mk (st := sPPr) lPm cPm kpPm
  have bPm := FPm.binds (ps := ["self"]) fun _ _ _ _ _ _ us hl => match us, hl with | [_], _ => rfl
  have MPm : Meth K CP "primitive" fPm := ⟨aPm, iPm, kpPm⟩
  have FSc := fun_mk (st := sPSc) lSc cSc kpSc
  have bSc := FSc.binds (ps := ["self", "r"]) fun _ _ _ _ _ _ us hl => match us, hl with | [_, _], _ => rfl
  have MSc : Meth K CP "scaled" fSc := ⟨aSc, iSc, kpSc⟩
  have FMo := fun_mk (st := sPMo) lMo cMo kpMo
  have bMo := FMo.binds (ps := ["self"]) fun _ _ _ _ _ _ us hl => match us, hl with | [_], _ => rfl
  have MMo : Meth K CP "monic" fMo := ⟨aMo, iMo, kpMo⟩
  have FFd := fun_mk (st := sPFd) lFd cFd kpFd
  have bFd := FFd.binds (ps := ["self", "other"]) fun _ _ _ _ _ _ us hl => match us, hl with | [_, _], _ => rfl
  have MFd : Meth K CP "__floordiv__" fFd := ⟨aFd, iFd, kpFd⟩
  have FMl := fun_mk (st := sPMul) lMl cMl kpMl
  have bMl := FMl.binds (ps := ["self", "other"]) fun _ _ _ _ _ _ us hl => match us, hl with | [_, _], _ => rfl
  have MMl : Meth K CP "__mul__" fMl := ⟨aMl, iMl, kpMl⟩
  have FPc := fun_mk (st := sPCo) lPc cPc kpPc
  have bPc := FPc.binds (ps := ["self", "k"]) fun _ _ _ _ _ _ us hl => match us, hl with | [_, _], _ => rfl
  have MPc : Meth K CP "coefficient" fPc := ⟨aPc, iPc, kpPc⟩
  have FFI := fun_mk (st := sRF) lFI cFI kpFI
  have bFI := FFI.binds (ps := ["self", "num", "den"]) fun _ _ _ _ _ _ us hl => match us, hl with | [_, _, _], _ => rfl
  have MFI : Meth K CF "__init__" fFI := ⟨aFI, iFI, kpFI⟩
  have FFz := fun_mk (st := sFz) lFz cFz kpFz
  have bFz := FFz.binds (ps := ["self"]) fun _ _ _ _ _ _ us hl => match us, hl with | [_], _ => rfl
  have MFz : Meth K CF "is_zero" fFz := ⟨aFz, iFz, kpFz⟩
  have FFp := fun_mk (st := sFp) lFp cFp kpFp
  have bFp := FFp.binds (ps := ["self"]) fun _ _ _ _ _ _ us hl => match us, hl with | [_], _ => rfl
  have MFp : Meth K CF "is_polynomial" fFp := ⟨aFp, iFp, kpFp⟩
  have FFc := fun_mk (st := sFc) lFc cFc kpFc
  have bFc := FFc.binds (ps := ["self"]) fun _ _ _ _ _ _ us hl => match us, hl with | [_], _ => rfl
  have MFc : Meth K CF "as_constant" fFc := ⟨aFc, iFc, kpFc⟩
  have FFo := fun_mk (st := sFo) lFo cFo kpFo
  have bFo := FFo.binds (ps := ["self", "p"]) fun _ _ _ _ _ _ us hl => match us, hl with | [_, _], _ => rfl
  have MFo : Meth K CF "order_at" fFo := ⟨aFo, iFo, kpFo⟩
  have FFg := fun_mk (st := sFd2) lFg cFg kpFg
  have bFg := FFg.binds (ps := ["self"]) fun _ _ _ _ _ _ us hl => match us, hl with | [_], _ => rfl
  have MFg : Meth K CF "degree" fFg := ⟨aFg, iFg, kpFg⟩
  have FFl := fun_mk (st := sFl) lFl cFl kpFl
  have bFl := FFl.binds (ps := ["self"]) fun _ _ _ _ _ _ us hl => match us, hl with | [_], _ => rfl
  have MFl : Meth K CF "leading" fFl := ⟨aFl, iFl, kpFl⟩
  have FL := fun_mk (st := sLaw) lL cL kpL
  have mL := PySem.W.mg_of X G aL
  have TON : OexC K Nt := ⟨⟨_, _, _, _, _, _, _, _, _, _, _, _, _, _, _, lN, vN⟩, sN, bN, tN, kpN⟩
  have FN : SupD P K mg "__init__" "Refused.__init__" (defArgs sRfu) (defBody sRfu) (defScope sRfu) Nt ccN cdaN fN (PySem.W.fnX "__init__" "Refused.__init__" (defArgs sRfu) (defBody sRfu) (defScope sRfu) [("__class__", ccN)] .none kVN dcN pmN anN (.ref cdaN) ctN) "self" :=
    ⟨⟨_, _, _, _, _, _, _, _, _, rfl, fnN⟩, cdN, ⟨_, _, _, _, _, _, cfN, h2N, hfN⟩, ⟨_, _, _, ceN⟩, ⟨_, rfl, rfl⟩, TON, mN, suN, sbN, stN, topN, PySem.W.mg_none_of X G zsuper⟩
  have bNt : Binds K (PySem.W.fnX "__init__" "Refused.__init__" (defArgs sRfu) (defBody sRfu) (defScope sRfu) [("__class__", ccN)] .none kVN dcN pmN anN (.ref cdaN) ctN) ["self", "reason"] [] := .all fun us hl => match us, hl with | [_, _], _ => rfl
  have XFN : XfC K Nt := ⟨gaN, ggN, bN, hdN⟩
  have XCN : ExcC K Nt := ⟨gaN, ggN, bN, hdN, caN, cn, ct, cmN⟩
  have T : TxL K mg := ⟨PySem.W.mg_none_of X G zlen, PySem.W.mg_none_of X G zrange, PySem.W.mg_none_of X G zint, PySem.W.mg_none_of X G zabs, PySem.W.mg_none_of X G zisinstance, PySem.W.mg_none_of X G zbool⟩
  have R : TxR K mg C Z := ⟨⟨pg1, hd1, po1, sa1⟩, nN, nD, PySem.W.mg_of X G g1, PySem.W.mg_of X G gg, xZ, PySem.W.mg_of X G gZ, kpZ, bZ, tZ⟩
  have TP : TxP K mg CP := ⟨⟨pg2, hd2, po2, sa2⟩, nR, nU, nB, PySem.W.mg_of X G g2, PySem.W.mg_none_of X G ztuple, PySem.W.mg_none_of X G zlist, PySem.W.mg_none_of X G ziter, PySem.W.mg_none_of X G zzip, PySem.W.mg_none_of X G zsum, PySem.W.mg_none_of X G zenumerate⟩
  have TF : TxF K mg CF := ⟨⟨pg3, hd3, po3, sa3⟩, nFn, nFd, PySem.W.mg_of X G g3⟩
  have I : TxI K C := ⟨ca1, cn, ct, cm1, ck1⟩
  have ml := PySem.W.mg_of X G gl
  have ggm := PySem.W.mg_of X G gg
  have mNt := PySem.W.mg_of X G gN
  have FI : FunD K "__init__" "Ratio.__init__" (defArgs sInit) (defBody sInit) (defScope sInit) [.int 1] [] fI (PySem.W.fnOf "__init__" "Ratio.__init__" (defArgs sInit) (defBody sInit) (defScope sInit) (.ref T') kVI dcI pmI anI cdI ctI) :=
    ⟨⟨_, _, _, _, _, _, _, _, _, _, rfl, lI, cI, .inr ⟨(by simp), _, _, [.int 1 tT], nT, rfl, lT, rfl, .cons ⟨tT, rfl⟩ .nil⟩, .inl rfl⟩, kpI⟩
  obtain ⟨ds2, v2, b2⟩ := FI.binds1 (ps := ["self", "n", "d"]) 3 1 (by simp) rfl (fun T kV doc pm an cdv ct us its h1 h2 => match us, its, h1, h2 with | [_, _, _], [_], _, _ => ⟨_, rfl, rfl⟩)
  obtain ⟨ds1, v1, b1⟩ := FI.binds1 (ps := ["self", "n", "d"]) 2 0 (by simp) rfl (fun T kV doc pm an cdv ct us its h1 h2 => match us, its, h1, h2 with | [_, _], [_], _, _ => ⟨_, rfl, rfl⟩)
  cases v2
  refine ⟨(PySem.W.fnOf "law" "law" (defArgs sLaw) (defBody sLaw) (defScope sLaw) .none kVL dcL pmL anL cdL ctL), fun s v => .of_eq rfl, fun base _ _ hN => ?_⟩
  have M : MkR P w K mg base C Z fI _ ds1 := ⟨⟨mk1, aI, iI, kpC1⟩, ok_init hN hT FI R, b2, b1, v1⟩
  have MP : MkP P w K mg base C CP fPI _ := ⟨⟨mk2, aPI, iPI, kpC2⟩, ok_pi FPI T R I ki TP M MZi bZi (ok_isz FZi R) (ok_cfL hN hT FCf R ml) kpCf bCf mCf, bPI⟩
  have GTr := ok_trim (P := P) (w := w) (base := base) FTr T
  have O : TxO P w K mg base C CP fNn fRs fRp _ _ _ := ⟨mNn, kpNn, bNn, ok_ofn FNn R TP M MP, mRs, kpRs, bRs, ok_rs FRs T TP.enum, mRp, kpRp, bRp, ok_rp FRp T TP.enum GTr kpTr bTr mTr, ml⟩
  have GIz := ok_piz (C := C) (P := P) (w := w) (base := base) FPz T TP
  have GDg := ok_pdg (C := C) (P := P) (w := w) (base := base) FPg T TP
  have GLg := ok_ld (P := P) (w := w) (base := base) hN hT FLg T TP ggm GTr kpTr bTr mTr
  have GDb := dv2 (ok_pdb FDb R TP O GIz bPz MPz GLg kpLg bLg mLg)
  have GCt := ok_cont (P := P) (w := w) (base := base) FCt ggm
  have GPp := ok_prr (P := P) (w := w) (base := base) hN hT FPp T GCt kpCt bCt mCt
  have OF : OwnR P w K mg base CP "__floordiv__" (spFd C Z CP) fFd _ := ⟨ok_fd FFd TP GDb bDb MDb, aFd, iFd, bFd, sf2⟩
  have PM : OwnB P w K mg base CP "__mul__" (spPMul C CP) fMl _ := ⟨ok_pmul hN hT FMl TP O, aMl, iMl, bMl, sf2⟩
  have GLa := ok_pla (P := P) (w := w) (base := base) FPl R TP GIz bPz MPz
  have GPr := ok_ppr (P := P) (w := w) (base := base) hN hT FPm R M TP GIz bPz MPz GCt kpCt bCt mCt
  have GMo := ok_pmo (P := P) (w := w) (base := base) FMo TP O GIz bPz MPz
  have GIv := ok_invr (P := P) (w := w) (base := base) FIv R M
  have GCs := ok_cst (P := P) (w := w) (base := base) FCs TP MP
  have GOn := ok_on (P := P) (w := w) (base := base) FOn R M
  have GSc := ok_psc (P := P) (w := w) (base := base) FSc R TP O
  have GDm := ok_divmd (P := P) (w := w) (base := base) FDm T ⟨GTr, kpTr, bTr, mTr, ok_monm FMm (ok_invm hN hT FIm) kpIm bIm mIm, kpMm, bMm, mMm, ok_remm FRe T TP GTr kpTr bTr mTr, kpRe, bRe, mRe⟩
  have GRd := ok_rowd (P := P) (w := w) (base := base) FRd T ⟨GDm, kpDm, bDm, mDm, ok_sym FSy, kpSy, bSy, mSy, GPp, kpPp, bPp, mPp, ok_dvr FDr T GLg kpLg bLg mLg, kpDr, bDr, mDr, ok_eu FEu T GLg kpLg bLg mLg GPp kpPp bPp mPp, kpEu, bEu, mEu, PySem.W.mg_of X G gFF, fun H => fields_at lF e0 e1 e2 e3 H, ggm⟩
  have GCd := ok_cd (Z := Z) FCd TP ⟨MPz, bPz, GIz, MPg, bPg, GDg, MMo, bMo, GMo, MPm, bPm, GPr, mCs, kpCs, bCs, GCs, mOn, kpOn, bOn, GOn, mRd, kpRd, bRd, GRd, MP⟩
  have MF : MkF P w K mg base C Z CP CF fFI _ := ⟨⟨mk3, aFI, iFI, kpC3⟩, ok_rf FFI R TP TF ⟨MPz, bPz, GIz, MPg, bPg, GDg, MMo, bMo, GMo, MPl, bPl, GLa, MIv, bIv, GIv, MSc, bSc, GSc, mCd, kpCd, bCd, GCd, OF⟩, bFI⟩
  have NC : RfC P w K mg base Nt fN _ := ⟨TON, iN, tfN', ok_rfu FN atN, bNt, mNt⟩
  have NX : TxRf K mg Nt Fa := ⟨PySem.W.mg_of X G gFa, PySem.W.exm_ref bFa hFa tFa sFa, XFN, atN, XCN, ckN⟩
  have GZr := ok_zero (P := P) (w := w) (base := base) FZr R M
  have GFz := ok_fz (P := P) (w := w) (base := base) FFz TP TF GIz bPz MPz
  have GFp := ok_fp (P := P) (w := w) (base := base) FFp TP TF GDg bPg MPg
  have GPc := ok_pco (P := P) (w := w) (base := base) FPc T TP GZr kpZr bZr mZr
  have GFc := ok_fc (P := P) (w := w) (base := base) FFc TP TF GDg bPg MPg GPc bPc MPc
  have GOp := ok_ofp (P := P) (w := w) (base := base) FOp TF MF GOn kpOn bOn mOn GCs kpCs bCs mCs
  have GOr := ok_ofr (P := P) (w := w) (base := base) FOr GOp kpOp bOp mOp GCs kpCs bCs mCs
  have GDo := ok_do (P := P) (w := w) (base := base) FDo R TP GIz bPz MPz GDg bPg MPg GDb bDb MDb
  have GEv := ok_ev (P := P) (w := w) (base := base) FEv TP GDo kpDo bDo mDo GCd kpCd bCd mCd GDg bPg MPg
  have GFo := ok_for (P := P) (w := w) (base := base) FFo TF NC GFz bFz MFz GEv kpEv bEv mEv
  have GFg := ok_fdg (P := P) (w := w) (base := base) FFg TP TF NC GFz bFz MFz GDg bPg MPg
  have GFl := ok_fld (P := P) (w := w) (base := base) FFl TP TF NC GFz bFz MFz GLa bPl MPl
  have GPd := ok_prd (P := P) (w := w) (base := base) FPd ⟨mCs, kpCs, bCs, GCs, mOn, kpOn, bOn, GOn⟩ PM
  have GFct := ok_fct (P := P) (w := w) (base := base) FFct T TP MP GPd kpPd bPd mPd
  have GIsr := ok_isR (P := P) (w := w) (base := base) FIsr T TF NC NX GFo bFo MFo GFg bFg MFg GFl bFl MFl
  exact ok_law FL T ⟨PySem.W.mg_none_of X G zmax, PySem.W.mg_none_of X G zmin⟩ R TP TF M MF ⟨⟨_, _, mSta, kpSta, bSta, ok_state FSta T⟩, ⟨_, _, mTk, kpTk, bTk, ok_take hN hT FTk T⟩, ⟨_, _, mFr, kpFr, bFr, ok_frac hN hT FFr (ok_gcd20 FG T) kpG bG mG⟩, ⟨_, _, mFct, kpFct, bFct, GFct⟩, ⟨_, _, mP, kpP, bP, ok_pair20 FP T R I⟩, ⟨_, _, mIsr, kpIsr, bIsr, GIsr⟩, ⟨_, _, mOr, kpOr, bOr, GOr⟩,
    ⟨_, _, MSc, bSc, GSc⟩, ⟨_, _, MFo, bFo, GFo⟩, ⟨_, _, MFg, bFg, GFg⟩, ⟨_, _, MFl, bFl, GFl⟩, ⟨_, _, MFp, bFp, GFp⟩, ⟨_, _, MFc, bFc, GFc⟩⟩
theorem walk {l : PySem.W.OpenLaw} {q : Program} {loose : List Str} {XP : (Str → Option Value) → Heap → Prop} {YP : World → Heap → Prop} {d : DefRec} {K : Params → PySem.W.Frag} (hn : l.most = some 63) (hdf : d.params.defaults = []) (hi : importsNone q = true)
    (hY : ∀ (w : World) (h : Heap), YP w h → (K w.params).In h)
    (F : ∀ (w : World) (mg : Str → Option Value) (fa : Addr) (h : Heap), (K w.params).In h → h.Ns mainGlobals mg → mg d.name = some (.ref fa) →
      ∃ fd : FuncData, (∀ (s : Shared) (u : Value), BindsTo s fd ⟨[u], []⟩ [("script", u)]) ∧ ∀ base : Heap, (K w.params).In base → base.Ns mainGlobals mg → base.NoSeer → FnOk l.prog w (K w.params) mg base CX0 60 fa fd ["script"] (spLaw (K w.params))) :
    PySem.W.WalkO q loose XP YP l.row.toRowW d [] (fun f vs => PySem.call f vs) :=
  walk_far (n := 63) (k := 60) (x := "script") (sp := fun w => spLaw (K w.params)) hn (by decide) hdf ⟨rfl, by decide, by decide⟩ hi hY F fun _ _ a ns _ hb hS => ⟨a, ns, rfl, hS, hb, fun _ => rfl⟩
end Ind

set_option Elab.async false
set_option linter.all false
set_option exponentiation.threshold 20000
open PySem PySem.W PyProof.Rows in
set_option maxRecDepth 100000 in
set_option maxHeartbeats 0 in
theorem PySem.Challenge.cw_indicial_k20_orders_and_degrees_holds : PySem.Challenge.rw_indicial_k20_orders_and_degrees.Holds := by
  w_on; o_law; k_head; (case hw => w_witness2)
  k_fill
  refine Ind.walk (l := PySem.Challenge.rw_indicial_k20_orders_and_degrees) rfl rfl (by decide +kernel) (fun w h Y => PySem.W.kIn_of Y) ?F
  case F =>
    intro w mg fa h KX G hmg
    refine' Ind.all_mk rfl KX G hmg ?aLg ?lLg ?cLg ?kpLg ?aCf ?lCf ?cCf ?kpCf ?aNn ?lNn ?cNn ?kpNn ?aRs ?lRs ?cRs ?kpRs ?aRp ?lRp ?cRp ?kpRp ?aTr ?lTr ?cTr ?kpTr ?aCt ?lCt ?cCt ?kpCt ?aPp ?lPp ?cPp ?kpPp ?aIm ?lIm ?cIm ?kpIm ?aMm ?lMm ?cMm ?kpMm ?aRe ?lRe ?cRe ?kpRe ?aDm ?lDm ?cDm ?kpDm ?aSy ?lSy ?cSy ?kpSy ?aDr ?lDr ?cDr ?kpDr ?aRd ?lRd ?cRd ?kpRd ?aEu ?lEu ?cEu ?kpEu ?aZr ?lZr ?cZr ?kpZr ?aOn ?lOn ?cOn ?kpOn ?aCs ?lCs ?cCs ?kpCs ?aPd ?lPd ?cPd ?kpPd ?aCd ?lCd ?cCd ?kpCd ?aDo ?lDo ?cDo ?kpDo ?aEv ?lEv ?cEv ?kpEv ?aOp ?lOp ?cOp ?kpOp ?aOr ?lOr ?cOr ?kpOr ?aG ?lG ?cG ?kpG ?aFr ?lFr ?cFr ?kpFr ?aSta ?lSta ?cSta ?kpSta ?aTk ?lTk ?cTk ?kpTk ?aP ?lP ?cP ?kpP ?aFct ?lFct ?cFct ?kpFct ?aIsr ?lIsr ?cIsr ?kpIsr ?aZi ?iZi ?lZi ?cZi ?kpZi ?aIv ?iIv ?lIv ?cIv ?kpIv ?aPI ?iPI ?lPI ?cPI ?kpPI ?aPz ?iPz ?lPz ?cPz ?kpPz ?aPg ?iPg ?lPg ?cPg ?kpPg ?aDb ?iDb ?lDb ?cDb ?kpDb ?aPl ?iPl ?lPl ?cPl ?kpPl ?aPm ?iPm ?lPm ?cPm ?kpPm ?aSc ?iSc ?lSc ?cSc ?kpSc ?aMo ?iMo ?lMo ?cMo ?kpMo ?aFd ?iFd ?lFd ?cFd ?kpFd ?aMl ?iMl ?lMl ?cMl ?kpMl ?aPc ?iPc ?lPc ?cPc ?kpPc ?aFI ?iFI ?lFI ?cFI ?kpFI ?aFz ?iFz ?lFz ?cFz ?kpFz ?aFp ?iFp ?lFp ?cFp ?kpFp ?aFc ?iFc ?lFc ?cFc ?kpFc ?aFo ?iFo ?lFo ?cFo ?kpFo ?aFg ?iFg ?lFg ?cFg ?kpFg ?aFl ?iFl ?lFl ?cFl ?kpFl ?aL ?lL ?cL ?kpL ?g1 ?pg1 ?hd1 ?po1 ?sa1 ?mk1 ?kpC1 ?ca1 ?cm1 ?ck1 ?sf1 ?nN ?nD ?g2 ?pg2 ?hd2 ?po2 ?sa2 ?mk2 ?kpC2 ?ca2 ?cm2 ?ck2 ?sf2 ?nR ?nU ?nB ?g3 ?pg3 ?hd3 ?po3 ?sa3 ?mk3 ?kpC3 ?ca3 ?cm3 ?ck3 ?sf3 ?nFn ?nFd ?xZ ?gZ ?kpZ ?bZ ?tZ ?aI ?iI ?lI ?lT ?cI ?kpI ?gFF ?lF ?e0 ?e1 ?e2 ?e3 ?cn ?ct ?gN ?lN ?vN ?sN ?bN ?tN ?kpN ?iN ?tfN' ?fnN ?cdN ?cfN ?h2N ?hfN ?ceN ?mN ?suN ?sbN ?stN ?topN ?hdN ?ssN ?gaN ?ggN ?atN ?caN ?cmN ?ckN ?gFa ?bFa ?hFa ?tFa ?sFa ?gg ?gl ?ki ?zsuper ?zlen ?zrange ?zint ?zabs ?zisinstance ?zbool ?ztuple ?zlist ?ziter ?zzip ?zsum ?zenumerate ?zmax ?zmin
    (case g1 => k_is)
    (case g2 => k_is)
    (case g3 => k_is)
    (case gZ => k_is)
    (case gFF => k_is)
    (case gN => k_is)
    (case iN => k_is)
    (case lN => k_is)
    (case fnN => k_is)
    (case ceN => k_is)
    (case cfN => k_is)
    (case gFa => k_is)
    (case aLg => k_is)
    (case lLg => k_is)
    (case cLg => k_is)
    (case kpLg => k_is)
    (case aCf => k_is)
    (case lCf => k_is)
    (case cCf => k_is)
    (case kpCf => k_is)
    (case aNn => k_is)
    (case lNn => k_is)
    (case cNn => k_is)
    (case kpNn => k_is)
    (case aRs => k_is)
    (case lRs => k_is)
    (case cRs => k_is)
    (case kpRs => k_is)
    (case aRp => k_is)
    (case lRp => k_is)
    (case cRp => k_is)
    (case kpRp => k_is)
    (case aTr => k_is)
    (case lTr => k_is)
    (case cTr => k_is)
    (case kpTr => k_is)
    (case aCt => k_is)
    (case lCt => k_is)
    (case cCt => k_is)
    (case kpCt => k_is)
    (case aPp => k_is)
    (case lPp => k_is)
    (case cPp => k_is)
    (case kpPp => k_is)
    (case aIm => k_is)
    (case lIm => k_is)
    (case cIm => k_is)
    (case kpIm => k_is)
    (case aMm => k_is)
    (case lMm => k_is)
    (case cMm => k_is)
    (case kpMm => k_is)
    (case aRe => k_is)
    (case lRe => k_is)
    (case cRe => k_is)
    (case kpRe => k_is)
    (case aDm => k_is)
    (case lDm => k_is)
    (case cDm => k_is)
    (case kpDm => k_is)
    (case aSy => k_is)
    (case lSy => k_is)
    (case cSy => k_is)
    (case kpSy => k_is)
    (case aDr => k_is)
    (case lDr => k_is)
    (case cDr => k_is)
    (case kpDr => k_is)
    (case aRd => k_is)
    (case lRd => k_is)
    (case cRd => k_is)
    (case kpRd => k_is)
    (case aEu => k_is)
    (case lEu => k_is)
    (case cEu => k_is)
    (case kpEu => k_is)
    (case aZr => k_is)
    (case lZr => k_is)
    (case cZr => k_is)
    (case kpZr => k_is)
    (case aOn => k_is)
    (case lOn => k_is)
    (case cOn => k_is)
    (case kpOn => k_is)
    (case aCs => k_is)
    (case lCs => k_is)
    (case cCs => k_is)
    (case kpCs => k_is)
    (case aPd => k_is)
    (case lPd => k_is)
    (case cPd => k_is)
    (case kpPd => k_is)
    (case aCd => k_is)
    (case lCd => k_is)
    (case cCd => k_is)
    (case kpCd => k_is)
    (case aDo => k_is)
    (case lDo => k_is)
    (case cDo => k_is)
    (case kpDo => k_is)
    (case aEv => k_is)
    (case lEv => k_is)
    (case cEv => k_is)
    (case kpEv => k_is)
    (case aOp => k_is)
    (case lOp => k_is)
    (case cOp => k_is)
    (case kpOp => k_is)
    (case aOr => k_is)
    (case lOr => k_is)
    (case cOr => k_is)
    (case kpOr => k_is)
    (case aG => k_is)
    (case lG => k_is)
    (case cG => k_is)
    (case kpG => k_is)
    (case aFr => k_is)
    (case lFr => k_is)
    (case cFr => k_is)
    (case kpFr => k_is)
    (case aSta => k_is)
    (case lSta => k_is)
    (case cSta => k_is)
    (case kpSta => k_is)
    (case aTk => k_is)
    (case lTk => k_is)
    (case cTk => k_is)
    (case kpTk => k_is)
    (case aP => k_is)
    (case lP => k_is)
    (case cP => k_is)
    (case kpP => k_is)
    (case aFct => k_is)
    (case lFct => k_is)
    (case cFct => k_is)
    (case kpFct => k_is)
    (case aIsr => k_is)
    (case lIsr => k_is)
    (case cIsr => k_is)
    (case kpIsr => k_is)
    (case aZi => k_is)
    (case iZi => k_is)
    (case lZi => k_is)
    (case cZi => k_is)
    (case kpZi => k_is)
    (case aIv => k_is)
    (case iIv => k_is)
    (case lIv => k_is)
    (case cIv => k_is)
    (case kpIv => k_is)
    (case aPI => k_is)
    (case iPI => k_is)
    (case lPI => k_is)
    (case cPI => k_is)
    (case kpPI => k_is)
    (case aPz => k_is)
    (case iPz => k_is)
    (case lPz => k_is)
    (case cPz => k_is)
    (case kpPz => k_is)
    (case aPg => k_is)
    (case iPg => k_is)
    (case lPg => k_is)
    (case cPg => k_is)
    (case kpPg => k_is)
    (case aDb => k_is)
    (case iDb => k_is)
    (case lDb => k_is)
    (case cDb => k_is)
    (case kpDb => k_is)
    (case aPl => k_is)
    (case iPl => k_is)
    (case lPl => k_is)
    (case cPl => k_is)
    (case kpPl => k_is)
    (case aPm => k_is)
    (case iPm => k_is)
    (case lPm => k_is)
    (case cPm => k_is)
    (case kpPm => k_is)
    (case aSc => k_is)
    (case iSc => k_is)
    (case lSc => k_is)
    (case cSc => k_is)
    (case kpSc => k_is)
    (case aMo => k_is)
    (case iMo => k_is)
    (case lMo => k_is)
    (case cMo => k_is)
    (case kpMo => k_is)
    (case aFd => k_is)
    (case iFd => k_is)
    (case lFd => k_is)
    (case cFd => k_is)
    (case kpFd => k_is)
    (case aMl => k_is)
    (case iMl => k_is)
    (case lMl => k_is)
    (case cMl => k_is)
    (case kpMl => k_is)
    (case aPc => k_is)
    (case iPc => k_is)
    (case lPc => k_is)
    (case cPc => k_is)
    (case kpPc => k_is)
    (case aFI => k_is)
    (case iFI => k_is)
    (case lFI => k_is)
    (case cFI => k_is)
    (case kpFI => k_is)
    (case aFz => k_is)
    (case iFz => k_is)
    (case lFz => k_is)
    (case cFz => k_is)
    (case kpFz => k_is)
    (case aFp => k_is)
    (case iFp => k_is)
    (case lFp => k_is)
    (case cFp => k_is)
    (case kpFp => k_is)
    (case aFc => k_is)
    (case iFc => k_is)
    (case lFc => k_is)
    (case cFc => k_is)
    (case kpFc => k_is)
    (case aFo => k_is)
    (case iFo => k_is)
    (case lFo => k_is)
    (case cFo => k_is)
    (case kpFo => k_is)
    (case aFg => k_is)
    (case iFg => k_is)
    (case lFg => k_is)
    (case cFg => k_is)
    (case kpFg => k_is)
    (case aFl => k_is)
    (case iFl => k_is)
    (case lFl => k_is)
    (case cFl => k_is)
    (case kpFl => k_is)
    (case aL => k_is)
    (case lL => k_is)
    (case cL => k_is)
    (case kpL => k_is)
    (case pg1 => k_is)
    (case hd1 => k_is)
    (case po1 => k_is)
    (case sa1 => k_is)
    (case mk1 => k_is)
    (case kpC1 => k_is)
    (case ca1 => k_is)
    (case cm1 => k_is)
    (case ck1 => kit_is)
    (case sf1 => k_is)
    (case nN => k_is)
    (case nD => k_is)
    (case pg2 => k_is)
    (case hd2 => k_is)
    (case po2 => k_is)
    (case sa2 => k_is)
    (case mk2 => k_is)
    (case kpC2 => k_is)
    (case ca2 => k_is)
    (case cm2 => k_is)
    (case ck2 => kit_is)
    (case sf2 => k_is)
    (case nR => k_is)
    (case nU => k_is)
    (case nB => k_is)
    (case pg3 => k_is)
    (case hd3 => k_is)
    (case po3 => k_is)
    (case sa3 => k_is)
    (case mk3 => k_is)
    (case kpC3 => k_is)
    (case ca3 => k_is)
    (case cm3 => k_is)
    (case ck3 => kit_is)
    (case sf3 => k_is)
    (case nFn => k_is)
    (case nFd => k_is)
    (case xZ => k_exc)
    (case kpZ => k_is)
    (case bZ => k_is)
    (case tZ => k_is)
    (case aI => k_is)
    (case iI => k_is)
    (case lI => k_is)
    (case lT => k_is)
    (case cI => k_is)
    (case kpI => k_is)
    (case lF => k_is)
    (case e0 => decide +kernel)
    (case e1 => decide +kernel)
    (case e2 => decide +kernel)
    (case e3 => decide +kernel)
    (case cn => k_is)
    (case ct => k_is)
    (case vN => decide +kernel)
    (case sN => k_is)
    (case bN => k_is)
    (case tN => k_is)
    (case kpN => k_is)
    (case tfN' => k_is)
    (case cdN => k_is)
    (case h2N => rfl)
    (case hfN => first | rfl | decide +kernel)
    (case mN => k_is)
    (case suN => ks_is)
    (case sbN => k_is)
    (case stN => k_is)
    (case topN => rfl)
    (case hdN => k_is)
    (case ssN => k_is)
    (case gaN => k_is)
    (case ggN => k_is)
    (case atN => k_is)
    (case caN => k_is)
    (case cmN => k_is)
    (case ckN => kit_is)
    (case bFa => k_is)
    (case hFa => k_is)
    (case tFa => k_is)
    (case sFa => k_is)
    (case gg => k_is)
    (case gl => k_is)
    (case ki => kit_is)
    (case zsuper => k_is)
    (case zlen => k_is)
    (case zrange => k_is)
    (case zint => k_is)
    (case zabs => k_is)
    (case zisinstance => k_is)
    (case zbool => k_is)
    (case ztuple => k_is)
    (case zlist => k_is)
    (case ziter => k_is)
    (case zzip => k_is)
    (case zsum => k_is)
    (case zenumerate => k_is)
    (case zmax => k_is)
    (case zmin => k_is)
#print axioms PySem.Challenge.cw_indicial_k20_orders_and_degrees_holds
