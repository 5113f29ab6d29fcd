import PyProof.Rows.All
import Wide.All
import OpenK.AllK
import Wide.FinOn
import HandS.ForMost
import HandS.ForExc
import HandS.EndBits
import HandS.Gcd
import HandS.IsInst
import HandS.ExcIs
import HandS.OwnEq
import HandS.Defaults
import HandS.Wide
import HandS.Property
import KE.IntBitsLaws
import KE.KOpsOwn
import HandS.TryOnly
import HandS.ExcOwn
import HandS.Codes
import HandS.Iter
import KE.RegKIsAll
import PySem.Challenge.RW_indicial_k01_arithmetic
set_option Elab.async false
set_option linter.all false
set_option maxRecDepth 100000
set_option maxHeartbeats 4000000
namespace Ind
open PySem PySem.Spec PyProof.Rows L2
open Builtin.Int (intBits)

/-! ### operators over ints of any size -/
/-- what a body must show for // of any size -/
structure Far (X : Cx) : Prop where
  seer : X.base.NoSeer
  tree : X.prog.given.tree = none
  stk : X.stack = X.env :: X.outer
  gen : X.env.scope.isGenerator = false
  co : X.env.scope.isCoroutine = false
  room : Room 40 X.A
theorem op_fdivB {X : Cx} (f : Far X) : OpR X (binaryOp .FloorDiv) (rI (fun _ j => j ≠ 0) fun i j => .int (i.fdiv j)) := by
  intro pins s σ H x y v u Q I rx ry h
  obtain ⟨i, j, rfl, rfl, hc, q⟩ := h
  obtain ⟨t, rfl⟩ := rx
  obtain ⟨t', rfl⟩ := ry
  refine floordiv_int hc ⟨.int (i.fdiv j), H, I.tok _, ⟨_, rfl⟩, q⟩ (.inr (PylongRoom.of I.nolimit ?_ (SeerAt.of (env := X.env) (l := X.outer) (f.seer.keeps I.bk) f.tree ?_ f.gen f.co I.ok.blt I.ok.glob)))
  · have h1 := f.room.dp
    have h2 : Builtin.pylongFrames = 100 := rfl
    omega
  · rw [I.ok.frames, f.stk]
theorem op_mulB {X : Cx} : OpR X (binaryOp .Mult) (rI (fun i j => intBits i + intBits j ≤ 134217728) fun i j => .int (i * j)) :=
  opI fun i j _ _ _ _ _ hc q => mul_int q (IntMulOk.of_le (Nat.le_refl _) (Nat.le_refl _) hc)

/-- tracked objects stay -/
theorem same_rfl {H : Hp} : Same H H := fun _ _ e => e
end Ind

set_option Elab.async false
set_option linter.all false
set_option maxRecDepth 100000
set_option maxHeartbeats 4000000
namespace Ind
open PySem PySem.Spec PyProof.Rows L2
open Builtin.Int (intBits)
def top (i : Nat) : Stmt := PySem.Challenge.pw_indicial_k01_arithmetic.main.body.getD i (.Pass ⟨0, 0, 0, 0⟩)
abbrev sInit : Stmt := inClass (top 10) 0
/-! ### the divisor with the denominator's sign; lowest terms -/
def cg (n d : Int) : Int := if d < 0 then -((Nat.gcd n.natAbs d.natAbs : Nat) : Int) else ((Nat.gcd n.natAbs d.natAbs : Nat) : Int)
def nN (n d : Int) : Int := n.fdiv (cg n d)
def nD (n d : Int) : Int := d.fdiv (cg n d)
theorem cg_ne {n d : Int} (h : d ≠ 0) : cg n d ≠ 0 := by
  have h1 : 0 < Nat.gcd n.natAbs d.natAbs := Nat.gcd_pos_of_pos_right _ (by omega)
  unfold cg
  split <;> omega
/-! ### a number's fields -/
theorem nd_ : ¬ (("n" : Str) = "d") := by decide +kernel
theorem dn_ : ¬ (("d" : Str) = "n") := by decide +kernel
def rf (a b : Int) : List (Str × V) := putF "d" (.int b) (putF "n" (.int a) [])
theorem rf_eq (a b : Int) : rf a b = ([("n", V.int a), ("d", V.int b)] : List (Str × V)) := by
  show (if ("n" : Str) = "d" then [(("n" : Str), V.int b)] else (("n" : Str), V.int a) :: putF "d" (V.int b) []) = ([("n", V.int a), ("d", V.int b)] : List (Str × V))
  rw [if_neg nd_]
  all_goals rfl
theorem rf_n (a b : Int) : (rf a b).lookup ("n" : Str) = some (.int a) := by
  unfold rf
  rw [lookup_putF, if_neg nd_, lookup_putF, if_pos rfl]
theorem rf_d (a b : Int) : (rf a b).lookup ("d" : Str) = some (.int b) := by
  unfold rf
  rw [lookup_putF, if_pos rfl]
theorem rf_no (a b : Int) {m : Str} (h1 : ¬ m = "d") (h2 : ¬ m = "n") : (rf a b).lookup m = none := by
  unfold rf
  rw [lookup_putF, if_neg h1, lookup_putF, if_neg h2]
  all_goals rfl
def RatAt (C : Addr) (H : Hp) (p : Addr) (a b : Int) : Prop := ∃ dx, H p = some (.ins C dx (rf a b))
theorem RatAt.same {C : Addr} {H H' : Hp} {p : Addr} {a b : Int} (r : RatAt C H p a b) (s : Same H H') : RatAt C H' p a b := let ⟨dx, e⟩ := r; ⟨dx, s _ _ e⟩
/-- what the top says of Ratio and of ZeroDivisor -/
structure TxR (K : PySem.W.Frag) (mg : Str → Option Value) (C Z : Addr) : Prop where
  cl : Cls K C
  nN : NoAttr K C "n"
  nD : NoAttr K C "d"
  mgC : mg "Ratio" = some (.ref C)
  gcd : mg "gcd" = some (.builtin "math.gcd")
  xZ : PySem.W.excIn K Z [.type "ValueError", .type "Exception", .type "BaseException", .type "object"] "ValueError.__new__" = true
  gZ : mg "ZeroDivisor" = some (.ref Z)
  kZ : PySem.W.keepIn K (.ref Z) = true
  bZ : PySem.W.subIn K (.ref Z) (.type "BaseException") = some true
  tZ : PySem.W.typeIn K (.ref Z) = some (.type "type")
def spInit (C Z : Addr) : Sp := fun vs H Q E => ∃ (p dx : Addr) (n d : Int), vs = [.ref p, .int n, .int d] ∧ H p = some (.ins C dx []) ∧ (d = 0 → E (.ref Z) none H) ∧
  (d ≠ 0 → ∀ H' : Hp, RatAt C H' p (nN n d) (nD n d) → (∀ b o, H b = some o → b ≠ p → H' b = some o) → Q .non H')
section
variable {P : Program} {w : World} {K : PySem.W.Frag} {mg : Str → Option Value} {base : Heap} {C Z : Addr}
theorem scI : FnScope ["self", "n", "d", "common"] ["self", "n", "d"] (defScope sInit) := ⟨rfl, rfl, rfl, by decide +kernel, rfl, by decide +kernel, by decide +kernel⟩
theorem ok_init {f : Addr} {fd : FuncData} (hN : base.NoSeer) (hT : P.given.tree = none) (F : FunD K "__init__" "Ratio.__init__" (defArgs sInit) (defBody sInit) (defScope sInit) [.int 1] [] f fd) (T : TxR K mg C Z) :
    FnOk P w K mg base (L2.CX P w) 41 f fd ["self", "n", "d"] (spInit C Z) := by
  refine F.ok (CX := L2.CX P w) (k := 40) scI (fun vs H Q E h => ?_) (fun cdv A outer s H vs Q E hr h => ?_)
  · obtain ⟨p, dx, n, d, rfl, _⟩ := h
    rfl
  · obtain ⟨p, dx, n, d, rfl, hp, kz, k⟩ := h
    have far : Far (cxOf (L2.CX P w) P w K mg base ["self", "n", "d", "common"] "Ratio.__init__" (defScope sInit) f cdv A outer s H E) := ⟨hN, hT, rfl, rfl, rfl, hr⟩
    refine ⟨_, pss_cons (ps_if (pt_cmpR op_eq (pv 2) pe_int (nomark _)) (pss_one (ps_raise rfl (takes_of rfl rfl rfl rfl) (pmk_own PySem.F.excBase_ValueError T.xZ T.gZ T.kZ (raises_own T.bZ T.tZ) rfl))) pss_nil)
      (pss_cons (ps_set (i := 3) scI.nd rfl (Or.inl rfl) (pe_callBfun cr_gcd (by rfl) T.gcd (pa_cons (pv 1) (pa_cons (pv 2) pa_nil))))
      (pss_cons (ps_if (pt_cmpR op_lt (pv 2) pe_int (nomark _)) (pss_one (ps_set (i := 3) scI.nd rfl (Or.inl rfl) (pe_un un_neg (pv 3)))) pss_nil)
      (pss_cons (ps_fld (pv 0) (pe_op (op_fdivB far) (pv 1) (pv 3)) rfl)
      (pss_one (ps_fld (pv 0) (pe_op (op_fdivB far) (pv 2) (pv 3)) rfl))))), ?_⟩
    refine ⟨_, rfl, rfl, _, rfl, ite2 (fun c => ?_) (fun c => ?_)⟩
    · exact kz (by simpa using c)
    · have hd : d ≠ 0 := by simpa using c
      refine ⟨_, rfl, _, rfl, _, _, rfl, ?_⟩
      have put : putF "d" (V.int (d.fdiv (cg n d))) (putF "n" (V.int (n.fdiv (cg n d))) []) = rf (nN n d) (nD n d) := rfl
      have fin : ∀ b o, H b = some o → b ≠ p → (upd (upd H p (.ins C dx (putF "n" (.int (nN n d)) []))) p (.ins C dx (rf (nN n d) (nD n d)))) b = some o := fun b o e hb => by
        rw [upd_ne hb, upd_ne hb]
        exact e
      refine ⟨_, rfl, _, _, rfl, rfl, _, rfl, ite2 (fun c2 => ?_) (fun c2 => ?_)⟩
      · have hneg : d < 0 := by simpa using c2
        have ec : -((Nat.gcd n.natAbs d.natAbs : Nat) : Int) = cg n d := by unfold cg; rw [if_pos hneg]
        refine ⟨_, rfl, _, rfl, _, rfl, _, rfl, _, _, rfl, rfl, by rw [ec]; exact cg_ne hd, _, rfl, p, C, dx, [], rfl, hp, T.cl, T.nN, by decide, ?_⟩
        refine ⟨_, rfl, _, rfl, _, _, rfl, rfl, by rw [ec]; exact cg_ne hd, _, rfl, p, C, dx, _, rfl, upd_same, T.cl, T.nD, (by show 1 < 1000; decide), ?_⟩
        rw [ec]
        exact k hd _ ⟨dx, upd_same⟩ fin
      · have hneg : ¬ d < 0 := by simpa using c2
        have ec : ((Nat.gcd n.natAbs d.natAbs : Nat) : Int) = cg n d := by unfold cg; rw [if_neg hneg]
        refine ⟨_, rfl, _, rfl, _, _, rfl, rfl, by rw [ec]; exact cg_ne hd, _, rfl, p, C, dx, [], rfl, hp, T.cl, T.nN, by decide, ?_⟩
        refine ⟨_, rfl, _, rfl, _, _, rfl, rfl, by rw [ec]; exact cg_ne hd, _, rfl, p, C, dx, _, rfl, upd_same, T.cl, T.nD, (by show 1 < 1000; decide), ?_⟩
        rw [ec]
        exact k hd _ ⟨dx, upd_same⟩ fin
end
end Ind

set_option Elab.async false
set_option linter.all false
set_option maxRecDepth 100000
set_option maxHeartbeats 4000000
namespace Ind
open PySem PySem.Spec PyProof.Rows L2
open Builtin.Int (intBits)
abbrev sCell : Stmt := top 14
abbrev sDraws : Stmt := top 15
abbrev sGcd : Stmt := top 16
abbrev sIsI : Stmt := top 20
abbrev sPair : Stmt := top 21
/-! ### the law's helpers: what each promises -/
def cell (ns : List Int) (k : Nat) : Int := ns.getD k 0
theorem atI_of {α : Type} {xs : List α} {k : Nat} {x : α} (h : xs[k]? = some x) : atI xs ((k : Nat) : Int) = some x := by
  have hk : k < xs.length := (List.getElem?_eq_some_iff.mp h).1
  have h1 : ixN xs.length ((k : Nat) : Int) = some k := by
    unfold ixN
    rw [if_pos (by omega), if_pos (by omega)]
    all_goals rfl
  unfold atI
  rw [h1]
  exact h
def spCellI (K : PySem.W.Frag) : Sp := fun vs H Q _ => ∃ (a : Addr) (ns : List Int) (k : Nat), vs = [.ref a, .int k] ∧ SqL K H a (ns.map V.int) ∧ Q (.int (cell ns k)) H
/-- draws in their range -/
def InR (ds : List Int) (n : Nat) (b : Int) : Prop := ds.length = n ∧ ∀ d ∈ ds, 0 ≤ d ∧ d < b
def spDraws (K : PySem.W.Frag) : Sp := fun vs H Q _ => ∃ (a : Addr) (ns : List Int) (k n : Nat) (b : Int), vs = [.ref a, .int k, .int n, .int b] ∧ SqL K H a (ns.map V.int) ∧ k ≤ 1000 ∧ n ≤ 1000 ∧ 0 < b ∧ b < 1000000 ∧
  ∀ (ds : List Int) (H' : Hp) (p : Addr), InR ds n b → Same H H' → H p = none → H' p = some (.lst (ds.map V.int)) → Q (.ref p) H'
def spGcdI : Sp := fun vs H Q _ => ∃ a b : Int, vs = [.int a, .int b] ∧ Q (.int ((Nat.gcd a.natAbs b.natAbs : Nat) : Int)) H
def spIsI : Sp := fun vs H Q _ => ∃ a : Int, vs = [.int a] ∧ Q (.bl true) H
def spPair (C : Addr) : Sp := fun vs H Q _ => ∃ (p : Addr) (a b : Int), vs = [.ref p] ∧ RatAt C H p a b ∧ 0 < b ∧ Nat.gcd a.natAbs b.natAbs = 1 ∧
  ∀ (H' : Hp) (t : Addr), Same H H' → H t = none → H' t = some (.tup [.int a, .int b]) → Q (.ref t) H'
/-- what the top says of built-ins that the helpers name -/
structure TxL (K : PySem.W.Frag) (mg : Str → Option Value) : Prop where
  len : mg "len" = none
  range : mg "range" = none
  int : mg "int" = none
  abs : mg "abs" = none
  isinstance : mg "isinstance" = none
  bool : mg "bool" = none
theorem same_upd {H : Hp} {p : Addr} {o : HO} (h : H p = none) : Same H (upd H p o) := fun b u e => by
  rw [upd_ne (ne_of_none e h)]
  exact e
section
variable {P : Program} {w : World} {K : PySem.W.Frag} {mg : Str → Option Value} {base : Heap} {C Z : Addr}
theorem scCell : FnScope ["script", "k"] ["script", "k"] (defScope sCell) := ⟨rfl, rfl, rfl, by decide +kernel, rfl, by decide +kernel, by decide +kernel⟩
theorem ok_cell {f : Addr} {fd : FuncData} (F : Fun K "_law_cell" "_law_cell" sCell f fd) (T : TxL K mg) : FnOk P w K mg base CX0 1 f fd ["script", "k"] (spCellI K) := by
  refine F.ok scCell (fun vs H Q E h => ?_) (fun cdv A outer s H vs Q E hr h => ?_)
  · obtain ⟨a, ns, k, rfl, _⟩ := h
    rfl
  · obtain ⟨a, ns, k, rfl, hS, q⟩ := h
    refine ⟨_, pss_cons (ps_if (pt_cmpR op_lt (pv 1) (pe_callB call_len_seq (by rfl) T.len PySem.boot_len (pa_cons (pv 0) pa_nil)) (nomark _)) (pss_one (ps_ret (pe_ix ix_list (pv 0) (pv 1) fun _ _ => rfl))) pss_nil)
      (pss_one (ps_ret pe_int)), ?_⟩
    refine ⟨_, rfl, _, rfl, a, _, rfl, .inl hS, _, _, rfl, rfl, _, rfl, ite2 (fun c => ?_) (fun c => ?_)⟩
    · have hk : k < ns.length := by simpa using c
      refine ⟨_, rfl, _, rfl, a, _, _, _, rfl, rfl, hS, atI_of (x := V.int (cell ns k)) ?_, q⟩
      rw [List.getElem?_map, List.getElem?_eq_getElem hk]
      simp [cell, hk]
    · have hk : ¬ k < ns.length := by simpa using c
      have e : cell ns k = 0 := by
        unfold cell
        rw [List.getD_eq_getElem?_getD, List.getElem?_eq_none (by omega)]
        rfl
      show Q (.int 0) H
      rw [← e]
      exact q
theorem scGcd : FnScope ["a", "b", "one", "two", "rest"] ["a", "b"] (defScope sGcd) := ⟨rfl, rfl, rfl, by decide +kernel, rfl, by decide +kernel, by decide +kernel⟩
theorem abs_nat (i : Int) : (if i < 0 then -i else i) = ((i.natAbs : Nat) : Int) := by split <;> omega
theorem ok_gcd {f : Addr} {fd : FuncData} (F : Fun K "_law_gcd" "_law_gcd" sGcd f fd) (T : TxL K mg) : FnOk P w K mg base CX0 1 f fd ["a", "b"] spGcdI := by
  refine F.ok scGcd (fun vs H Q E h => ?_) (fun cdv A outer s H vs Q E hr h => ?_)
  · obtain ⟨a, b, rfl, _⟩ := h
    rfl
  · obtain ⟨a, b, rfl, q⟩ := h
    refine ⟨_, pss_cons (ps_set (i := 2) scGcd.nd rfl (Or.inl rfl) (pe_callB call_abs (by rfl) T.abs (by decide +kernel) (pa_cons (pv 0) pa_nil)))
      (pss_cons (ps_set (i := 3) scGcd.nd rfl (Or.inl rfl) (pe_callB call_abs (by rfl) T.abs (by decide +kernel) (pa_cons (pv 1) pa_nil)))
      (pss_cons (ps_while PassesOwn.never (pt_cmpR op_ne (pv 3) pe_int (nomark _))
        (pss_cons (ps_set (i := 4) scGcd.nd rfl (Or.inl rfl) (pe_op op_modN (pe_callTy call_int1 (by rfl) T.int (by decide +kernel) (pa_cons (pv 2) pa_nil)) (pv 3)))
        (pss_cons (ps_set (i := 2) scGcd.nd rfl (Or.inl rfl) (pv 3)) (pss_one (ps_set (i := 3) scGcd.nd rfl (Or.inl rfl) (pv 4))))))
      (pss_one (ps_ret (pv 2))))), ?_⟩
    refine ⟨_, rfl, _, rfl, _, rfl, _, rfl, ?_⟩
    rw [abs_nat, abs_nat]
    refine while_by (fun σ H' => H' = H ∧ ∃ (x y : Nat) (v : Option V), σ = [some (.int a), some (.int b), some (.int (x : Int)), some (.int (y : Int)), v] ∧ Nat.gcd x y = Nat.gcd a.natAbs b.natAbs)
      (fun σ _ => match σ[3]? with | some (some (V.int y)) => y.natAbs | _ => 0) ⟨rfl, _, _, none, rfl, rfl⟩ ?_ ?_
    · rintro σ H' ⟨rfl, x, y, v, rfl, hg⟩
      refine ⟨_, rfl, rfl, _, rfl, ite2 (fun c => ?_) (fun c => ?_)⟩
      · have hy : y ≠ 0 := by
          intro z
          subst z
          simp at c
        have em : ((x : Int)).fmod (y : Int) = ((x % y : Nat) : Int) := by
          rw [Int.fmod_eq_emod_of_nonneg _ (by omega)]
          rfl
        refine ⟨_, rfl, .inl ⟨_, rfl, _, rfl, _, _, rfl, rfl, (by show ((y : Nat) : Int) ≠ 0; omega), ?_⟩⟩
        refine ⟨_, rfl, _, rfl, ⟨rfl, y, x % y, some (.int (((x % y : Nat) : Int))), ?_, ?_⟩, ?_⟩
        · rw [← em]
          rfl
        · rw [← hg, Nat.gcd_comm x y, Nat.gcd_rec y x, Nat.gcd_comm]
        · show (((x : Int)).fmod (y : Int)).natAbs < ((y : Nat) : Int).natAbs
          rw [em]
          have := Nat.mod_lt x (Nat.pos_of_ne_zero hy)
          omega
      · have hy : y = 0 := by
          have z : ¬ ¬ (V.int (y : Int) = V.int 0) := by simpa using c
          have z2 : V.int (y : Int) = V.int 0 := Classical.not_not.mp z
          injection z2 with z3
          omega
        subst hy
        rw [Nat.gcd_zero_right] at hg
        refine ⟨_, rfl, ?_⟩
        rw [hg]
        exact q
    · rintro σ H' R R' hR ⟨v, e1, e2, b1, e3, h3⟩
      exact ⟨v, e1, e2, b1, e3, hR _ _ h3⟩
end
end Ind

set_option Elab.async false
set_option linter.all false
set_option maxRecDepth 100000
set_option maxHeartbeats 4000000
namespace Ind
open PySem PySem.Spec PyProof.Rows L2
open Builtin.Int (intBits)
/-- what isinstance asks of Ratio as the value's class -/
structure TxI (K : PySem.W.Frag) (C : Addr) : Prop where
  ha : PySem.W.findIn K (.ref C) "__class__" = some (some (.builtin "object.__class__"))
  hn : PySem.W.specialIn K (.builtin "object.__class__") "__get__" = some (some (.builtin "getset_descriptor.__get__"))
  ht : PySem.W.takesIn K (.builtin "object.__class__") = some true
  hm : PySem.W.mroIn K C (.type "object") = some true
  kC : PySem.W.kitOne K (.ref C) (.ref C) = some true
section
variable {P : Program} {w : World} {K : PySem.W.Frag} {mg : Str → Option Value} {base : Heap} {C Z : Addr}
theorem scIsI : FnScope ["value"] ["value"] (defScope sIsI) := ⟨rfl, rfl, rfl, by decide +kernel, rfl, by decide +kernel, by decide +kernel⟩
theorem ok_isI {f : Addr} {fd : FuncData} (F : Fun K "_law_is_integer" "_law_is_integer" sIsI f fd) (T : TxL K mg) : FnOk P w K mg base CX0 1 f fd ["value"] spIsI := by
  refine F.ok scIsI (fun vs H Q E h => ?_) (fun cdv A outer s H vs Q E hr h => ?_)
  · obtain ⟨a, rfl, _⟩ := h
    rfl
  · obtain ⟨a, rfl, q⟩ := h
    refine ⟨_, pss_one (ps_ret (pe_and (pe_callB call_isi (by rfl) T.isinstance (by decide +kernel) (pa_cons (pv 0) (pa_cons (pe_bltn (v := .ty "int") (by rfl) T.int (by decide +kernel) rfl) pa_nil)))
      (pe_one (pe_not (pe_callB call_isi (by rfl) T.isinstance (by decide +kernel) (pa_cons (pv 0) (pa_cons (pe_bltn (v := .ty "bool") (by rfl) T.bool (by decide +kernel) rfl) pa_nil))))))), ?_⟩
    refine ⟨_, rfl, _, _, _, _, true, rfl, ClsV.ty "int", .base (.int a), kit_ty (by decide +kernel), true, rfl, ?_⟩
    refine iteT ⟨_, rfl, _, _, _, _, false, rfl, ClsV.ty "bool", .base (.int a), kit_ty (by decide +kernel), false, rfl, q⟩
theorem scPair : FnScope ["value"] ["value"] (defScope sPair) := ⟨rfl, rfl, rfl, by decide +kernel, rfl, by decide +kernel, by decide +kernel⟩
theorem ok_pair {f fI fG : Addr} {fd fdI fdG : FuncData} (F : Fun K "_law_pair" "_law_pair" sPair f fd) (T : TxL K mg) (R : TxR K mg C Z) (I : TxI K C)
    (FI : Fun K "_law_is_integer" "_law_is_integer" sIsI fI fdI) (bI : Binds K fdI ["value"] []) (gI : mg "_law_is_integer" = some (.ref fI))
    (FG : Fun K "_law_gcd" "_law_gcd" sGcd fG fdG) (bG : Binds K fdG ["a", "b"] []) (gG : mg "_law_gcd" = some (.ref fG)) : FnOk P w K mg base CX0 2 f fd ["value"] (spPair C) := by
  have GI : FnOk P w K mg base CX0 1 fI fdI ["value"] spIsI := ok_isI FI T
  have GG : FnOk P w K mg base CX0 1 fG fdG ["a", "b"] spGcdI := ok_gcd FG T
  refine F.ok scPair (fun vs H Q E h => ?_) (fun cdv A outer s H vs Q E hr h => ?_)
  · obtain ⟨p, a, b, rfl, _⟩ := h
    rfl
  · obtain ⟨p, a, b, rfl, ⟨dx, hp⟩, hb, hg, k⟩ := h
    refine ⟨_, pss_cons (ps_if (PW.pt (pw_or (pt_not (pt_val (pe_callB call_isi (by rfl) T.isinstance (by decide +kernel) (pa_cons (pv 0) (pa_cons (pe_glob (v := .ref C) rfl R.mgC rfl) pa_nil)))))
        (pw_or (pt_not (pt_val (pe_call GI hr (by rfl) gI FI.kp bI .nil pass0 (pa_cons (pe_fld (pv 0) rfl) pa_nil))))
        (pw_or1 (pt_not (pt_val (pe_call GI hr (by rfl) gI FI.kp bI .nil pass0 (pa_cons (pe_fld (pv 0) rfl) pa_nil)))))))) (pss_one (ps_ret pe_non)) pss_nil)
      (pss_cons (ps_if (PW.pt (pw_or (pt_cmpR op_lt (pe_fld (pv 0) rfl) pe_int (nomark _)) (pw_or1 (pt_cmpR op_ne (pe_call GG hr (by rfl) gG FG.kp bG .nil pass0 (pa_cons (pe_fld (pv 0) rfl) (pa_cons (pe_fld (pv 0) rfl) pa_nil))) pe_int (nomark _)))))
        (pss_one (ps_ret pe_non)) pss_nil)
      (pss_one (ps_ret (pe_tup (pa_cons (pe_fld (pv 0) rfl) (pa_cons (pe_fld (pv 0) rfl) pa_nil)))))), ?_⟩
    have hne : ¬ b < 1 := by omega
    refine ⟨_, rfl, _, _, _, _, true, rfl, ClsV.own C, .base (.ins hp R.cl I.ha I.hn I.ht I.hm), I.kC, true, rfl, ?_⟩
    refine iteF ⟨_, rfl, p, C, dx, _, _, rfl, hp, R.cl, R.nN, rf_n _ _, a, rfl, true, rfl, ?_⟩
    refine iteF ⟨_, rfl, p, C, dx, _, _, rfl, hp, R.cl, R.nD, rf_d _ _, b, rfl, true, rfl, iteF ?_⟩
    refine ⟨_, rfl, p, C, dx, _, _, rfl, hp, R.cl, R.nD, rf_d _ _, _, _, rfl, rfl, _, rfl, ite2 (fun c => absurd (of_decide_eq_true c) hne) (fun c => ?_)⟩
    refine ⟨_, rfl, p, C, dx, _, _, rfl, hp, R.cl, R.nN, rf_n _ _, _, rfl, p, C, dx, _, _, rfl, hp, R.cl, R.nD, rf_d _ _, a, b, rfl, rfl, _, rfl, ?_⟩
    rw [hg]
    refine iteF ⟨_, rfl, p, C, dx, _, _, rfl, hp, R.cl, R.nN, rf_n _ _, _, rfl, p, C, dx, _, _, rfl, hp, R.cl, R.nD, rf_d _ _, (by show 2 ≤ sizeLine; decide), fun t ht => ?_⟩
    exact k _ t (same_upd ht) ht upd_same
end
end Ind

set_option Elab.async false
set_option linter.all false
set_option maxRecDepth 100000
set_option maxHeartbeats 4000000
namespace Ind
open PySem PySem.Spec PyProof.Rows L2
open Builtin.Int (intBits)
structure DrSt (H H' : Hp) (l : Addr) (ds : List Int) (i : Nat) (b : Int) : Prop where
  s : Same H H'
  n : H l = none
  at_ : H' l = some (.lst (ds.map V.int))
  r : InR ds i b
theorem DrSt.push {H H' : Hp} {l : Addr} {ds : List Int} {i : Nat} {b z : Int} (x : DrSt H H' l ds i b) (h0 : 0 ≤ z) (h1 : z < b) : DrSt H (upd H' l (.lst (ds.map V.int ++ [.int z]))) l (ds ++ [z]) (i + 1) b where
  s := fun c o e => by
    have hc : c ≠ l := ne_of_none e x.n
    rw [upd_ne hc]
    exact x.s c o e
  n := x.n
  at_ := by
    rw [upd_same, List.map_append]
    rfl
  r := by
    refine ⟨by rw [List.length_append, x.r.1]; rfl, fun d hd => ?_⟩
    rcases List.mem_append.mp hd with h | h
    · exact x.r.2 d h
    · have e : d = z := by simpa using h
      subst e
      exact ⟨h0, h1⟩
theorem fmod_in {x b : Int} (h : 0 < b) : 0 ≤ x.fmod b ∧ x.fmod b < b := ⟨Int.fmod_nonneg_of_pos x h, Int.fmod_lt_of_pos x h⟩
section
variable {P : Program} {w : World} {K : PySem.W.Frag} {mg : Str → Option Value} {base : Heap} {C Z : Addr}
theorem scDr : FnScope ["script", "at", "count", "bound", "cell", "out", "k", "number", "mixed"] ["script", "at", "count", "bound"] (defScope sDraws) := ⟨rfl, rfl, rfl, by decide +kernel, rfl, by decide +kernel, by decide +kernel⟩
theorem ok_draws {f fC : Addr} {fd fdC : FuncData} (F : Fun K "_law_draws" "_law_draws" sDraws f fd) (T : TxL K mg) (FC : Fun K "_law_cell" "_law_cell" sCell fC fdC) (bC : Binds K fdC ["script", "k"] []) (gC : mg "_law_cell" = some (.ref fC)) :
    FnOk P w K mg base CX0 2 f fd ["script", "at", "count", "bound"] (spDraws K) := by
  have GC : FnOk P w K mg base CX0 1 fC fdC ["script", "k"] (spCellI K) := ok_cell FC T
  refine F.ok scDr (fun vs H Q E h => ?_) (fun cdv A outer s H vs Q E hr h => ?_)
  · obtain ⟨a, ns, k, n, b, rfl, _⟩ := h
    rfl
  · obtain ⟨a, ns, k, n, b, rfl, hS, hk, hn, hb, hb2, q⟩ := h
    refine ⟨_, pss_cons (ps_set (i := 4) scDr.nd rfl (Or.inl rfl) (pe_call GC hr (by rfl) gC FC.kp bC .nil pass0 (pa_cons (pv 0) (pa_cons (pv 1) pa_nil))))
      (pss_cons (ps_set (i := 5) scDr.nd rfl (Or.inl rfl) (pe_lst pa_nil))
      (pss_cons (ps_if (pt_cmpR op_ge (pv 4) (pe_op op_pow pe_int pe_int) (nomark _))
        (pss_cons (ps_for PassesOwn.never rfl (pi_range1 (by rfl) T.range (pa_cons (pv 2) pa_nil)) (pg_name (i := 6) scDr.nd rfl (Or.inl rfl))
          (pss_cons (ps_expr (pe_bm PySem.F.plainAttrs_list PySem.F.slot_list_append PySem.F.type_list_append mt_append (pv 5) (pa_cons (pe_op op_modN (pe_callTy call_int1 (by rfl) T.int (by decide +kernel) (pa_cons (pv 4) pa_nil)) (pv 3)) pa_nil)))
          (pss_one (ps_set (i := 4) scDr.nd rfl (Or.inl rfl) (pe_op op_fdivN (pe_callTy call_int1 (by rfl) T.int (by decide +kernel) (pa_cons (pv 4) pa_nil)) (pv 3))))))
        (pss_one (ps_ret (pv 5)))) pss_nil)
      (pss_cons (ps_set (i := 7) scDr.nd rfl (Or.inl rfl) (pe_op op_add (pe_op op_add (pe_op op_modN (pe_callTy call_int1 (by rfl) T.int (by decide +kernel) (pa_cons (pv 4) pa_nil)) pe_int) (pe_op op_mul pe_int (pv 1))) pe_int))
      (pss_cons (ps_for PassesOwn.never rfl (pi_range1 (by rfl) T.range (pa_cons (pv 2) pa_nil)) (pg_name (i := 6) scDr.nd rfl (Or.inl rfl))
          (pss_cons (ps_set (i := 7) scDr.nd rfl (Or.inl rfl) (pe_op op_modN (pe_callTy call_int1 (by rfl) T.int (by decide +kernel) (pa_cons (pe_op op_add (pe_op op_add (pe_op op_mul (pv 7) pe_int) (pe_op op_mul pe_int (pv 6))) (pv 1)) pa_nil)) pe_int))
          (pss_cons (ps_set (i := 8) scDr.nd rfl (Or.inl rfl) (pe_op op_modN (pe_callTy call_int1 (by rfl) T.int (by decide +kernel) (pa_cons (pe_op op_add (pe_op op_add (pe_op op_mul (pv 7) pe_int) (pe_op op_mul pe_int (pv 6))) pe_int) pa_nil)) pe_int))
          (pss_one (ps_expr (pe_bm PySem.F.plainAttrs_list PySem.F.slot_list_append PySem.F.type_list_append mt_append (pv 5) (pa_cons (pe_op op_modN (pe_callTy call_int1 (by rfl) T.int (by decide +kernel) (pa_cons (pv 8) pa_nil)) (pv 3)) pa_nil)))))))
      (pss_one (ps_ret (pv 5))))))), ?_⟩
    refine ⟨_, rfl, _, rfl, a, ns, k, rfl, hS, Nat.zero_le _, fun l hl => ?_⟩
    have d0 : DrSt H (upd H l (.lst [])) l [] 0 b := ⟨same_upd hl, hl, upd_same, rfl, fun d hd => nomatch hd⟩
    have hlen : ∀ {ds : List Int} {i : Nat}, InR ds i b → i < n → (ds.map V.int).length < sizeLine := fun {ds i} r hi => by
      rw [List.length_map, r.1]
      exact Nat.lt_of_lt_of_le (Nat.lt_of_lt_of_le hi hn) (by decide)
    have bnd : b ≠ 0 ∧ b.natAbs < 1073741824 := ⟨by omega, by omega⟩
    refine ⟨_, rfl, _, _, rfl, rfl, ⟨by decide, by decide, by decide⟩, _, _, rfl, rfl, _, rfl, ite2 (fun _ => ?_) (fun _ => ?_)⟩
    · refine ⟨_, rfl, (n : Int), rfl, by omega, by omega, for_range (lo := 0) (n := n) (fun i σ H' => ∃ (c : Int) (ds : List Int) (kv : Option V), σ = [some (.ref a), some (.int k), some (.int n), some (.int b), some (.int c), some (.ref l), kv, none, none] ∧ DrSt H H' l ds i b)
        ⟨_, [], none, rfl, d0⟩ ?_ ?_⟩
      · rintro i σ H' hi ⟨c, ds, kv, rfl, D⟩
        have hm := fmod_in (x := c) hb
        refine ⟨_, rfl, .inl ⟨rfl, _, SqL.of D.at_⟩, _, rfl, .inl ⟨_, rfl, _, rfl, _, _, rfl, rfl, bnd.1, l, _, _, rfl, rfl, D.at_, hlen D.r hi, ?_⟩⟩
        refine ⟨_, rfl, .inl ⟨_, rfl, _, rfl, _, _, rfl, rfl, bnd, ?_⟩⟩
        exact ⟨_, _, _, rfl, D.push hm.1 hm.2⟩
      · rintro σ H' ⟨c, ds, kv, rfl, D⟩
        exact ⟨_, rfl, q ds H' l D.r D.s D.n D.at_⟩
    · have r31 : ∀ x : Int, 0 ≤ x.fmod 2147483647 ∧ x.fmod 2147483647 < 2147483647 := fun x => fmod_in (by decide)
      have hz := r31 (cell ns k)
      refine ⟨_, rfl, .inl ⟨_, rfl, _, _, rfl, rfl, (by show (2147483647 : Int) ≠ 0; decide), _, rfl, _, _, rfl, rfl, .inl ⟨by decide, by decide⟩, _, _, rfl, rfl, _, _, rfl, rfl, ?_⟩⟩
      refine ⟨_, rfl, (n : Int), rfl, by omega, by omega, for_range (lo := 0) (n := n) (fun i σ H' => ∃ (z : Int) (ds : List Int) (kv mv : Option V), σ = [some (.ref a), some (.int k), some (.int n), some (.int b), some (.int (cell ns k)), some (.ref l), kv, some (.int z), mv] ∧ (0 ≤ z ∧ z < 2 ^ 40) ∧ DrSt H H' l ds i b)
        ⟨_, [], none, none, rfl, ⟨by omega, by omega⟩, d0⟩ ?_ ?_⟩
      · rintro i σ H' hi ⟨z, ds, kv, mv, rfl, hz, D⟩
        have hm : ∀ x : Int, _ := fun x => fmod_in (x := x) hb
        refine ⟨_, rfl, _, _, rfl, rfl, .inr ⟨by decide, by decide⟩, _, rfl, _, _, rfl, rfl, .inl ⟨by decide, by decide⟩, _, _, rfl, rfl, _, rfl, _, _, rfl, rfl, .inl ⟨_, rfl, _, _, rfl, rfl, (by show (2147483647 : Int) ≠ 0; decide), ?_⟩⟩
        refine ⟨_, rfl, _, _, rfl, rfl, .inr ⟨by decide, by decide⟩, _, rfl, _, _, rfl, rfl, .inl ⟨by decide, by decide⟩, _, _, rfl, rfl, _, _, rfl, rfl, .inl ⟨_, rfl, _, _, rfl, rfl, (by show (2147483629 : Int) ≠ 0; decide), ?_⟩⟩
        refine ⟨_, rfl, .inl ⟨rfl, _, SqL.of D.at_⟩, _, rfl, .inl ⟨_, rfl, _, rfl, _, _, rfl, rfl, bnd.1, l, _, _, rfl, rfl, D.at_, hlen D.r hi, ?_⟩⟩
        have hw := r31 (z * 48271 + 11 * (0 + (i : Int)) + (k : Int))
        exact ⟨_, _, _, _, rfl, ⟨hw.1, by omega⟩, D.push (hm _).1 (hm _).2⟩
      · rintro σ H' ⟨z, ds, kv, mv, rfl, hz, D⟩
        exact ⟨_, rfl, q ds H' l D.r D.s D.n D.at_⟩
end
end Ind

set_option Elab.async false
namespace Ind
open PySem.Builtin.Int (intBits)
theorem cg_natAbs (n d : Int) : (cg n d).natAbs = Nat.gcd n.natAbs d.natAbs := by
  unfold cg
  split <;> omega
theorem fdiv_of_mul {a b q : Int} (hb : b ≠ 0) (h : a = q * b) : a.fdiv b = q := by
  rw [h]
  exact Int.mul_fdiv_cancel _ hb
theorem cg_dvd_n (n d : Int) : cg n d ∣ n := by
  have h : (cg n d).natAbs ∣ n.natAbs := by rw [cg_natAbs]; exact Nat.gcd_dvd_left _ _
  exact Int.natAbs_dvd_natAbs.mp h
theorem cg_dvd_d (n d : Int) : cg n d ∣ d := by
  have h : (cg n d).natAbs ∣ d.natAbs := by rw [cg_natAbs]; exact Nat.gcd_dvd_right _ _
  exact Int.natAbs_dvd_natAbs.mp h
theorem nN_mul {n d : Int} (h : d ≠ 0) : n = nN n d * cg n d := by
  obtain ⟨q, e⟩ := cg_dvd_n n d
  have e2 : nN n d = q := fdiv_of_mul (cg_ne h) (e.trans (Int.mul_comm _ _))
  rw [e2, Int.mul_comm]
  exact e
theorem nD_mul {n d : Int} (h : d ≠ 0) : d = nD n d * cg n d := by
  obtain ⟨q, e⟩ := cg_dvd_d n d
  have e2 : nD n d = q := fdiv_of_mul (cg_ne h) (e.trans (Int.mul_comm _ _))
  rw [e2, Int.mul_comm]
  exact e
theorem nD_pos {n d : Int} (h : d ≠ 0) : 0 < nD n d := by
  have e := nD_mul (n := n) h
  have g := cg_natAbs n d
  have gp : 0 < Nat.gcd n.natAbs d.natAbs := Nat.gcd_pos_of_pos_right _ (by omega)
  by_cases hd : d < 0
  · have hc : cg n d < 0 := by
      unfold cg
      rw [if_pos hd]
      omega
    by_cases hq : 0 < nD n d
    · exact hq
    · have : 0 ≤ nD n d * cg n d := Int.mul_nonneg_of_nonpos_of_nonpos (by omega) (by omega)
      omega
  · have hc : 0 < cg n d := by
      unfold cg
      rw [if_neg hd]
      omega
    by_cases hq : 0 < nD n d
    · exact hq
    · have : nD n d * cg n d ≤ 0 := Int.mul_nonpos_of_nonpos_of_nonneg (by omega) (by omega)
      omega
theorem n_gcd {n d : Int} (h : d ≠ 0) : Nat.gcd (nN n d).natAbs (nD n d).natAbs = 1 := by
  have e1 : n.natAbs = (nN n d).natAbs * (cg n d).natAbs := by
    rw [← Int.natAbs_mul, ← nN_mul h]
  have e2 : d.natAbs = (nD n d).natAbs * (cg n d).natAbs := by
    rw [← Int.natAbs_mul, ← nD_mul h]
  have g := cg_natAbs n d
  have hg : 0 < (cg n d).natAbs := by
    have := cg_ne (n := n) h
    omega
  have e3 : Nat.gcd n.natAbs d.natAbs = Nat.gcd (nN n d).natAbs (nD n d).natAbs * (cg n d).natAbs := by
    conv => lhs; rw [e1, e2]
    rw [Nat.gcd_mul_right]
  rw [← g] at e3
  have e4 : 1 * (cg n d).natAbs = Nat.gcd (nN n d).natAbs (nD n d).natAbs * (cg n d).natAbs := by rw [Nat.one_mul]; exact e3
  exact (Nat.eq_of_mul_eq_mul_right hg e4).symm
theorem n_cross {n d : Int} (h : d ≠ 0) : nN n d * d = n * nD n d := by
  have e1 := nN_mul (n := n) h
  have e2 := nD_mul (n := n) h
  calc nN n d * d = nN n d * (nD n d * cg n d) := by rw [← e2]
    _ = (nN n d * cg n d) * nD n d := by rw [Int.mul_comm (nD n d), Int.mul_assoc]
    _ = n * nD n d := by rw [← e1]
/-- two fractions in lowest terms of one value are one -/
theorem low_uniq {p q r s : Int} (hq : 0 < q) (hs : 0 < s) (g1 : Nat.gcd p.natAbs q.natAbs = 1) (g2 : Nat.gcd r.natAbs s.natAbs = 1) (e : p * s = r * q) : p = r ∧ q = s := by
  have en : p.natAbs * s.natAbs = r.natAbs * q.natAbs := by rw [← Int.natAbs_mul, ← Int.natAbs_mul, e]
  have d1 : q.natAbs ∣ s.natAbs := Nat.Coprime.dvd_of_dvd_mul_left (Nat.Coprime.symm g1) ⟨r.natAbs, by rw [en, Nat.mul_comm]⟩
  have d2 : s.natAbs ∣ q.natAbs := Nat.Coprime.dvd_of_dvd_mul_left (Nat.Coprime.symm g2) ⟨p.natAbs, by rw [← en, Nat.mul_comm]⟩
  have e1 : q.natAbs = s.natAbs := Nat.dvd_antisymm d1 d2
  have e2 : q = s := by omega
  subst e2
  exact ⟨Int.eq_of_mul_eq_mul_right (by omega) e, rfl⟩
theorem n_uniq {a b c d : Int} (hb : b ≠ 0) (hd : d ≠ 0) (e : a * d = c * b) : nN a b = nN c d ∧ nD a b = nD c d := by
  refine low_uniq (nD_pos hb) (nD_pos hd) (n_gcd hb) (n_gcd hd) ?_
  have e1 := n_cross (n := a) hb
  have e2 := n_cross (n := c) hd
  have z : (nN a b * nD c d) * (b * d) = (nN c d * nD a b) * (b * d) := by
    calc (nN a b * nD c d) * (b * d) = (nN a b * b) * (nD c d * d) := by ac_rfl
      _ = (a * nD a b) * (nD c d * d) := by rw [e1]
      _ = (a * d) * (nD a b * nD c d) := by ac_rfl
      _ = (c * b) * (nD a b * nD c d) := by rw [e]
      _ = (c * nD c d) * (nD a b * b) := by ac_rfl
      _ = (nN c d * d) * (nD a b * b) := by rw [e2]
      _ = (nN c d * nD a b) * (b * d) := by ac_rfl
  exact Int.eq_of_mul_eq_mul_right (Int.mul_ne_zero hb hd) z
theorem n_same {a b c d : Int} (hb : b ≠ 0) (hd : d ≠ 0) (h1 : nN a b = nN c d) (h2 : nD a b = nD c d) : a * d = c * b := by
  have e1 := n_cross (n := a) hb
  have e2 := n_cross (n := c) hd
  have hp := nD_pos (n := a) hb
  have z : (a * d) * nD a b = (c * b) * nD a b := by
    calc (a * d) * nD a b = (a * nD a b) * d := by ac_rfl
      _ = (nN a b * b) * d := by rw [e1]
      _ = (nN c d * d) * b := by rw [h1]; ac_rfl
      _ = (c * nD c d) * b := by rw [e2]
      _ = (c * b) * nD a b := by rw [h2]; ac_rfl
  exact Int.eq_of_mul_eq_mul_right (by omega) z
theorem n_one (n : Int) : nN n 1 = n ∧ nD n 1 = 1 := by
  have e : cg n 1 = 1 := by
    unfold cg
    rw [if_neg (by decide)]
    simp
  unfold nN nD
  rw [e]
  simp
theorem bits_nN {n d : Int} {m : Nat} (h : intBits n ≤ m) : intBits (nN n d) ≤ m := PySem.intBits_fdiv_le h
theorem bits_nD {n d : Int} {m : Nat} (h : intBits d ≤ m) : intBits (nD n d) ≤ m := PySem.intBits_fdiv_le h
end Ind

set_option Elab.async false
set_option linter.all false
set_option maxRecDepth 100000
set_option maxHeartbeats 4000000
namespace Ind
open PySem PySem.Spec PyProof.Rows L2
section
variable {X : Cx} {CX : CXT} {n : Nat} {C f : Addr} {fd : FuncData} {ps : List Str} {sp : Sp} {E : XK}
/-- an own def that stands for an operator -/
structure OwnOp (X : Cx) (CX : CXT) (n : Nat) (C f : Addr) (m : Str) (fd : FuncData) (ps : List Str) (sp : Sp) (E : XK) : Prop where
  fn : FnOk X.prog X.w X.K X.mg X.base CX n f fd ps sp
  at_ : PySem.W.findIn X.K (.ref C) m = some (some (.ref f))
  isf : PySem.W.isFn X.K (.ref f) = true
  b : Binds X.K fd ps []
  px : Passes CX X E
  first : PySem.W.selfFirst X.K C = true
def rBinO (C : Addr) (sp : Sp) (E : XK) : R2 := fun x y H Q => ∃ a dx fs b dy gs, x = .ref a ∧ y = .ref b ∧ H a = some (.ins C dx fs) ∧ H b = some (.ins C dy gs) ∧ sp [x, y] H Q E
theorem op_binO {op : Operator} {m : Str} (hm : PySem.dunder op.info.2 = m) (G : OwnOp X CX n C f m fd ps sp E) (hr : Room n X.A) : OpR X (binaryOp op) (rBinO C sp E) := by
  intro pins s σ H x y v u Q I rx ry h
  obtain ⟨a, dx, fs, b, dy, gs, rfl, rfl, ha, hb, q⟩ := h
  cases (show v = Value.ref a from rx)
  cases (show u = Value.ref b from ry)
  obtain ⟨mA, O, _⟩ := ins_get I.hok ha
  obtain ⟨od, J, _⟩ := O.look
  obtain ⟨mB, O2, _⟩ := ins_get I.hok hb
  obtain ⟨od2, J2, _⟩ := O2.look
  obtain ⟨mm, hF⟩ := I.fr
  refine PySem.W.binop_K hF I.ok.mod.kin J J2.type G.first (by rw [hm]; exact G.at_) G.isf ?_
  refine wpAny_mono (run_fn (us := [.ref a, .ref b]) (vs := [.ref a, .ref b]) (dvs := []) G.fn hr G.b .nil G.px I (.cons rfl (.cons rfl .nil)) q) (fun w s' z => ?_) fun _ _ e => e
  obtain ⟨z', H', I', rz, qz⟩ := z
  have fin : EP X pins σ Q w s' := ⟨z', H', I', rz, qz⟩
  cases z' with
  | non => cases rz; exact fin
  | bl _ => cases rz; exact fin
  | int _ => obtain ⟨_, rfl⟩ := rz; exact fin
  | str _ => obtain ⟨_, rfl⟩ := rz; exact fin
  | byt _ => obtain ⟨_, rfl⟩ := rz; exact fin
  | flt _ => obtain ⟨_, rfl⟩ := rz; exact fin
  | ref _ => cases rz; exact fin
  | ty _ => cases rz; exact fin
def rNegO (C : Addr) (sp : Sp) (E : XK) : V → Hp → VK → Prop := fun x H Q => ∃ a dx fs, x = .ref a ∧ H a = some (.ins C dx fs) ∧ sp [x] H Q E
theorem un_negO (G : OwnOp X CX n C f "__neg__" fd ps sp E) (hr : Room n X.A) : UnR X (unaryOp .USub) (rNegO C sp E) := by
  intro pins s σ H x v Q I rx h
  obtain ⟨a, dx, fs, rfl, ha, q⟩ := h
  cases (show v = Value.ref a from rx)
  obtain ⟨mA, O, _⟩ := ins_get I.hok ha
  obtain ⟨od, J, _⟩ := O.look
  obtain ⟨mm, hF⟩ := I.fr
  exact PySem.W.ksp_neg hF I.ok.mod.kin J G.at_ G.isf (run_fn (us := [.ref a]) (vs := [.ref a]) (dvs := []) G.fn hr G.b .nil G.px I (.cons rfl .nil) q)
end
/-! ### a method whose error goes to a clause that looks at the slots -/
section
variable {X : Cx} {CX : CXT} {k : Nat} {C f : Addr} {m : Str} {fd : FuncData} {ps : List Str} {sp : Sp} {E : L2.St → XK} {o e : Expr} {es : List Expr} {ta : TE} {t : TA} {apos pos : Pos} {pl : Sem Bool}
def tMethS (C : Addr) (m : Str) (sp : Sp) (E : L2.St → XK) (ta : TE) (t : TA) : TE := fun σ H Q =>
  ta σ H fun x H1 => ∃ a dx fs, x = .ref a ∧ H1 a = some (.ins C dx fs) ∧ fs.lookup m = none ∧ t σ H1 fun vs H2 => sp (x :: vs) H2 Q (E σ)
theorem pe_methS0 (ho : PE X o ta) (c : Cls X.K C) (hm : Meth X.K C m f) (F : FnOk X.prog X.w X.K X.mg X.base CX k f fd ps sp) (hr : Room k X.A) (hb : Binds X.K fd ps []) (hx : ∀ σ, PassesAt CX X σ (E σ))
    (hv : eval (.Call (.Attribute o m apos) [] [] pos) X.env =
      (do let ov ← eval o X.env; standAt apos.atName; let (g, first) ← holding [ov] (getMethod ov m pl); callWith pos g first (backTo pos (starEach [] X.env)) (backToKw pos (keywordEach [] X.env))) := by rfl) :
    PE X (.Call (.Attribute o m apos) [] [] pos) (tMethS C m sp E ta tNil) := by
  constructor
  intro pins s σ H Q I h
  refine PySem.W.methodCall_KW (pl := pl) (thn (ho.run pins s σ H _ I h) fun u s1 z => ?_) hv
  obtain ⟨x, H1, I1, rx, a, dx, fs, rfl, ea, l, q⟩ := z
  cases (show u = Value.ref a from rx)
  exact getmeth_ok I1 ea c hm l (PySem.W.callWith_K0 (first := [.ref a]) I1.kIn hm.kp (run_fnS (us := [.ref a]) (vs := [.ref a]) F hr hb (hx σ) I1 (.cons rfl .nil) q))
theorem pe_methS1 (ho : PE X o ta) (c : Cls X.K C) (hm : Meth X.K C m f) (F : FnOk X.prog X.w X.K X.mg X.base CX k f fd ps sp) (hr : Room k X.A) (hb : Binds X.K fd ps []) (hx : ∀ σ, PassesAt CX X σ (E σ)) (ha : PA X (e :: es) t)
    (hst : starEach (e :: es) X.env = (false, eval e X.env) :: starEach es X.env := by rfl) (hpl : (backTo pos (starEach es X.env)).any (·.1) = false := by rfl)
    (hv : eval (.Call (.Attribute o m apos) (e :: es) [] pos) X.env =
      (do let ov ← eval o X.env; standAt apos.atName; let (g, first) ← holding [ov] (getMethod ov m pl); callWith pos g first (backTo pos (starEach (e :: es) X.env)) (backToKw pos (keywordEach [] X.env))) := by rfl) :
    PE X (.Call (.Attribute o m apos) (e :: es) [] pos) (tMethS C m sp E ta t) := by
  constructor
  intro pins s σ H Q I h
  refine PySem.W.methodCall_KW (pl := pl) (thn (ho.run pins s σ H _ I h) fun u s1 z => ?_) hv
  obtain ⟨x, H1, I1, rx, a, dx, fs, rfl, ea, l, q⟩ := z
  cases (show u = Value.ref a from rx)
  refine getmeth_ok I1 ea c hm l (PySem.W.callWith_K (first := [.ref a]) (h₀ := X.base) I.ok.mod.kin hm.kp (thn (ha.run pos pins s1 σ H1 _ I1 q) fun us s2 z2 => ?_) hst hpl)
  obtain ⟨vs, H2, I2, r, q2⟩ := z2
  exact ⟨I2.kIn, run_fnS (us := .ref a :: us) (vs := .ref a :: vs) F hr hb (hx σ) I2 (.cons rfl r) q2⟩
end
/-- an error that a def lets out goes on to whoever called it -/
theorem pass_on {X : Cx} {E : XK} (hs : X.stack = X.env :: X.outer) (hf : X.env.frame = some X.env.locals) (hex : X.ex = []) (t : Takes X (fun cls d _ H => E cls d H)) : Passes (L2.CX X.prog X.w) X E := passes_call t fun _ _ _ _ h => h
/-! ### lcm of small ints -/
def rLcm : List V → Hp → VK → Prop := fun vs H Q => ∃ a b : Int, vs = [.int a, .int b] ∧ (0 < a ∧ a < 2 ^ 60) ∧ (0 < b ∧ b < 2 ^ 60) ∧ Q (.int ((Nat.lcm a.natAbs b.natAbs : Nat) : Int)) H
theorem cr_lcm {X : Cx} : CallR X (.builtin "math.lcm") rLcm := by
  intro pins s σ H vs us Q I r h
  obtain ⟨a, b, rfl, ha, hb, q⟩ := h
  obtain ⟨t, u, rfl⟩ := Vals.int2 r
  have e : Nat.lcm 1 a.natAbs = a.natAbs := Nat.lcm_one_left _
  have hn : a.natAbs < 2 ^ 60 := by omega
  have hm : b.natAbs < 2 ^ 60 := by omega
  refine PySem.W.mg_lcm (by omega) (by omega) ?_ ?_
  · rw [e]
    have hp : 0 < Nat.lcm a.natAbs b.natAbs := Nat.lcm_pos (by omega) (by omega)
    have hle : Nat.lcm a.natAbs b.natAbs ≤ a.natAbs * b.natAbs := Nat.lcm_le_mul (by omega) (by omega)
    have hlt : a.natAbs * b.natAbs < 2 ^ 120 := Nat.lt_of_lt_of_le (Nat.mul_lt_mul'' hn hm) (by decide)
    have h2 : ((Nat.lcm a.natAbs b.natAbs : Nat) : Int).natAbs < 2 ^ 120 := by
      show Nat.lcm a.natAbs b.natAbs < 2 ^ 120
      omega
    have h3 := PySem.Flt.log2_lt_of (k := 120) (by decide) h2
    exact Nat.lt_of_lt_of_le h3 (by decide)
  · rw [e]
    exact ⟨.int _, H, I.tok _, ⟨_, rfl⟩, q⟩
end Ind

set_option Elab.async false
set_option linter.all false
set_option maxRecDepth 100000
set_option maxHeartbeats 4000000
namespace Ind
open PySem PySem.Spec PyProof.Rows L2
open Builtin.Int (intBits)
/-- how Ratio's __init__ stands -/
structure MkR (P : Program) (w : World) (K : PySem.W.Frag) (mg : Str → Option Value) (base : Heap) (C Z : Addr) (fI : Addr) (fdI : FuncData) (ds : List Value) : Prop where
  cm : Mk K C fI
  fn : FnOk P w K mg base (L2.CX P w) 41 fI fdI ["self", "n", "d"] (spInit C Z)
  b2 : Binds K fdI ["self", "n", "d"] []
  b1 : Binds K fdI ["self", "n", "d"] ds
  v1 : Vals [V.int 1] ds
/-- sizes far below the most -/
def Bd (x : Int) : Prop := intBits x ≤ 30000000
theorem bd2 {x y : Int} (h1 : Bd x) (h2 : Bd y) : intBits x + intBits y ≤ 134217728 := by
  unfold Bd at h1 h2
  omega
section
variable {P : Program} {w : World} {K : PySem.W.Frag} {mg : Str → Option Value} {base : Heap} {C Z : Addr}
abbrev s_add : Stmt := inClass (top 10) 1
def sp_add (C : Addr) : Sp := fun vs H Q _ => ∃ (p q : Addr) (a b c d : Int), vs = [.ref p, .ref q] ∧ RatAt C H p a b ∧ RatAt C H q c d ∧ b ≠ 0 ∧ d ≠ 0 ∧ Bd a ∧ Bd b ∧ Bd c ∧ Bd d ∧
  ∀ (H' : Hp) (r : Addr), RatAt C H' r (nN (a * d + c * b) (b * d)) (nD (a * d + c * b) (b * d)) → Same H H' → Q (.ref r) H'
theorem sc_add : FnScope ["self", "other"] ["self", "other"] (defScope s_add) := ⟨rfl, rfl, rfl, by decide +kernel, rfl, by decide +kernel, by decide +kernel⟩
theorem ok_add {f fI : Addr} {fd fdI : FuncData} {ds : List Value} (F : Fun K "__add__" "Ratio.__add__" s_add f fd) (R : TxR K mg C Z) (M : MkR P w K mg base C Z fI fdI ds) : FnOk P w K mg base CX0 43 f fd ["self", "other"] (sp_add C) := by
  refine F.ok sc_add (fun vs H Q E h => ?_) (fun cdv A outer s H vs Q E hr h => ?_)
  · obtain ⟨p, q, a, b, c, d, rfl, _⟩ := h
    rfl
  · obtain ⟨p, q, a, b, c, d, rfl, ⟨dx, hp⟩, ⟨dy, hq⟩, h1, h2, ba, bb, bc, bd, k⟩ := h
    refine ⟨_, pss_one (ps_ret (pe_make M.cm M.fn hr (by rfl) R.mgC M.b2 .nil passL (pa_cons (pe_op op_add (pe_op op_mulB (pe_fld (pv 0) rfl) (pe_fld (pv 1) rfl)) (pe_op op_mulB (pe_fld (pv 1) rfl) (pe_fld (pv 0) rfl))) (pa_cons (pe_op op_mulB (pe_fld (pv 0) rfl) (pe_fld (pv 1) rfl)) pa_nil)))), ?_⟩
    refine ⟨_, rfl, p, C, dx, _, _, rfl, hp, R.cl, R.nN, rf_n _ _, _, rfl, q, C, dy, _, _, rfl, hq, R.cl, R.nD, rf_d _ _, _, _, rfl, rfl, bd2 ba bd, _, rfl, q, C, dy, _, _, rfl, hq, R.cl, R.nN, rf_n _ _, _, rfl, p, C, dx, _, _, rfl, hp, R.cl, R.nD, rf_d _ _, _, _, rfl, rfl, bd2 bc bb, _, _, rfl, rfl, _, rfl, p, C, dx, _, _, rfl, hp, R.cl, R.nD, rf_d _ _, _, rfl, q, C, dy, _, _, rfl, hq, R.cl, R.nD, rf_d _ _, _, _, rfl, rfl, bd2 bb bd, ?_⟩
    exact fun r dr nr ndr ner => ⟨r, dr, _, _, rfl, upd_same, fun z => absurd z (Int.mul_ne_zero h1 h2), fun _ H' rr kk => ⟨rfl, k H' r rr (Same.made nr ndr kk)⟩⟩

abbrev s_sub : Stmt := inClass (top 10) 2
def sp_sub (C : Addr) : Sp := fun vs H Q _ => ∃ (p q : Addr) (a b c d : Int), vs = [.ref p, .ref q] ∧ RatAt C H p a b ∧ RatAt C H q c d ∧ b ≠ 0 ∧ d ≠ 0 ∧ Bd a ∧ Bd b ∧ Bd c ∧ Bd d ∧
  ∀ (H' : Hp) (r : Addr), RatAt C H' r (nN (a * d - c * b) (b * d)) (nD (a * d - c * b) (b * d)) → Same H H' → Q (.ref r) H'
theorem sc_sub : FnScope ["self", "other"] ["self", "other"] (defScope s_sub) := ⟨rfl, rfl, rfl, by decide +kernel, rfl, by decide +kernel, by decide +kernel⟩
theorem ok_sub {f fI : Addr} {fd fdI : FuncData} {ds : List Value} (F : Fun K "__sub__" "Ratio.__sub__" s_sub f fd) (R : TxR K mg C Z) (M : MkR P w K mg base C Z fI fdI ds) : FnOk P w K mg base CX0 43 f fd ["self", "other"] (sp_sub C) := by
  refine F.ok sc_sub (fun vs H Q E h => ?_) (fun cdv A outer s H vs Q E hr h => ?_)
  · obtain ⟨p, q, a, b, c, d, rfl, _⟩ := h
    rfl
  · obtain ⟨p, q, a, b, c, d, rfl, ⟨dx, hp⟩, ⟨dy, hq⟩, h1, h2, ba, bb, bc, bd, k⟩ := h
    refine ⟨_, pss_one (ps_ret (pe_make M.cm M.fn hr (by rfl) R.mgC M.b2 .nil passL (pa_cons (pe_op op_sub (pe_op op_mulB (pe_fld (pv 0) rfl) (pe_fld (pv 1) rfl)) (pe_op op_mulB (pe_fld (pv 1) rfl) (pe_fld (pv 0) rfl))) (pa_cons (pe_op op_mulB (pe_fld (pv 0) rfl) (pe_fld (pv 1) rfl)) pa_nil)))), ?_⟩
    refine ⟨_, rfl, p, C, dx, _, _, rfl, hp, R.cl, R.nN, rf_n _ _, _, rfl, q, C, dy, _, _, rfl, hq, R.cl, R.nD, rf_d _ _, _, _, rfl, rfl, bd2 ba bd, _, rfl, q, C, dy, _, _, rfl, hq, R.cl, R.nN, rf_n _ _, _, rfl, p, C, dx, _, _, rfl, hp, R.cl, R.nD, rf_d _ _, _, _, rfl, rfl, bd2 bc bb, _, _, rfl, rfl, _, rfl, p, C, dx, _, _, rfl, hp, R.cl, R.nD, rf_d _ _, _, rfl, q, C, dy, _, _, rfl, hq, R.cl, R.nD, rf_d _ _, _, _, rfl, rfl, bd2 bb bd, ?_⟩
    exact fun r dr nr ndr ner => ⟨r, dr, _, _, rfl, upd_same, fun z => absurd z (Int.mul_ne_zero h1 h2), fun _ H' rr kk => ⟨rfl, k H' r rr (Same.made nr ndr kk)⟩⟩

abbrev s_mul : Stmt := inClass (top 10) 3
def sp_mul (C : Addr) : Sp := fun vs H Q _ => ∃ (p q : Addr) (a b c d : Int), vs = [.ref p, .ref q] ∧ RatAt C H p a b ∧ RatAt C H q c d ∧ b ≠ 0 ∧ d ≠ 0 ∧ Bd a ∧ Bd b ∧ Bd c ∧ Bd d ∧
  ∀ (H' : Hp) (r : Addr), RatAt C H' r (nN (a * c) (b * d)) (nD (a * c) (b * d)) → Same H H' → Q (.ref r) H'
theorem sc_mul : FnScope ["self", "other"] ["self", "other"] (defScope s_mul) := ⟨rfl, rfl, rfl, by decide +kernel, rfl, by decide +kernel, by decide +kernel⟩
theorem ok_mul {f fI : Addr} {fd fdI : FuncData} {ds : List Value} (F : Fun K "__mul__" "Ratio.__mul__" s_mul f fd) (R : TxR K mg C Z) (M : MkR P w K mg base C Z fI fdI ds) : FnOk P w K mg base CX0 43 f fd ["self", "other"] (sp_mul C) := by
  refine F.ok sc_mul (fun vs H Q E h => ?_) (fun cdv A outer s H vs Q E hr h => ?_)
  · obtain ⟨p, q, a, b, c, d, rfl, _⟩ := h
    rfl
  · obtain ⟨p, q, a, b, c, d, rfl, ⟨dx, hp⟩, ⟨dy, hq⟩, h1, h2, ba, bb, bc, bd, k⟩ := h
    refine ⟨_, pss_one (ps_ret (pe_make M.cm M.fn hr (by rfl) R.mgC M.b2 .nil passL (pa_cons (pe_op op_mulB (pe_fld (pv 0) rfl) (pe_fld (pv 1) rfl)) (pa_cons (pe_op op_mulB (pe_fld (pv 0) rfl) (pe_fld (pv 1) rfl)) pa_nil)))), ?_⟩
    refine ⟨_, rfl, p, C, dx, _, _, rfl, hp, R.cl, R.nN, rf_n _ _, _, rfl, q, C, dy, _, _, rfl, hq, R.cl, R.nN, rf_n _ _, _, _, rfl, rfl, bd2 ba bc, _, rfl, p, C, dx, _, _, rfl, hp, R.cl, R.nD, rf_d _ _, _, rfl, q, C, dy, _, _, rfl, hq, R.cl, R.nD, rf_d _ _, _, _, rfl, rfl, bd2 bb bd, ?_⟩
    exact fun r dr nr ndr ner => ⟨r, dr, _, _, rfl, upd_same, fun z => absurd z (Int.mul_ne_zero h1 h2), fun _ H' rr kk => ⟨rfl, k H' r rr (Same.made nr ndr kk)⟩⟩
abbrev s_neg : Stmt := inClass (top 10) 4
def sp_neg (C : Addr) : Sp := fun vs H Q _ => ∃ (p : Addr) (a b : Int), vs = [.ref p] ∧ RatAt C H p a b ∧ b ≠ 0 ∧ ∀ (H' : Hp) (r : Addr), RatAt C H' r (nN (-a) b) (nD (-a) b) → Same H H' → Q (.ref r) H'
theorem sc_neg : FnScope ["self"] ["self"] (defScope s_neg) := ⟨rfl, rfl, rfl, by decide +kernel, rfl, by decide +kernel, by decide +kernel⟩
theorem ok_neg {f fI : Addr} {fd fdI : FuncData} {ds : List Value} (F : Fun K "__neg__" "Ratio.__neg__" s_neg f fd) (R : TxR K mg C Z) (M : MkR P w K mg base C Z fI fdI ds) : FnOk P w K mg base CX0 43 f fd ["self"] (sp_neg C) := by
  refine F.ok sc_neg (fun vs H Q E h => ?_) (fun cdv A outer s H vs Q E hr h => ?_)
  · obtain ⟨p, a, b, rfl, _⟩ := h
    rfl
  · obtain ⟨p, a, b, rfl, ⟨dx, hp⟩, h1, k⟩ := h
    refine ⟨_, pss_one (ps_ret (pe_make M.cm M.fn hr (by rfl) R.mgC M.b2 .nil passL (pa_cons (pe_un un_neg (pe_fld (pv 0) rfl)) (pa_cons (pe_fld (pv 0) rfl) pa_nil)))), ?_⟩
    refine ⟨_, rfl, p, C, dx, _, _, rfl, hp, R.cl, R.nN, rf_n _ _, _, rfl, _, rfl, p, C, dx, _, _, rfl, hp, R.cl, R.nD, rf_d _ _, ?_⟩
    exact fun r dr nr ndr ner => ⟨r, dr, _, _, rfl, upd_same, fun z => absurd z h1, fun _ H' rr kk => ⟨rfl, k H' r rr (Same.made nr ndr kk)⟩⟩
abbrev s_inv : Stmt := inClass (top 10) 7
def sp_inv (C Z : Addr) : Sp := fun vs H Q E => ∃ (p : Addr) (a b : Int), vs = [.ref p] ∧ RatAt C H p a b ∧ (a = 0 → ∀ H' : Hp, Same H H' → E (.ref Z) none H') ∧
  (a ≠ 0 → ∀ (H' : Hp) (r : Addr), RatAt C H' r (nN b a) (nD b a) → Same H H' → Q (.ref r) H')
theorem sc_inv : FnScope ["self"] ["self"] (defScope s_inv) := ⟨rfl, rfl, rfl, by decide +kernel, rfl, by decide +kernel, by decide +kernel⟩
theorem same_raw {H : Hp} {x dx C : Addr} (nx : H x = none) (nd : H dx = none) : Same H (upd (upd H dx (.own x)) x (.ins C dx [])) := fun b o e => by
  rw [upd_ne (ne_of_none e nx), upd_ne (ne_of_none e nd)]
  exact e
theorem ok_inv {f fI : Addr} {fd fdI : FuncData} {ds : List Value} (F : Fun K "inverse" "Ratio.inverse" s_inv f fd) (R : TxR K mg C Z) (M : MkR P w K mg base C Z fI fdI ds) : FnOk P w K mg base (L2.CX P w) 43 f fd ["self"] (sp_inv C Z) := by
  refine F.okX sc_inv (fun vs H Q E h => ?_) (fun cdv A outer s H vs Q E hr h => ?_)
  · obtain ⟨p, a, b, rfl, _⟩ := h
    rfl
  · obtain ⟨p, a, b, rfl, ⟨dx, hp⟩, kz, k⟩ := h
    refine ⟨_, pss_one (ps_ret (pe_make (E := E) M.cm M.fn hr (by rfl) R.mgC M.b2 .nil (passes_call (takes_of rfl rfl rfl rfl) fun _ _ _ _ h => h) (pa_cons (pe_fld (pv 0) rfl) (pa_cons (pe_fld (pv 0) rfl) pa_nil)))), ?_⟩
    refine ⟨_, rfl, p, C, dx, _, _, rfl, hp, R.cl, R.nD, rf_d _ _, _, rfl, p, C, dx, _, _, rfl, hp, R.cl, R.nN, rf_n _ _, ?_⟩
    exact fun r dr nr ndr ner => ⟨r, dr, _, _, rfl, upd_same, fun z => kz z _ (same_raw nr ndr), fun ha H' rr kk => ⟨rfl, k ha H' r rr (Same.made nr ndr kk)⟩⟩
abbrev s_over : Stmt := inClass (top 10) 8
def sp_over (C Z : Addr) : Sp := fun vs H Q E => ∃ (p q : Addr) (a b c d : Int), vs = [.ref p, .ref q] ∧ RatAt C H p a b ∧ RatAt C H q c d ∧ b ≠ 0 ∧ d ≠ 0 ∧ Bd a ∧ Bd b ∧ Bd c ∧ Bd d ∧ (c = 0 → ∀ H' : Hp, Same H H' → E (.ref Z) none H') ∧
  (c ≠ 0 → ∀ (H' : Hp) (r : Addr), RatAt C H' r (nN (a * d) (b * c)) (nD (a * d) (b * c)) → Same H H' → Q (.ref r) H')
theorem sc_over : FnScope ["self", "other"] ["self", "other"] (defScope s_over) := ⟨rfl, rfl, rfl, by decide +kernel, rfl, by decide +kernel, by decide +kernel⟩
theorem ok_over {f fI : Addr} {fd fdI : FuncData} {ds : List Value} (F : Fun K "over" "Ratio.over" s_over f fd) (R : TxR K mg C Z) (M : MkR P w K mg base C Z fI fdI ds) : FnOk P w K mg base (L2.CX P w) 43 f fd ["self", "other"] (sp_over C Z) := by
  refine F.okX sc_over (fun vs H Q E h => ?_) (fun cdv A outer s H vs Q E hr h => ?_)
  · obtain ⟨p, q, a, b, c, d, rfl, _⟩ := h
    rfl
  · obtain ⟨p, q, a, b, c, d, rfl, ⟨dx, hp⟩, ⟨dy, hq⟩, h1, h2, ba, bb, bc, bd, kz, k⟩ := h
    refine ⟨_, pss_one (ps_ret (pe_make (E := E) M.cm M.fn hr (by rfl) R.mgC M.b2 .nil (passes_call (takes_of rfl rfl rfl rfl) fun _ _ _ _ h => h) (pa_cons (pe_op op_mulB (pe_fld (pv 0) rfl) (pe_fld (pv 1) rfl)) (pa_cons (pe_op op_mulB (pe_fld (pv 0) rfl) (pe_fld (pv 1) rfl)) pa_nil)))), ?_⟩
    refine ⟨_, rfl, p, C, dx, _, _, rfl, hp, R.cl, R.nN, rf_n _ _, _, rfl, q, C, dy, _, _, rfl, hq, R.cl, R.nD, rf_d _ _, _, _, rfl, rfl, bd2 ba bd, _, rfl, p, C, dx, _, _, rfl, hp, R.cl, R.nD, rf_d _ _, _, rfl, q, C, dy, _, _, rfl, hq, R.cl, R.nN, rf_n _ _, _, _, rfl, rfl, bd2 bb bc, ?_⟩
    exact fun r dr nr ndr ner => ⟨r, dr, _, _, rfl, upd_same, fun z => kz (by
      rcases Int.mul_eq_zero.mp z with e | e
      · exact absurd e h1
      · exact e) _ (same_raw nr ndr), fun ha H' rr kk => ⟨rfl, k (fun e => ha (by rw [e]; simp)) H' r rr (Same.made nr ndr kk)⟩⟩
/-! ### power_of over ints -/
abbrev sPowOf : Stmt := top 8
def spPowI : Sp := fun vs H Q _ => ∃ (b : Int) (k : Nat), vs = [.int b, .int k, .int 1] ∧ k ≤ 8 ∧ intBits b ≤ 3000000 ∧ Q (.int (b ^ k)) H
theorem scPO : FnScope ["base", "k", "unit", "found"] ["base", "k", "unit"] (defScope sPowOf) := ⟨rfl, rfl, rfl, by decide +kernel, rfl, by decide +kernel, by decide +kernel⟩
theorem bits_pow {b : Int} {e : Nat} (h : intBits b ≤ 3000000) (he : e ≤ 8) : intBits (b ^ e) ≤ 24000001 := by
  refine Nat.le_trans (PySem.intBits_pow_le h e) ?_
  have : 3000000 * e ≤ 3000000 * 8 := Nat.mul_le_mul_left _ he
  omega
theorem ok_powOf {f : Addr} {fd : FuncData} (F : Fun K "power_of" "power_of" sPowOf f fd) : FnOk P w K mg base CX0 1 f fd ["base", "k", "unit"] spPowI := by
  refine F.ok scPO (fun vs H Q E h => ?_) (fun cdv A outer s H vs Q E hr h => ?_)
  · obtain ⟨b, k, rfl, _⟩ := h
    rfl
  · obtain ⟨b, k, rfl, hk, hb, q⟩ := h
    refine ⟨_, pss_cons (ps_set (i := 3) scPO.nd rfl (Or.inl rfl) (pv 2))
      (pss_cons (ps_while PassesOwn.never (pt_cmpR op_gt (pv 1) pe_int (nomark _))
        (C8.pss_cut (ps_if (pt_cmpR op_eq (pe_op op_modN (pv 1) pe_int) pe_int (nomark _)) (pss_one (ps_set (i := 3) scPO.nd rfl (Or.inl rfl) (pe_op op_mulB (pv 3) (pv 0)))) pss_nil)
        (pss_cons (ps_set (i := 1) scPO.nd rfl (Or.inl rfl) (pe_op op_fdivN (pv 1) pe_int))
        (pss_one (ps_if (pt_cmpR op_gt (pv 1) pe_int (nomark _)) (pss_one (ps_set (i := 0) scPO.nd rfl (Or.inl rfl) (pe_op op_mulB (pv 0) (pv 0)))) pss_nil)))))
      (pss_one (ps_ret (pv 3)))), ?_⟩
    refine ⟨_, rfl, ?_⟩
    refine while_by (fun σ H' => H' = H ∧ ∃ e g j : Nat, σ = [some (.int (b ^ e)), some (.int (j : Int)), some (.int 1), some (.int (b ^ g))] ∧ e * j + g = k ∧ 1 ≤ e)
      (fun σ _ => match σ[1]? with | some (some (V.int y)) => y.toNat | _ => 0) ⟨rfl, 1, 0, k, by rw [show b ^ 1 = b by rw [Int.pow_succ, Int.pow_zero, Int.one_mul], Int.pow_zero]; rfl, by omega, Nat.le_refl _⟩ ?_ ?_
    · rintro σ H' ⟨rfl, e, g, j, rfl, hj, he⟩
      refine ⟨_, rfl, _, _, rfl, rfl, _, rfl, ite2 (fun c => ?_) (fun c => ?_)⟩
      · have hj0 : 0 < j := by
          have := of_decide_eq_true c
          omega
        have hge : e + g ≤ k := by
          have : e * 1 ≤ e * j := Nat.mul_le_mul_left _ hj0
          omega
        have w1 := bits_pow (b := b) (e := e) hb (by omega)
        have w2 := bits_pow (b := b) (e := g) hb (by omega)
        have em : ((j : Int)).fmod 2 = ((j % 2 : Nat) : Int) := by
          rw [Int.fmod_eq_emod_of_nonneg _ (by omega)]
          rfl
        have ed : ((j : Int)).fdiv 2 = ((j / 2 : Nat) : Int) := by
          rw [Int.fdiv_eq_ediv_of_nonneg _ (by omega)]
          rfl
        refine ⟨fun σ' H2 => H2 = H' ∧ ∃ g' : Nat, σ' = [some (.int (b ^ e)), some (.int (j : Int)), some (.int 1), some (.int (b ^ g'))] ∧ g' = g + e * (j % 2), ?_, ?_⟩
        · refine ⟨_, rfl, _, _, rfl, rfl, (by show (2 : Int) ≠ 0; decide), rfl, _, rfl, ite2 (fun c2 => ?_) (fun c2 => ?_)⟩
          · refine ⟨_, rfl, _, rfl, _, _, rfl, rfl, (by show intBits (b ^ g) + intBits (b ^ e) ≤ 134217728; omega), rfl, g + e, ?_, ?_⟩
            · rw [Int.pow_add]
              rfl
            · have z : V.int ((j : Int).fmod 2) = V.int 1 := of_decide_eq_true c2
              rw [em] at z
              have z2 := V.int.inj z
              have z3 : j % 2 = 1 := by omega
              rw [z3, Nat.mul_one]
          · refine ⟨rfl, g, rfl, ?_⟩
            have z : ¬ V.int ((j : Int).fmod 2) = V.int 1 := fun z => c2 (decide_eq_true z)
            rw [em] at z
            have z3 : j % 2 = 0 := by
              have : ¬ ((j % 2 : Nat) : Int) = 1 := fun q => z (by rw [q])
              omega
            rw [z3, Nat.mul_zero, Nat.add_zero]
        · rintro σ' H2 ⟨rfl, g', rfl, hg'⟩
          have hdm : j = 2 * (j / 2) + j % 2 := (Nat.div_add_mod j 2).symm
          have hsum : 2 * e * (j / 2) + g' = k := by
            rw [hg']
            have : e * j = e * (2 * (j / 2)) + e * (j % 2) := by rw [← Nat.mul_add, ← hdm]
            have : e * (2 * (j / 2)) = 2 * e * (j / 2) := by ac_rfl
            omega
          have hlt : j / 2 < j := Nat.div_lt_self hj0 (by decide)
          refine ⟨_, rfl, _, _, rfl, rfl, ⟨(by show (2 : Int) ≠ 0; decide), by decide⟩, _, rfl, _, _, rfl, rfl, _, rfl, ite2 (fun c3 => ?_) (fun c3 => ?_)⟩
          · have hpos : 0 < j / 2 := by
              have z := of_decide_eq_true c3
              have z2 : (0 : Int) < ((j / 2 : Nat) : Int) := by rw [← ed]; exact z
              omega
            refine ⟨_, rfl, _, rfl, _, _, rfl, rfl, (by show intBits (b ^ e) + intBits (b ^ e) ≤ 134217728; omega), ⟨rfl, 2 * e, g', j / 2, ?_, hsum, by omega⟩, ?_⟩
            · have ep : b ^ e * b ^ e = b ^ (2 * e) := by rw [← Int.pow_add, Nat.two_mul]
              rw [← ed, ← ep]
              rfl
            · show ((j : Int).fdiv 2).toNat < ((j : Nat) : Int).toNat
              rw [ed]
              omega
          · have hz : j / 2 = 0 := by
              have z : ¬ (0 : Int) < ((j / 2 : Nat) : Int) := fun z => c3 (decide_eq_true (by rw [← ed] at z; exact z))
              omega
            refine ⟨⟨rfl, e, g', j / 2, ?_, ?_, he⟩, ?_⟩
            · rw [← ed]
              rfl
            · rw [hz] at hsum ⊢
              rw [Nat.mul_zero] at hsum ⊢
              exact hsum
            · show ((j : Int).fdiv 2).toNat < ((j : Nat) : Int).toNat
              rw [ed]
              omega
      · have hj0 : j = 0 := by
          have z : ¬ (0 : Int) < (j : Int) := fun z => c (decide_eq_true z)
          omega
        subst hj0
        rw [Nat.mul_zero, Nat.zero_add] at hj
        refine ⟨_, rfl, ?_⟩
        rw [hj]
        exact q
    · rintro σ H' R R' hR ⟨v, e1, i1, i2, e2, e3, b1, e4, h3⟩
      exact ⟨v, e1, i1, i2, e2, e3, b1, e4, hR _ _ h3⟩
end
end Ind

set_option Elab.async false
set_option linter.all false
set_option maxRecDepth 100000
set_option maxHeartbeats 4000000
namespace Ind
open PySem PySem.Spec PyProof.Rows L2
open Builtin.Int (intBits)
section
variable {P : Program} {w : World} {K : PySem.W.Frag} {mg : Str → Option Value} {base : Heap} {C Z : Addr}
abbrev s_pow : Stmt := inClass (top 10) 9
/-- a power with an exponent from 0 on -/
def sp_pow0 (C : Addr) : Sp := fun vs H Q _ => ∃ (p : Addr) (a b : Int) (k : Nat), vs = [.ref p, .int k] ∧ k ≤ 8 ∧ RatAt C H p a b ∧ b ≠ 0 ∧ intBits a ≤ 3000000 ∧ intBits b ≤ 3000000 ∧
  ∀ (H' : Hp) (r : Addr), RatAt C H' r (nN (a ^ k) (b ^ k)) (nD (a ^ k) (b ^ k)) → Same H H' → Q (.ref r) H'
theorem sc_pow : FnScope ["self", "k"] ["self", "k"] (defScope s_pow) := ⟨rfl, rfl, rfl, by decide +kernel, rfl, by decide +kernel, by decide +kernel⟩
theorem pow_ne {b : Int} (h : b ≠ 0) (k : Nat) : b ^ k ≠ 0 := by
  induction k with
  | zero => rw [Int.pow_zero]; decide
  | succ k ih =>
    rw [Int.pow_succ]
    exact Int.mul_ne_zero ih h
theorem ok_pow0 {f fI fP : Addr} {fd fdI fdP : FuncData} {ds : List Value} (F : Fun K "power" "Ratio.power" s_pow f fd) (R : TxR K mg C Z) (M : MkR P w K mg base C Z fI fdI ds) (FP : Fun K "power_of" "power_of" sPowOf fP fdP) (bP : Binds K fdP ["base", "k", "unit"] []) (gP : mg "power_of" = some (.ref fP)) :
    FnOk P w K mg base CX0 43 f fd ["self", "k"] (sp_pow0 C) := by
  have GP : FnOk P w K mg base CX0 1 fP fdP ["base", "k", "unit"] spPowI := ok_powOf FP
  refine F.ok sc_pow (fun vs H Q E h => ?_) (fun cdv A outer s H vs Q E hr h => ?_)
  · obtain ⟨p, a, b, k, rfl, _⟩ := h
    rfl
  · obtain ⟨p, a, b, k, rfl, hk, ⟨dx, hp⟩, h1, ba, bb, q⟩ := h
    have hr1 : Room 1 _ := hr.mono (by decide)
    refine ⟨_, pss_cons (ps_if (pt_cmpR op_lt (pv 1) pe_int (nomark _)) (pss_one ps_never) pss_nil)
      (pss_one (ps_ret (pe_make M.cm M.fn hr (by rfl) R.mgC M.b2 .nil passL (pa_cons (pe_call GP hr1 (by rfl) gP FP.kp bP .nil pass0 (pa_cons (pe_fld (pv 0) rfl) (pa_cons (pv 1) (pa_cons pe_int pa_nil))))
        (pa_cons (pe_call GP hr1 (by rfl) gP FP.kp bP .nil pass0 (pa_cons (pe_fld (pv 0) rfl) (pa_cons (pv 1) (pa_cons pe_int pa_nil)))) pa_nil))))), ?_⟩
    refine ⟨_, rfl, _, _, rfl, rfl, _, rfl, ite2 (fun c => absurd (of_decide_eq_true c) (by omega)) (fun _ => ?_)⟩
    refine ⟨_, rfl, p, C, dx, _, _, rfl, hp, R.cl, R.nN, rf_n _ _, _, rfl, a, k, rfl, hk, ba, _, rfl, p, C, dx, _, _, rfl, hp, R.cl, R.nD, rf_d _ _, _, rfl, b, k, rfl, hk, bb, ?_⟩
    exact fun r dr nr ndr ner => ⟨r, dr, _, _, rfl, upd_same, fun z => absurd z (pow_ne h1 k), fun _ H' rr kk => ⟨rfl, q H' r rr (Same.made nr ndr kk)⟩⟩
/-- a power with any exponent -/
def sp_pow (C Z : Addr) : Sp := fun vs H Q E => ∃ (p : Addr) (a b k : Int), vs = [.ref p, .int k] ∧ -8 ≤ k ∧ k ≤ 8 ∧ RatAt C H p a b ∧ b ≠ 0 ∧ intBits a ≤ 3000000 ∧ intBits b ≤ 3000000 ∧
  (0 ≤ k → ∀ (H' : Hp) (r : Addr), RatAt C H' r (nN (a ^ k.toNat) (b ^ k.toNat)) (nD (a ^ k.toNat) (b ^ k.toNat)) → Same H H' → Q (.ref r) H') ∧
  (k < 0 → a = 0 → ∀ H' : Hp, Same H H' → E (.ref Z) none H') ∧
  (k < 0 → a ≠ 0 → ∀ (H' : Hp) (r : Addr), RatAt C H' r (nN (nN b a ^ (-k).toNat) (nD b a ^ (-k).toNat)) (nD (nN b a ^ (-k).toNat) (nD b a ^ (-k).toNat)) → Same H H' → Q (.ref r) H')
theorem ok_pow {f fI fP fV : Addr} {fd fdI fdP fdV : FuncData} {ds : List Value} (F : Fun K "power" "Ratio.power" s_pow f fd) (bF : Binds K fd ["self", "k"] []) (mF : Meth K C "power" f) (R : TxR K mg C Z) (M : MkR P w K mg base C Z fI fdI ds)
    (FP : Fun K "power_of" "power_of" sPowOf fP fdP) (bP : Binds K fdP ["base", "k", "unit"] []) (gP : mg "power_of" = some (.ref fP)) (FV : Fun K "inverse" "Ratio.inverse" s_inv fV fdV) (bV : Binds K fdV ["self"] []) (mV : Meth K C "inverse" fV) :
    FnOk P w K mg base (L2.CX P w) 44 f fd ["self", "k"] (sp_pow C Z) := by
  have GP : FnOk P w K mg base CX0 1 fP fdP ["base", "k", "unit"] spPowI := ok_powOf FP
  have G0 : FnOk P w K mg base CX0 43 f fd ["self", "k"] (sp_pow0 C) := ok_pow0 F R M FP bP gP
  have GV : FnOk P w K mg base (L2.CX P w) 43 fV fdV ["self"] (sp_inv C Z) := ok_inv FV R M
  refine F.okX sc_pow (fun vs H Q E h => ?_) (fun cdv A outer s H vs Q E hr h => ?_)
  · obtain ⟨p, a, b, k, rfl, _⟩ := h
    rfl
  · obtain ⟨p, a, b, k, rfl, hk, hk2, ⟨dx, hp⟩, h1, ba, bb, q0, qz, q1⟩ := h
    have hr1 : Room 1 _ := hr.mono (by decide)
    have hr42 : Room 42 _ := hr.mono (by decide)
    refine ⟨_, pss_cons (ps_if (pt_cmpR op_lt (pv 1) pe_int (nomark _)) (pss_one (ps_ret (pe_meth (pe_meth0 (E := E) (pv 0) R.cl mV GV hr bV .nil (passes_call (takes_of rfl rfl rfl rfl) fun _ _ _ _ h => h)) R.cl mF G0 hr bF .nil pass0 (pa_cons (pe_un un_neg (pv 1)) pa_nil)))) pss_nil)
      (pss_one (ps_ret (pe_make M.cm M.fn hr42 (by rfl) R.mgC M.b2 .nil passL (pa_cons (pe_call GP hr1 (by rfl) gP FP.kp bP .nil pass0 (pa_cons (pe_fld (pv 0) rfl) (pa_cons (pv 1) (pa_cons pe_int pa_nil))))
        (pa_cons (pe_call GP hr1 (by rfl) gP FP.kp bP .nil pass0 (pa_cons (pe_fld (pv 0) rfl) (pa_cons (pv 1) (pa_cons pe_int pa_nil)))) pa_nil))))), ?_⟩
    refine ⟨_, rfl, _, _, rfl, rfl, _, rfl, ite2 (fun c => ?_) (fun c => ?_)⟩
    · have hneg : k < 0 := of_decide_eq_true c
      refine ⟨_, rfl, p, dx, _, rfl, hp, rf_no _ _ (by decide +kernel) (by decide +kernel), p, a, b, rfl, ⟨dx, hp⟩, fun e H' s' => qz hneg e H' s', fun e H' r hrr s' => ?_⟩
      obtain ⟨dr, er⟩ := id hrr
      refine ⟨r, dr, _, rfl, er, rf_no _ _ (by decide +kernel) (by decide +kernel), _, rfl, _, rfl, ?_⟩
      refine ⟨r, nN b a, nD b a, (-k).toNat, ?_, by omega, hrr, Int.ne_of_gt (nD_pos e), bits_nN bb, bits_nD ba, fun H2 r2 h2 s2 => q1 hneg e H2 r2 h2 (s'.trans s2)⟩
      show [V.ref r, V.int (-k)] = [V.ref r, V.int (((-k).toNat : Nat) : Int)]
      rw [Int.toNat_of_nonneg (by omega)]
    · have hpos : 0 ≤ k := by
        have z : ¬ k < 0 := fun z => c (decide_eq_true z)
        omega
      have e1 : [V.int a, V.int k, V.int 1] = [V.int a, V.int ((k.toNat : Nat) : Int), V.int 1] := by rw [Int.toNat_of_nonneg hpos]
      have e2 : [V.int b, V.int k, V.int 1] = [V.int b, V.int ((k.toNat : Nat) : Int), V.int 1] := by rw [Int.toNat_of_nonneg hpos]
      refine ⟨_, rfl, p, C, dx, _, _, rfl, hp, R.cl, R.nN, rf_n _ _, _, rfl, a, k.toNat, e1, by omega, ba, _, rfl, p, C, dx, _, _, rfl, hp, R.cl, R.nD, rf_d _ _, _, rfl, b, k.toNat, e2, by omega, bb, ?_⟩
      exact fun r dr nr ndr ner => ⟨r, dr, _, _, rfl, upd_same, fun z => absurd z (pow_ne h1 k.toNat), fun _ H' rr kk => ⟨rfl, q0 hpos H' r rr (Same.made nr ndr kk)⟩⟩
/-! ### sign, floor, whole, is_zero, compare -/
abbrev s_sign : Stmt := inClass (top 10) 11
def sgn (a : Int) : Int := if a < 0 then -1 else if 0 < a then 1 else 0
def sp_sign (C : Addr) : Sp := fun vs H Q _ => ∃ (p : Addr) (a b : Int), vs = [.ref p] ∧ RatAt C H p a b ∧ Q (.int (sgn a)) H
theorem sc_sign : FnScope ["self"] ["self"] (defScope s_sign) := ⟨rfl, rfl, rfl, by decide +kernel, rfl, by decide +kernel, by decide +kernel⟩
theorem ok_sign {f : Addr} {fd : FuncData} (F : Fun K "sign" "Ratio.sign" s_sign f fd) (R : TxR K mg C Z) (gm : mg "min" = none) : FnOk P w K mg base CX0 1 f fd ["self"] (sp_sign C) := by
  refine F.ok sc_sign (fun vs H Q E h => ?_) (fun cdv A outer s H vs Q E hr h => ?_)
  · obtain ⟨p, a, b, rfl, _⟩ := h
    rfl
  · obtain ⟨p, a, b, rfl, ⟨dx, hp⟩, k⟩ := h
    refine ⟨_, pss_cons (ps_if (pt_cmpR op_lt (pe_fld (pv 0) rfl) pe_int (nomark _)) (pss_one (ps_ret (pe_un un_neg pe_int))) pss_nil)
      (pss_one (ps_ret (pe_callB (call_min2 rfl) (by rfl) gm (by decide +kernel) (pa_cons (pe_fld (pv 0) rfl) (pa_cons pe_int pa_nil))))), ?_⟩
    refine ⟨_, rfl, p, C, dx, _, _, rfl, hp, R.cl, R.nN, rf_n _ _, _, _, rfl, rfl, _, rfl, ite2 (fun c => ?_) (fun c => ?_)⟩
    · have hn : a < 0 := of_decide_eq_true c
      refine ⟨_, rfl, ?_⟩
      have e : sgn a = -1 := if_pos hn
      rw [e] at k
      exact k
    · have hn : ¬ a < 0 := fun z => c (decide_eq_true z)
      refine ⟨_, rfl, p, C, dx, _, _, rfl, hp, R.cl, R.nN, rf_n _ _, _, _, rfl, ?_⟩
      have e : sgn a = if (1 : Int) < a then 1 else a := by
        unfold sgn
        rw [if_neg hn]
        split <;> split <;> omega
      rw [e] at k
      exact k
abbrev s_floor : Stmt := inClass (top 10) 12
def sp_floor (C : Addr) : Sp := fun vs H Q _ => ∃ (p : Addr) (a b : Int), vs = [.ref p] ∧ RatAt C H p a b ∧ b ≠ 0 ∧ Q (.int (a.fdiv b)) H
theorem sc_floor : FnScope ["self"] ["self"] (defScope s_floor) := ⟨rfl, rfl, rfl, by decide +kernel, rfl, by decide +kernel, by decide +kernel⟩
theorem ok_floor {f : Addr} {fd : FuncData} (hN : base.NoSeer) (hT : P.given.tree = none) (F : Fun K "floor" "Ratio.floor" s_floor f fd) (R : TxR K mg C Z) : FnOk P w K mg base CX0 41 f fd ["self"] (sp_floor C) := by
  refine F.ok (k := 40) sc_floor (fun vs H Q E h => ?_) (fun cdv A outer s H vs Q E hr h => ?_)
  · obtain ⟨p, a, b, rfl, _⟩ := h
    rfl
  · obtain ⟨p, a, b, rfl, ⟨dx, hp⟩, h1, k⟩ := h
    have far : Far (cxOf CX0 P w K mg base ["self"] "Ratio.floor" (defScope s_floor) f cdv A outer s H E).nox := ⟨hN, hT, rfl, rfl, rfl, hr⟩
    refine ⟨_, pss_one (ps_ret (pe_op (op_fdivB far) (pe_fld (pv 0) rfl) (pe_fld (pv 0) rfl))), ?_⟩
    exact ⟨_, rfl, p, C, dx, _, _, rfl, hp, R.cl, R.nN, rf_n _ _, _, rfl, p, C, dx, _, _, rfl, hp, R.cl, R.nD, rf_d _ _, _, _, rfl, rfl, h1, k⟩
abbrev s_whole : Stmt := inClass (top 10) 13
def sp_whole (C : Addr) : Sp := fun vs H Q _ => ∃ (p : Addr) (a b : Int), vs = [.ref p] ∧ RatAt C H p a b ∧ Q (.bl (decide (b = 1))) H
theorem sc_whole : FnScope ["self"] ["self"] (defScope s_whole) := ⟨rfl, rfl, rfl, by decide +kernel, rfl, by decide +kernel, by decide +kernel⟩
theorem dec_int (a b : Int) : decide (V.int a = V.int b) = decide (a = b) := by
  by_cases e : a = b
  · simp [e]
  · simp [e]
theorem ok_whole {f : Addr} {fd : FuncData} (F : Fun K "whole" "Ratio.whole" s_whole f fd) (R : TxR K mg C Z) : FnOk P w K mg base CX0 1 f fd ["self"] (sp_whole C) := by
  refine F.ok sc_whole (fun vs H Q E h => ?_) (fun cdv A outer s H vs Q E hr h => ?_)
  · obtain ⟨p, a, b, rfl, _⟩ := h
    rfl
  · obtain ⟨p, a, b, rfl, ⟨dx, hp⟩, k⟩ := h
    refine ⟨_, pss_one (ps_ret (pe_cmpR op_eq (pe_fld (pv 0) rfl) pe_int (nomark _))), ?_⟩
    rw [← dec_int] at k
    exact ⟨_, rfl, p, C, dx, _, _, rfl, hp, R.cl, R.nD, rf_d _ _, rfl, k⟩
abbrev s_isz : Stmt := inClass (top 10) 14
def sp_isz (C : Addr) : Sp := fun vs H Q _ => ∃ (p : Addr) (a b : Int), vs = [.ref p] ∧ RatAt C H p a b ∧ Q (.bl (decide (a = 0))) H
theorem sc_isz : FnScope ["self"] ["self"] (defScope s_isz) := ⟨rfl, rfl, rfl, by decide +kernel, rfl, by decide +kernel, by decide +kernel⟩
theorem ok_isz {f : Addr} {fd : FuncData} (F : Fun K "is_zero" "Ratio.is_zero" s_isz f fd) (R : TxR K mg C Z) : FnOk P w K mg base CX0 1 f fd ["self"] (sp_isz C) := by
  refine F.ok sc_isz (fun vs H Q E h => ?_) (fun cdv A outer s H vs Q E hr h => ?_)
  · obtain ⟨p, a, b, rfl, _⟩ := h
    rfl
  · obtain ⟨p, a, b, rfl, ⟨dx, hp⟩, k⟩ := h
    refine ⟨_, pss_one (ps_ret (pe_cmpR op_eq (pe_fld (pv 0) rfl) pe_int (nomark _))), ?_⟩
    rw [← dec_int] at k
    exact ⟨_, rfl, p, C, dx, _, _, rfl, hp, R.cl, R.nN, rf_n _ _, rfl, k⟩
abbrev s_cmp : Stmt := inClass (top 10) 10
def sp_cmp (C : Addr) : Sp := fun vs H Q _ => ∃ (p q : Addr) (a b c d : Int), vs = [.ref p, .ref q] ∧ RatAt C H p a b ∧ RatAt C H q c d ∧ 0 < b ∧ 0 < d ∧ Bd a ∧ Bd b ∧ Bd c ∧ Bd d ∧ ∀ H' : Hp, Same H H' → Q (.int (sgn (a * d - c * b))) H'
theorem sc_cmp : FnScope ["self", "other"] ["self", "other"] (defScope s_cmp) := ⟨rfl, rfl, rfl, by decide +kernel, rfl, by decide +kernel, by decide +kernel⟩
theorem sgn_nN {n d : Int} (h : 0 < d) : sgn (nN n d) = sgn n := by
  have hc : 0 < cg n d := by
    unfold cg
    rw [if_neg (by omega)]
    have : 0 < Nat.gcd n.natAbs d.natAbs := Nat.gcd_pos_of_pos_right _ (by omega)
    omega
  have e := nN_mul (n := n) (d := d) (by omega)
  have s1 : nN n d < 0 ↔ n < 0 := by
    constructor
    · intro z
      rw [e]
      exact Int.mul_neg_of_neg_of_pos z hc
    · intro z
      by_cases w : nN n d < 0
      · exact w
      · have := Int.mul_nonneg (show 0 ≤ nN n d by omega) (Int.le_of_lt hc)
        omega
  have s2 : 0 < nN n d ↔ 0 < n := by
    constructor
    · intro z
      rw [e]
      exact Int.mul_pos z hc
    · intro z
      by_cases w : 0 < nN n d
      · exact w
      · have := Int.mul_nonpos_of_nonpos_of_nonneg (show nN n d ≤ 0 by omega) (Int.le_of_lt hc)
        omega
  unfold sgn
  simp only [s1, s2]
theorem ok_cmp {f fS fN fI : Addr} {fd fdS fdN fdI : FuncData} {ds : List Value} (F : Fun K "compare" "Ratio.compare" s_cmp f fd) (R : TxR K mg C Z) (M : MkR P w K mg base C Z fI fdI ds) (gm : mg "min" = none) (sf : PySem.W.selfFirst K C = true)
    (FS : Fun K "__sub__" "Ratio.__sub__" s_sub fS fdS) (bS : Binds K fdS ["self", "other"] []) (aS : PySem.W.findIn K (.ref C) "__sub__" = some (some (.ref fS))) (iS : PySem.W.isFn K (.ref fS) = true)
    (FN : Fun K "sign" "Ratio.sign" s_sign fN fdN) (bN : Binds K fdN ["self"] []) (mN : Meth K C "sign" fN) : FnOk P w K mg base CX0 44 f fd ["self", "other"] (sp_cmp C) := by
  have GS : FnOk P w K mg base CX0 43 fS fdS ["self", "other"] (sp_sub C) := ok_sub FS R M
  have GN : FnOk P w K mg base CX0 1 fN fdN ["self"] (sp_sign C) := ok_sign FN R gm
  refine F.ok sc_cmp (fun vs H Q E h => ?_) (fun cdv A outer s H vs Q E hr h => ?_)
  · obtain ⟨p, q, a, b, c, d, rfl, _⟩ := h
    rfl
  · obtain ⟨p, q, a, b, c, d, rfl, ⟨dx, hp⟩, ⟨dy, hq⟩, h1, h2, ba, bb, bc, bd, k⟩ := h
    have G : OwnOp (cxOf CX0 P w K mg base ["self", "other"] "Ratio.compare" (defScope s_cmp) f cdv A outer s H E).nox CX0 43 C fS "__sub__" fdS ["self", "other"] (sp_sub C) E0 := ⟨GS, aS, iS, bS, pass0, sf⟩
    refine ⟨_, pss_one (ps_ret (pe_meth0 (pe_op (op_binO (op := .Sub) (by decide +kernel) G hr) (pv 0) (pv 1)) R.cl mN GN (hr.mono (by decide)) bN .nil pass0)), ?_⟩
    refine ⟨_, rfl, _, rfl, p, dx, _, q, dy, _, rfl, rfl, hp, hq, p, q, a, b, c, d, rfl, ⟨dx, hp⟩, ⟨dy, hq⟩, by omega, by omega, ba, bb, bc, bd, fun H' r hrr s' => ?_⟩
    obtain ⟨dr, er⟩ := id hrr
    refine ⟨r, dr, _, rfl, er, rf_no _ _ (by decide +kernel) (by decide +kernel), r, _, _, rfl, hrr, ?_⟩
    rw [sgn_nN (Int.mul_pos h1 h2)]
    exact k H' s'
end
end Ind

set_option Elab.async false
set_option linter.all false
set_option maxRecDepth 100000
set_option maxHeartbeats 4000000
namespace Ind
open PySem PySem.Spec PyProof.Rows L2
open Builtin.Int (intBits)
abbrev sTot : Stmt := top 11
abbrev sCF : Stmt := top 12
/-- a number as it stands: its address, its fields -/
abbrev Rr := Addr × Int × Int
def RatsAt (C : Addr) (H : Hp) (rs : List Rr) : Prop := ∀ x ∈ rs, RatAt C H x.1 x.2.1 x.2.2
theorem RatsAt.same {C : Addr} {H H' : Hp} {rs : List Rr} (r : RatsAt C H rs) (s : Same H H') : RatsAt C H' rs := fun x hx => (r x hx).same s
def partsOf (B : Int) (rs : List Rr) : List Int := rs.map fun x => x.2.1 * B.fdiv x.2.2
/-- denominators small, numerators of some size -/
def Few (rs : List Rr) : Prop := rs.length ≤ 4 ∧ ∀ x ∈ rs, 0 < x.2.2 ∧ x.2.2 < 2 ^ 14 ∧ intBits x.2.1 ≤ 3000000
def Over (B : Int) (rs : List Rr) : Prop := 0 < B ∧ B < 2 ^ 60 ∧ ∀ x ∈ rs, x.2.2 ∣ B
def spCFL (K : PySem.W.Frag) (C : Addr) : Sp := fun vs H Q _ => ∃ (l : Addr) (rs : List Rr), vs = [.ref l] ∧ SqL K H l (rs.map fun x => V.ref x.1) ∧ RatsAt C H rs ∧ Few rs ∧
  ∀ (H' : Hp) (t p : Addr) (B : Int), Same H H' → H' t = some (.tup [.ref p, .int B]) → H' p = some (.lst ((partsOf B rs).map V.int)) → Over B rs → Q (.ref t) H'
def spCFT (K : PySem.W.Frag) : Sp := fun vs H Q _ => ∃ l : Addr, vs = [.ref l] ∧ SqT K H l [] ∧
  ∀ (H' : Hp) (t p : Addr), Same H H' → H' t = some (.tup [.ref p, .int 1]) → H' p = some (.lst []) → Q (.ref t) H'
section
variable {P : Program} {w : World} {K : PySem.W.Frag} {mg : Str → Option Value} {base : Heap} {C Z : Addr}
theorem scCF : FnScope ["numbers", "below", "number"] ["numbers"] (defScope sCF) := ⟨rfl, rfl, rfl, by decide +kernel, rfl, by decide +kernel, by decide +kernel⟩
theorem over_nil : Over 1 [] := ⟨by decide, by decide, fun _ h => nomatch h⟩
theorem pow14 : ∀ i : Nat, i ≤ 4 → (2 : Int) ^ (14 * i) ≤ 2 ^ 56 := fun i h => by
  match i, h with
  | 0, _ => decide
  | 1, _ => decide
  | 2, _ => decide
  | 3, _ => decide
  | 4, _ => decide
theorem ok_cfL {f : Addr} {fd : FuncData} (F : Fun K "common_form" "common_form" sCF f fd) (R : TxR K mg C Z) (gl : mg "lcm" = some (.builtin "math.lcm")) : FnOk P w K mg base CX0 1 f fd ["numbers"] (spCFL K C) := by
  refine F.ok scCF (fun vs H Q E h => ?_) (fun cdv A outer s H vs Q E hr h => ?_)
  · obtain ⟨l, rs, rfl, _⟩ := h
    rfl
  · obtain ⟨l, rs, rfl, hS, hR, hF, k⟩ := h
    refine ⟨_, pss_cons (ps_set (i := 1) scCF.nd rfl (Or.inr rfl) pe_int)
      (pss_cons (ps_for PassesOwn.never rfl (pi_list (pv 0)) (pg_name (i := 2) scCF.nd rfl (Or.inl rfl))
        (pss_one (ps_if (pt_cmpR op_ne (pe_fld (pv 2) rfl) pe_int (nomark _)) (pss_one (ps_set (i := 1) scCF.nd rfl (Or.inr rfl) (pe_callBfun cr_lcm (by rfl) gl (pa_cons (pv 1) (pa_cons (pe_fld (pv 2) rfl) pa_nil))))) pss_nil)))
      (pss_one (ps_ret (pe_tup (pa_cons (pe_lc (own := [("number", 2)]) (g := gName 2) (tt := tYes) (te := tOp (rI (fun i j => intBits i + intBits j ≤ 134217728) fun i j => .int (i * j)) (tFld K (tVar 2) "n") (tOp (rI CDivN fun i j => .int (i.fdiv j)) (tVar 1) (tFld K (tVar 2) "d"))) rfl scCF.nd (pi_list (pv 0)) (blkOk_by (N := ["numbers", "below", "number"]) (sc := defScope sCF) (by decide +kernel))
          (fun _ _ _ _ _ => pg_name (i := 2) scCF.nd rfl (Or.inl rfl)) (fun _ _ _ _ _ => pts_nil) (fun _ _ _ _ _ => pe_op op_mulB (pe_fld (pv 2) rfl) (pe_op op_fdivN (pv 1) (pe_fld (pv 2) rfl)))) (pa_cons (pv 1) pa_nil)))))), ?_⟩
    have item : ∀ {i : Nat} {x : V}, (rs.map fun x => V.ref x.1)[i]? = some x → ∃ y, rs[i]? = some y ∧ x = V.ref y.1 := fun {i x} hx => by
      rw [List.getElem?_map] at hx
      cases e : rs[i]? with
      | none => rw [e] at hx; cases hx
      | some y => rw [e] at hx; exact ⟨y, rfl, (Option.some.inj hx).symm⟩
    refine ⟨_, rfl, l, rfl, ⟨_, hS⟩, for_list (K := K) (a := l) (xs := rs.map fun x => V.ref x.1) (fun i σ H' => H' = H ∧ ∃ (B : Int) (v : Option V), σ = [some (.ref l), some (.int B), v] ∧ (0 < B ∧ B ≤ 2 ^ (14 * i)) ∧ ∀ x ∈ rs.take i, x.2.2 ∣ B)
      ⟨rfl, 1, none, rfl, ⟨by decide, by decide⟩, by simp⟩ (fun i σ H' _ ⟨e, _⟩ => e ▸ hS) ?_ ?_⟩
    · rintro i x σ H' hx ⟨rfl, B, v, rfl, ⟨hB0, hB1⟩, hd⟩
      obtain ⟨⟨p, a, b⟩, hy, rfl⟩ := item hx
      have hmem : (p, a, b) ∈ rs := List.mem_of_getElem? hy
      obtain ⟨dx, hp⟩ := hR _ hmem
      obtain ⟨b0, b1, _⟩ := hF.2 _ hmem
      have hi : i < 4 := by
        have := (List.getElem?_eq_some_iff.mp hy).1
        have := hF.1
        omega
      have hB2 : B ≤ 2 ^ 56 := Int.le_trans hB1 (pow14 i (by omega))
      have tk : rs.take (i + 1) = rs.take i ++ [(p, a, b)] := by
        rw [List.take_add_one, hy]
        rfl
      refine ⟨_, rfl, p, C, dx, _, _, rfl, hp, R.cl, R.nD, rf_d _ _, rfl, _, rfl, ite2 (fun c => ?_) (fun c => ?_)⟩
      · refine ⟨_, rfl, _, rfl, p, C, dx, _, _, rfl, hp, R.cl, R.nD, rf_d _ _, B, b, rfl, ⟨hB0, by omega⟩, ⟨b0, by have : b < 2 ^ 14 := b1; omega⟩, rfl, _, _, rfl, ⟨?_, ?_⟩, ?_⟩
        · have : 0 < Nat.lcm B.natAbs b.natAbs := Nat.lcm_pos (by omega) (by have : 0 < b := b0; omega)
          omega
        · have h1 : Nat.lcm B.natAbs b.natAbs ≤ B.natAbs * b.natAbs := Nat.lcm_le_mul (by omega) (by have : 0 < b := b0; omega)
          have e : (2 : Int) ^ (14 * (i + 1)) = 2 ^ (14 * i) * 2 ^ 14 := by rw [Nat.mul_succ, Int.pow_add]
          have h2 : B * b ≤ 2 ^ (14 * i) * 2 ^ 14 := Int.mul_le_mul hB1 (Int.le_of_lt b1) (Int.le_of_lt b0) (Int.le_trans (Int.le_of_lt hB0) hB1)
          have h3 : ((B.natAbs * b.natAbs : Nat) : Int) = B * b := by
            rw [Int.natCast_mul, Int.natAbs_of_nonneg (Int.le_of_lt hB0), Int.natAbs_of_nonneg (Int.le_of_lt b0)]
          rw [e]
          have h4 : ((Nat.lcm B.natAbs b.natAbs : Nat) : Int) ≤ ((B.natAbs * b.natAbs : Nat) : Int) := Int.ofNat_le.mpr h1
          rw [h3] at h4
          exact Int.le_trans h4 h2
        · intro x hx2
          rw [tk] at hx2
          rcases List.mem_append.mp hx2 with z | z
          · have h1 := hd x z
            have h2 : (x.2.2).natAbs ∣ B.natAbs := Int.natAbs_dvd_natAbs.mpr h1
            have h3 : (x.2.2).natAbs ∣ Nat.lcm B.natAbs b.natAbs := Nat.dvd_trans h2 (Nat.dvd_lcm_left _ _)
            exact Int.natAbs_dvd_natAbs.mp h3
          · have e : x = (p, a, b) := by simpa using z
            subst e
            have h3 : b.natAbs ∣ Nat.lcm B.natAbs b.natAbs := Nat.dvd_lcm_right _ _
            exact Int.natAbs_dvd_natAbs.mp h3
      · have hb1 : b = 1 := by
          have z : ¬ ¬ (V.int b = V.int 1) := by simpa using c
          exact V.int.inj (Classical.not_not.mp z)
        refine ⟨rfl, B, _, rfl, ⟨hB0, ?_⟩, fun x hx2 => ?_⟩
        · refine Int.le_trans hB1 ?_
          have e : (2 : Int) ^ (14 * (i + 1)) = 2 ^ (14 * i) * 2 ^ 14 := by rw [Nat.mul_succ, Int.pow_add]
          rw [e]
          have : (0 : Int) < 2 ^ (14 * i) := Int.lt_of_lt_of_le hB0 hB1
          have h1 : (2 : Int) ^ (14 * i) * 1 ≤ 2 ^ (14 * i) * 2 ^ 14 := Int.mul_le_mul_of_nonneg_left (by decide) (Int.le_of_lt this)
          omega
        · rw [tk] at hx2
          rcases List.mem_append.mp hx2 with z | z
          · exact hd x z
          · have e : x = (p, a, b) := by simpa using z
            subst e
            subst hb1
            exact Int.one_dvd B
    · rintro σ H' ⟨rfl, B, v, rfl, ⟨hB0, hB1⟩, hd⟩
      have hB2 : B ≤ 2 ^ 56 := by
        rw [List.length_map] at hB1
        exact Int.le_trans hB1 (pow14 _ hF.1)
      have hO : Over B rs := ⟨hB0, by omega, fun x hx => hd x (by rw [List.length_map, List.take_length]; exact hx)⟩
      refine ⟨_, rfl, l, rfl, ⟨_, hS⟩, fun D hD => lc_list (K := K) (a := l) (xs := rs.map fun x => V.ref x.1) (fun i H2 => Same H' H2 ∧ H2 D = some (.lst ((partsOf B (rs.take i)).map V.int))) ⟨same_upd hD, upd_same⟩ (fun i H2 _ z => z.1.seq hS) ?_ ?_⟩
      · rintro i x H2 hx ⟨s2, hL⟩
        obtain ⟨⟨p, a, b⟩, hy, rfl⟩ := item hx
        have hmem : (p, a, b) ∈ rs := List.mem_of_getElem? hy
        obtain ⟨dx, hp⟩ := hR.same s2 _ hmem
        obtain ⟨b0, b1, ba⟩ := hF.2 _ hmem
        have tk : rs.take (i + 1) = rs.take i ++ [(p, a, b)] := by
          rw [List.take_add_one, hy]
          rfl
        have bq : intBits (B.fdiv b) ≤ 64 := PySem.intBits_fdiv_le (PySem.intBits_le_iff.mpr (by omega))
        refine ⟨rfl, _, rfl, p, C, dx, _, _, rfl, hp, R.cl, R.nN, rf_n _ _, _, rfl, _, rfl, p, C, dx, _, _, rfl, hp, R.cl, R.nD, rf_d _ _, _, _, rfl, rfl, ⟨Int.ne_of_gt b0, by have h1 : 0 < b := b0; have h2 : b < 2 ^ 14 := b1; omega⟩, _, _, rfl, rfl, (by show intBits a + intBits (B.fdiv b) ≤ 134217728; have : intBits a ≤ 3000000 := ba; omega), _, hL, ?_, ?_, ?_⟩
        · rw [List.length_map]
          unfold partsOf
          rw [List.length_map, List.length_take]
          have h3 : min i rs.length ≤ 4 := Nat.le_trans (Nat.min_le_right _ _) hF.1
          exact Nat.lt_of_le_of_lt h3 (by decide)
        · intro c o e
          have hc : c ≠ D := ne_of_none e hD
          rw [upd_ne hc]
          exact s2 c o e
        · rw [upd_same, tk]
          unfold partsOf
          rw [List.map_append, List.map_append]
          rfl
      · rintro H2 ⟨s2, hL⟩
        rw [List.length_map, List.take_length] at hL
        refine ⟨_, rfl, (by show 2 ≤ sizeLine; decide), fun t ht => ?_⟩
        exact k _ t D B (s2.trans (same_upd ht)) upd_same (same_upd ht _ _ hL) hO
theorem ok_cfT {f : Addr} {fd : FuncData} (F : Fun K "common_form" "common_form" sCF f fd) (R : TxR K mg C Z) (gl : mg "lcm" = some (.builtin "math.lcm")) : FnOk P w K mg base CX0 1 f fd ["numbers"] (spCFT K) := by
  refine F.ok scCF (fun vs H Q E h => ?_) (fun cdv A outer s H vs Q E hr h => ?_)
  · obtain ⟨l, rfl, _⟩ := h
    rfl
  · obtain ⟨l, rfl, hS, k⟩ := h
    refine ⟨_, pss_cons (ps_set (i := 1) scCF.nd rfl (Or.inr rfl) pe_int)
      (pss_cons (ps_for PassesOwn.never rfl (pi_tup (pv 0)) (pg_name (i := 2) scCF.nd rfl (Or.inl rfl))
        (pss_one (ps_if (pt_cmpR op_ne (pe_fld (pv 2) rfl) pe_int (nomark _)) (pss_one (ps_set (i := 1) scCF.nd rfl (Or.inr rfl) (pe_callBfun cr_lcm (by rfl) gl (pa_cons (pv 1) (pa_cons (pe_fld (pv 2) rfl) pa_nil))))) pss_nil)))
      (pss_one (ps_ret (pe_tup (pa_cons (pe_lc (own := [("number", 2)]) (g := gName 2) (tt := tYes) (te := tOp (rI (fun i j => intBits i + intBits j ≤ 134217728) fun i j => .int (i * j)) (tFld K (tVar 2) "n") (tOp (rI CDivN fun i j => .int (i.fdiv j)) (tVar 1) (tFld K (tVar 2) "d"))) rfl scCF.nd (pi_tup (pv 0)) (blkOk_by (N := ["numbers", "below", "number"]) (sc := defScope sCF) (by decide +kernel))
          (fun _ _ _ _ _ => pg_name (i := 2) scCF.nd rfl (Or.inl rfl)) (fun _ _ _ _ _ => pts_nil) (fun _ _ _ _ _ => pe_op op_mulB (pe_fld (pv 2) rfl) (pe_op op_fdivN (pv 1) (pe_fld (pv 2) rfl)))) (pa_cons (pv 1) pa_nil)))))), ?_⟩
    refine ⟨_, rfl, l, rfl, ⟨_, hS⟩, for_tup (K := K) (a := l) (xs := []) (fun i σ H' => H' = H ∧ σ = [some (.ref l), some (.int 1), none]) ⟨rfl, rfl⟩ (fun i σ H' _ ⟨e, _⟩ => e ▸ hS) (fun i x σ H' hx => by simp at hx) ?_⟩
    rintro σ H' ⟨rfl, rfl⟩
    refine ⟨_, rfl, l, rfl, ⟨_, hS⟩, fun D hD => lc_tup (K := K) (a := l) (xs := []) (fun i H2 => H2 = upd H' D (.lst [])) rfl (fun i H2 _ z => z ▸ ?_) (fun i x H2 hx => by simp at hx) ?_⟩
    · rcases hS with (h | ⟨o, h⟩) | h
      · exact .inl (.inl (same_upd hD _ _ h))
      · exact .inl (.inr ⟨o, same_upd hD _ _ h⟩)
      · exact .inr h
    · rintro H2 rfl
      refine ⟨_, rfl, (by show 2 ≤ sizeLine; decide), fun t ht => ?_⟩
      exact k _ t D ((same_upd hD).trans (same_upd ht)) upd_same (same_upd ht _ _ upd_same)
/-! ### total -/
def spTotL (K : PySem.W.Frag) (C : Addr) : Sp := fun vs H Q _ => ∃ (l : Addr) (rs : List Rr), vs = [.ref l] ∧ SqL K H l (rs.map fun x => V.ref x.1) ∧ RatsAt C H rs ∧ Few rs ∧
  ∀ (H' : Hp) (r : Addr) (B : Int), Same H H' → Over B rs → RatAt C H' r (nN (partsOf B rs).sum B) (nD (partsOf B rs).sum B) → Q (.ref r) H'
def spTotT (K : PySem.W.Frag) (C : Addr) : Sp := fun vs H Q _ => ∃ l : Addr, vs = [.ref l] ∧ SqT K H l [] ∧ ∀ (H' : Hp) (r : Addr), Same H H' → RatAt C H' r 0 1 → Q (.ref r) H'
theorem scTot : FnScope ["numbers", "parts", "below"] ["numbers"] (defScope sTot) := ⟨rfl, rfl, rfl, by decide +kernel, rfl, by decide +kernel, by decide +kernel⟩
theorem ok_totL {f fC fI : Addr} {fd fdC fdI : FuncData} {ds : List Value} (F : Fun K "total" "total" sTot f fd) (R : TxR K mg C Z) (M : MkR P w K mg base C Z fI fdI ds) (gl : mg "lcm" = some (.builtin "math.lcm")) (gs : mg "sum" = none)
    (FC : Fun K "common_form" "common_form" sCF fC fdC) (bC : Binds K fdC ["numbers"] []) (gC : mg "common_form" = some (.ref fC)) : FnOk P w K mg base CX0 43 f fd ["numbers"] (spTotL K C) := by
  have GC : FnOk P w K mg base CX0 1 fC fdC ["numbers"] (spCFL K C) := ok_cfL FC R gl
  refine F.ok scTot (fun vs H Q E h => ?_) (fun cdv A outer s H vs Q E hr h => ?_)
  · obtain ⟨l, rs, rfl, _⟩ := h
    rfl
  · obtain ⟨l, rs, rfl, hS, hR, hF, k⟩ := h
    refine ⟨_, pss_cons (ps_asg (pe_call GC (hr.mono (by decide)) (by rfl) gC FC.kp bC .nil pass0 (pa_cons (pv 0) pa_nil)) (pg_tup (by rfl) (pgs_cons (pg_name (i := 1) scTot.nd rfl (Or.inl rfl)) (pgs_cons (pg_name (i := 2) scTot.nd rfl (Or.inl rfl)) pgs_nil))))
      (pss_one (ps_ret (pe_make M.cm M.fn hr (by rfl) R.mgC M.b2 .nil passL (pa_cons (pe_callB (cr_sum rfl) (by rfl) gs (by decide +kernel) (pa_cons (pv 1) pa_nil)) (pa_cons (pv 2) pa_nil))))), ?_⟩
    refine ⟨_, rfl, l, rs, rfl, hS, hR, hF, fun H' t p B s1 ht hp hO => ?_⟩
    refine ⟨t, _, rfl, SqT.of ht, rfl, _, _, rfl, _, _, rfl, rfl, ?_⟩
    refine ⟨_, rfl, p, _, rfl, SqL.of hp, _, rfl, ?_⟩
    exact fun r dr nr ndr ner => ⟨r, dr, _, _, rfl, upd_same, fun z => absurd z (Int.ne_of_gt hO.1), fun _ H2 rr kk => ⟨rfl, k H2 r B (s1.trans (Same.made nr ndr kk)) hO rr⟩⟩
theorem ok_totT {f fC fI : Addr} {fd fdC fdI : FuncData} {ds : List Value} (F : Fun K "total" "total" sTot f fd) (R : TxR K mg C Z) (M : MkR P w K mg base C Z fI fdI ds) (gl : mg "lcm" = some (.builtin "math.lcm")) (gs : mg "sum" = none)
    (FC : Fun K "common_form" "common_form" sCF fC fdC) (bC : Binds K fdC ["numbers"] []) (gC : mg "common_form" = some (.ref fC)) : FnOk P w K mg base CX0 43 f fd ["numbers"] (spTotT K C) := by
  have GC : FnOk P w K mg base CX0 1 fC fdC ["numbers"] (spCFT K) := ok_cfT FC R gl
  refine F.ok scTot (fun vs H Q E h => ?_) (fun cdv A outer s H vs Q E hr h => ?_)
  · obtain ⟨l, rfl, _⟩ := h
    rfl
  · obtain ⟨l, rfl, hS, k⟩ := h
    refine ⟨_, pss_cons (ps_asg (pe_call GC (hr.mono (by decide)) (by rfl) gC FC.kp bC .nil pass0 (pa_cons (pv 0) pa_nil)) (pg_tup (by rfl) (pgs_cons (pg_name (i := 1) scTot.nd rfl (Or.inl rfl)) (pgs_cons (pg_name (i := 2) scTot.nd rfl (Or.inl rfl)) pgs_nil))))
      (pss_one (ps_ret (pe_make M.cm M.fn hr (by rfl) R.mgC M.b2 .nil passL (pa_cons (pe_callB (cr_sum rfl) (by rfl) gs (by decide +kernel) (pa_cons (pv 1) pa_nil)) (pa_cons (pv 2) pa_nil))))), ?_⟩
    refine ⟨_, rfl, l, rfl, hS, fun H' t p s1 ht hp => ?_⟩
    refine ⟨t, _, rfl, SqT.of ht, rfl, _, _, rfl, _, _, rfl, rfl, ?_⟩
    refine ⟨_, rfl, p, [], rfl, SqL.of hp, _, rfl, ?_⟩
    refine fun r dr nr ndr ner => ⟨r, dr, _, _, rfl, upd_same, fun z => absurd z (by decide), fun _ H2 rr kk => ⟨rfl, k H2 r (s1.trans (Same.made nr ndr kk)) ?_⟩⟩
    have e := n_one 0
    rw [show ([] : List Int).sum = 0 from rfl, e.1, e.2] at rr
    exact rr
end
end Ind

set_option Elab.async false
set_option linter.all false
set_option maxRecDepth 100000
set_option maxHeartbeats 4000000
namespace Ind
open PySem PySem.Spec PyProof.Rows L2
open Builtin.Int (intBits)
abbrev sRat : Stmt := top 17
abbrev sAdd : Stmt := top 18
abbrev sMul : Stmt := top 19
abbrev sDrawn : Stmt := top 22
abbrev sPower : Stmt := top 23
def PairAt (H : Hp) (p : Addr) (a b : Int) : Prop := H p = some (.tup [.int a, .int b])
theorem PairAt.same {H H' : Hp} {p : Addr} {a b : Int} (x : PairAt H p a b) (s : Same H H') : PairAt H' p a b := s _ _ x
def spRatT : Sp := fun vs H Q _ => ∃ n d : Int, vs = [.int n, .int d] ∧ d ≠ 0 ∧ ∀ (H' : Hp) (t : Addr), Same H H' → PairAt H' t (nN n d) (nD n d) → Q (.ref t) H'
def spAddT : Sp := fun vs H Q _ => ∃ (p q : Addr) (a b c d : Int), vs = [.ref p, .ref q] ∧ PairAt H p a b ∧ PairAt H q c d ∧ b ≠ 0 ∧ d ≠ 0 ∧ Bd a ∧ Bd b ∧ Bd c ∧ Bd d ∧
  ∀ (H' : Hp) (t : Addr), Same H H' → PairAt H' t (nN (a * d + c * b) (b * d)) (nD (a * d + c * b) (b * d)) → Q (.ref t) H'
def spMulT : Sp := fun vs H Q _ => ∃ (p q : Addr) (a b c d : Int), vs = [.ref p, .ref q] ∧ PairAt H p a b ∧ PairAt H q c d ∧ b ≠ 0 ∧ d ≠ 0 ∧ Bd a ∧ Bd b ∧ Bd c ∧ Bd d ∧
  ∀ (H' : Hp) (t : Addr), Same H H' → PairAt H' t (nN (a * c) (b * d)) (nD (a * c) (b * d)) → Q (.ref t) H'
/-- a drawn number in lowest terms -/
structure Drn (a b : Int) : Prop where
  pos : 0 < b
  le : b ≤ 40
  low : Nat.gcd a.natAbs b.natAbs = 1
  bits : intBits a ≤ 1048576
def spDrawn (K : PySem.W.Frag) : Sp := fun vs H Q _ => ∃ (a : Addr) (ns : List Int) (k : Nat), vs = [.ref a, .int k] ∧ SqL K H a (ns.map V.int) ∧ (∀ z ∈ ns, intBits z ≤ 1048576) ∧ k ≤ 1000 ∧
  ∀ (H' : Hp) (t : Addr) (n d : Int), Same H H' → Drn n d → PairAt H' t n d → Q (.ref t) H'
theorem cell_bits {ns : List Int} (h : ∀ z ∈ ns, intBits z ≤ 1048576) (k : Nat) : intBits (cell ns k) ≤ 1048576 := by
  unfold Ind.cell
  rw [List.getD_eq_getElem?_getD]
  cases e : ns[k]? with
  | none => exact Nat.zero_le _
  | some z => exact h z (List.mem_of_getElem? e)
theorem nD_le {n d : Int} (h : 0 < d) : nD n d ≤ d := by
  have e := nD_mul (n := n) (d := d) (by omega)
  have p := nD_pos (n := n) (d := d) (by omega)
  have c : 0 < cg n d := by
    unfold cg
    rw [if_neg (by omega)]
    have : 0 < Nat.gcd n.natAbs d.natAbs := Nat.gcd_pos_of_pos_right _ (by omega)
    omega
  have : nD n d * 1 ≤ nD n d * cg n d := Int.mul_le_mul_of_nonneg_left (by omega) (Int.le_of_lt p)
  omega
/-- a power as the law makes it, turn by turn -/
def pN (a b : Int) (i : Nat) : Int := nN (a ^ i) (b ^ i)
def pD (a b : Int) (i : Nat) : Int := nD (a ^ i) (b ^ i)
theorem p_zero (a b : Int) : pN a b 0 = 1 ∧ pD a b 0 = 1 := by
  unfold pN pD
  rw [Int.pow_zero, Int.pow_zero]
  exact n_one 1
theorem p_succ {a b : Int} (h : b ≠ 0) (i : Nat) : nN (pN a b i * a) (pD a b i * b) = pN a b (i + 1) ∧ nD (pN a b i * a) (pD a b i * b) = pD a b (i + 1) := by
  have hb : b ^ i ≠ 0 := pow_ne h i
  have hb1 : b ^ (i + 1) ≠ 0 := pow_ne h (i + 1)
  have hd : pD a b i ≠ 0 := Int.ne_of_gt (nD_pos hb)
  refine n_uniq (Int.mul_ne_zero hd h) hb1 ?_
  have e : pN a b i * b ^ i = a ^ i * pD a b i := n_cross hb
  rw [Int.pow_succ, Int.pow_succ]
  calc pN a b i * a * (b ^ i * b) = (pN a b i * b ^ i) * (a * b) := by ac_rfl
    _ = (a ^ i * pD a b i) * (a * b) := by rw [e]
    _ = a ^ i * a * (pD a b i * b) := by ac_rfl
theorem p_bits {a b : Int} {i : Nat} (ha : intBits a ≤ 3000000) (hb : intBits b ≤ 3000000) (hi : i ≤ 8) : Bd (pN a b i) ∧ Bd (pD a b i) :=
  ⟨bits_nN (Nat.le_trans (bits_pow ha hi) (by decide)), bits_nD (Nat.le_trans (bits_pow hb hi) (by decide))⟩
def spPower : Sp := fun vs H Q _ => ∃ (p : Addr) (a b k : Int), vs = [.ref p, .int k] ∧ PairAt H p a b ∧ b ≠ 0 ∧ (k < 0 → a ≠ 0) ∧ k.natAbs ≤ 8 ∧ intBits a ≤ 3000000 ∧ intBits b ≤ 3000000 ∧
  ∀ (H' : Hp) (t : Addr) (n d : Int), Same H H' → (0 ≤ k → n = pN a b k.natAbs ∧ d = pD a b k.natAbs) → (k < 0 → n = nN (pD a b k.natAbs) (pN a b k.natAbs) ∧ d = nD (pD a b k.natAbs) (pN a b k.natAbs)) → PairAt H' t n d → Q (.ref t) H'
section
variable {P : Program} {w : World} {K : PySem.W.Frag} {mg : Str → Option Value} {base : Heap} {C Z : Addr}
theorem scRat : FnScope ["n", "d", "common"] ["n", "d"] (defScope sRat) := ⟨rfl, rfl, rfl, by decide +kernel, rfl, by decide +kernel, by decide +kernel⟩
theorem ok_rat {f fG : Addr} {fd fdG : FuncData} (hN : base.NoSeer) (hT : P.given.tree = none) (F : Fun K "_law_rat" "_law_rat" sRat f fd) (T : TxL K mg) (FG : Fun K "_law_gcd" "_law_gcd" sGcd fG fdG) (bG : Binds K fdG ["a", "b"] []) (gG : mg "_law_gcd" = some (.ref fG)) :
    FnOk P w K mg base CX0 41 f fd ["n", "d"] spRatT := by
  have GG : FnOk P w K mg base CX0 1 fG fdG ["a", "b"] spGcdI := ok_gcd FG T
  refine F.ok (k := 40) scRat (fun vs H Q E h => ?_) (fun cdv A outer s H vs Q E hr h => ?_)
  · obtain ⟨n, d, rfl, _⟩ := h
    rfl
  · obtain ⟨n, d, rfl, hd, k⟩ := h
    have far : Far (cxOf CX0 P w K mg base ["n", "d", "common"] "_law_rat" (defScope sRat) f cdv A outer s H E).nox := ⟨hN, hT, rfl, rfl, rfl, hr⟩
    refine ⟨_, pss_cons (ps_set (i := 2) scRat.nd rfl (Or.inl rfl) (pe_call GG (hr.mono (by decide)) (by rfl) gG FG.kp bG .nil pass0 (pa_cons (pv 0) (pa_cons (pv 1) pa_nil))))
      (C8.pss_cut (ps_if (pt_cmpR op_lt (pv 1) pe_int (nomark _)) (pss_one (ps_set (i := 2) scRat.nd rfl (Or.inl rfl) (pe_un un_neg (pv 2)))) pss_nil)
      (pss_one (ps_ret (pe_tup (pa_cons (pe_op (op_fdivB far) (pv 0) (pv 2)) (pa_cons (pe_op (op_fdivB far) (pv 1) (pv 2)) pa_nil)))))), ?_⟩
    refine ⟨_, rfl, _, rfl, n, d, rfl, ?_⟩
    refine ⟨fun σ' H' => H' = H ∧ σ' = [some (.int n), some (.int d), some (.int (cg n d))], ?_, ?_⟩
    · refine ⟨_, rfl, _, _, rfl, rfl, _, rfl, ite2 (fun c => ?_) (fun c => ?_)⟩
      · have hneg : d < 0 := of_decide_eq_true c
        refine ⟨_, rfl, _, rfl, rfl, ?_⟩
        unfold cg
        rw [if_pos hneg]
        rfl
      · have hneg : ¬ d < 0 := fun z => c (decide_eq_true z)
        refine ⟨rfl, ?_⟩
        unfold cg
        rw [if_neg hneg]
        rfl
    · rintro σ' H' ⟨rfl, rfl⟩
      exact ⟨_, rfl, _, rfl, _, _, rfl, rfl, cg_ne hd, _, rfl, _, rfl, _, _, rfl, rfl, cg_ne hd, (by show 2 ≤ sizeLine; decide), fun t ht => k _ t (same_upd ht) upd_same⟩
theorem scAdd : FnScope ["a", "b"] ["a", "b"] (defScope sAdd) := ⟨rfl, rfl, rfl, by decide +kernel, rfl, by decide +kernel, by decide +kernel⟩
theorem scMul : FnScope ["a", "b"] ["a", "b"] (defScope sMul) := ⟨rfl, rfl, rfl, by decide +kernel, rfl, by decide +kernel, by decide +kernel⟩
theorem ok_addT {f fR : Addr} {fd fdR : FuncData} (F : Fun K "_law_add" "_law_add" sAdd f fd) (GR : FnOk P w K mg base CX0 41 fR fdR ["n", "d"] spRatT) (kR : PySem.W.keepIn K (.ref fR) = true) (bR : Binds K fdR ["n", "d"] []) (gR : mg "_law_rat" = some (.ref fR)) :
    FnOk P w K mg base CX0 42 f fd ["a", "b"] spAddT := by
  refine F.ok scAdd (fun vs H Q E h => ?_) (fun cdv A outer s H vs Q E hr h => ?_)
  · obtain ⟨p, q, a, b, c, d, rfl, _⟩ := h
    rfl
  · obtain ⟨p, q, a, b, c, d, rfl, hp, hq, h1, h2, ba, bb, bc, bd, k⟩ := h
    refine ⟨_, pss_one (ps_ret (pe_call GR hr (by rfl) gR kR bR .nil pass0 (pa_cons (pe_op op_add (pe_op op_mulB (pe_ix ix_tup (pv 0) pe_int fun _ _ => rfl) (pe_ix ix_tup (pv 1) pe_int fun _ _ => rfl)) (pe_op op_mulB (pe_ix ix_tup (pv 1) pe_int fun _ _ => rfl) (pe_ix ix_tup (pv 0) pe_int fun _ _ => rfl)))
      (pa_cons (pe_op op_mulB (pe_ix ix_tup (pv 0) pe_int fun _ _ => rfl) (pe_ix ix_tup (pv 1) pe_int fun _ _ => rfl)) pa_nil)))), ?_⟩
    refine ⟨_, rfl, p, _, _, _, rfl, rfl, SqT.of hp, atI_of (k := 0) rfl, _, rfl, q, _, _, _, rfl, rfl, SqT.of hq, atI_of (k := 1) rfl, _, _, rfl, rfl, bd2 ba bd, _, rfl, q, _, _, _, rfl, rfl, SqT.of hq, atI_of (k := 0) rfl, _, rfl, p, _, _, _, rfl, rfl, SqT.of hp, atI_of (k := 1) rfl, _, _, rfl, rfl, bd2 bc bb, _, _, rfl, rfl, ?_⟩
    refine ⟨_, rfl, p, _, _, _, rfl, rfl, SqT.of hp, atI_of (k := 1) rfl, _, rfl, q, _, _, _, rfl, rfl, SqT.of hq, atI_of (k := 1) rfl, _, _, rfl, rfl, bd2 bb bd, ?_⟩
    exact ⟨_, _, rfl, Int.mul_ne_zero h1 h2, k⟩
theorem ok_mulT {f fR : Addr} {fd fdR : FuncData} (F : Fun K "_law_mul" "_law_mul" sMul f fd) (GR : FnOk P w K mg base CX0 41 fR fdR ["n", "d"] spRatT) (kR : PySem.W.keepIn K (.ref fR) = true) (bR : Binds K fdR ["n", "d"] []) (gR : mg "_law_rat" = some (.ref fR)) :
    FnOk P w K mg base CX0 42 f fd ["a", "b"] spMulT := by
  refine F.ok scMul (fun vs H Q E h => ?_) (fun cdv A outer s H vs Q E hr h => ?_)
  · obtain ⟨p, q, a, b, c, d, rfl, _⟩ := h
    rfl
  · obtain ⟨p, q, a, b, c, d, rfl, hp, hq, h1, h2, ba, bb, bc, bd, k⟩ := h
    refine ⟨_, pss_one (ps_ret (pe_call GR hr (by rfl) gR kR bR .nil pass0 (pa_cons (pe_op op_mulB (pe_ix ix_tup (pv 0) pe_int fun _ _ => rfl) (pe_ix ix_tup (pv 1) pe_int fun _ _ => rfl))
      (pa_cons (pe_op op_mulB (pe_ix ix_tup (pv 0) pe_int fun _ _ => rfl) (pe_ix ix_tup (pv 1) pe_int fun _ _ => rfl)) pa_nil)))), ?_⟩
    refine ⟨_, rfl, p, _, _, _, rfl, rfl, SqT.of hp, atI_of (k := 0) rfl, _, rfl, q, _, _, _, rfl, rfl, SqT.of hq, atI_of (k := 0) rfl, _, _, rfl, rfl, bd2 ba bc, ?_⟩
    refine ⟨_, rfl, p, _, _, _, rfl, rfl, SqT.of hp, atI_of (k := 1) rfl, _, rfl, q, _, _, _, rfl, rfl, SqT.of hq, atI_of (k := 1) rfl, _, _, rfl, rfl, bd2 bb bd, ?_⟩
    exact ⟨_, _, rfl, Int.mul_ne_zero h1 h2, k⟩
theorem scDrawn : FnScope ["script", "at", "row", "n"] ["script", "at"] (defScope sDrawn) := ⟨rfl, rfl, rfl, by decide +kernel, rfl, by decide +kernel, by decide +kernel⟩
theorem ok_drawn {f fC fD fR : Addr} {fd fdC fdD fdR : FuncData} (F : Fun K "_law_drawn" "_law_drawn" sDrawn f fd) (T : TxL K mg) (FC : Fun K "_law_cell" "_law_cell" sCell fC fdC) (bC : Binds K fdC ["script", "k"] []) (gC : mg "_law_cell" = some (.ref fC))
    (FD : Fun K "_law_draws" "_law_draws" sDraws fD fdD) (bD : Binds K fdD ["script", "at", "count", "bound"] []) (gD : mg "_law_draws" = some (.ref fD)) (GR : FnOk P w K mg base CX0 41 fR fdR ["n", "d"] spRatT) (kR : PySem.W.keepIn K (.ref fR) = true) (bR : Binds K fdR ["n", "d"] []) (gR : mg "_law_rat" = some (.ref fR)) :
    FnOk P w K mg base CX0 42 f fd ["script", "at"] (spDrawn K) := by
  have GC : FnOk P w K mg base CX0 1 fC fdC ["script", "k"] (spCellI K) := ok_cell FC T
  have GD : FnOk P w K mg base CX0 2 fD fdD ["script", "at", "count", "bound"] (spDraws K) := ok_draws FD T FC bC gC
  refine F.ok scDrawn (fun vs H Q E h => ?_) (fun cdv A outer s H vs Q E hr h => ?_)
  · obtain ⟨a, ns, k, rfl, _⟩ := h
    rfl
  · obtain ⟨a, ns, k, rfl, hS, hb, hk, q⟩ := h
    refine ⟨_, pss_cons (ps_set (i := 2) scDrawn.nd rfl (Or.inl rfl) (pe_call GD (hr.mono (by decide)) (by rfl) gD FD.kp bD .nil pass0 (pa_cons (pv 0) (pa_cons (pv 1) (pa_cons pe_int (pa_cons pe_int pa_nil))))))
      (pss_cons (ps_set (i := 3) scDrawn.nd rfl (Or.inl rfl) (pe_op op_sub (pe_ix ix_list (pv 2) pe_int fun _ _ => rfl) pe_int))
      (C8.pss_cut (ps_if (pt_cmpR op_eq (pe_op op_modN (pe_ix ix_list (pv 2) pe_int fun _ _ => rfl) pe_int) pe_int (nomark _)) (pss_one (ps_set (i := 3) scDrawn.nd rfl (Or.inl rfl) (pe_call GC (hr.mono (by decide)) (by rfl) gC FC.kp bC .nil pass0 (pa_cons (pv 0) (pa_cons (pv 1) pa_nil))))) pss_nil)
      (pss_one (ps_ret (pe_call GR hr (by rfl) gR kR bR .nil pass0 (pa_cons (pv 3) (pa_cons (pe_op op_add (pe_op op_modN (pe_ix ix_list (pv 2) pe_int fun _ _ => rfl) pe_int) pe_int) pa_nil))))))), ?_⟩
    refine ⟨_, rfl, _, rfl, a, ns, k, 4, 121, rfl, hS, hk, by decide, by decide, by decide, fun ds H1 l hR s1 hl hL => ?_⟩
    obtain ⟨x, y, z, v, rfl⟩ : ∃ x y z v, ds = [x, y, z, v] := by
      have := hR.1
      match ds, this with
      | [x, y, z, v], _ => exact ⟨x, y, z, v, rfl⟩
    have hy := hR.2 y (by simp)
    refine ⟨_, rfl, l, _, _, _, rfl, rfl, SqL.of hL, atI_of (k := 1) rfl, _, _, rfl, rfl, ?_⟩
    refine ⟨fun σ' H' => H' = H1 ∧ ∃ n : Int, σ' = [some (.ref a), some (.int k), some (.ref l), some (.int n)] ∧ intBits n ≤ 1048576, ?_, ?_⟩
    · refine ⟨_, rfl, l, _, _, _, rfl, rfl, SqL.of hL, atI_of (k := 0) rfl, _, _, rfl, rfl, (by show (4 : Int) ≠ 0; decide), rfl, _, rfl, ite2 (fun _ => ?_) (fun _ => ?_)⟩
      · exact ⟨_, rfl, _, rfl, a, ns, k, rfl, s1.seq hS, rfl, _, rfl, cell_bits hb k⟩
      · exact ⟨rfl, _, rfl, Nat.le_trans (show intBits (y - 60) ≤ 64 from PySem.intBits_le_iff.mpr (by omega)) (by decide)⟩
    · rintro σ' H' ⟨rfl, n, rfl, hn⟩
      have hm := fmod_in (x := z) (b := 40) (by decide)
      have hd : 0 < z.fmod 40 + 1 := by omega
      refine ⟨_, rfl, _, rfl, l, _, _, _, rfl, rfl, SqL.of hL, atI_of (k := 2) rfl, _, _, rfl, rfl, (by show (40 : Int) ≠ 0; decide), _, _, rfl, rfl, n, _, rfl, Int.ne_of_gt hd, fun H2 t s2 ht => ?_⟩
      exact q H2 t _ _ (s1.trans s2) ⟨nD_pos (Int.ne_of_gt hd), Int.le_trans (nD_le hd) (by omega), n_gcd (Int.ne_of_gt hd), bits_nN hn⟩ ht
theorem scPower : FnScope ["a", "k", "out", "step"] ["a", "k"] (defScope sPower) := ⟨rfl, rfl, rfl, by decide +kernel, rfl, by decide +kernel, by decide +kernel⟩
theorem ok_power {f fM fR : Addr} {fd fdM fdR : FuncData} (F : Fun K "_law_power" "_law_power" sPower f fd) (T : TxL K mg) (GR : FnOk P w K mg base CX0 41 fR fdR ["n", "d"] spRatT) (kR : PySem.W.keepIn K (.ref fR) = true) (bR : Binds K fdR ["n", "d"] []) (gR : mg "_law_rat" = some (.ref fR))
    (FM : Fun K "_law_mul" "_law_mul" sMul fM fdM) (bM : Binds K fdM ["a", "b"] []) (gM : mg "_law_mul" = some (.ref fM)) : FnOk P w K mg base CX0 43 f fd ["a", "k"] spPower := by
  have GM : FnOk P w K mg base CX0 42 fM fdM ["a", "b"] spMulT := ok_mulT FM GR kR bR gR
  refine F.ok scPower (fun vs H Q E h => ?_) (fun cdv A outer s H vs Q E hr h => ?_)
  · obtain ⟨p, a, b, k, rfl, _⟩ := h
    rfl
  · obtain ⟨p, a, b, k, rfl, hp, hb, ha, hk, ba, bb, q⟩ := h
    refine ⟨_, pss_cons (ps_set (i := 2) scPower.nd rfl (Or.inl rfl) (pe_tup (pa_cons pe_int (pa_cons pe_int pa_nil))))
      (pss_cons (ps_for PassesOwn.never rfl (pi_range1 (by rfl) T.range (pa_cons (pe_callB call_abs (by rfl) T.abs (by decide +kernel) (pa_cons (pv 1) pa_nil)) pa_nil)) (pg_name (i := 3) scPower.nd rfl (Or.inl rfl))
        (pss_one (ps_set (i := 2) scPower.nd rfl (Or.inl rfl) (pe_call GM hr (by rfl) gM FM.kp bM .nil pass0 (pa_cons (pv 2) (pa_cons (pv 0) pa_nil))))))
      (pss_cons (ps_if (pt_cmpR op_lt (pv 1) pe_int (nomark _)) (pss_one (ps_ret (pe_call GR (hr.mono (by decide)) (by rfl) gR kR bR .nil pass0 (pa_cons (pe_ix ix_tup (pv 2) pe_int fun _ _ => rfl) (pa_cons (pe_ix ix_tup (pv 2) pe_int fun _ _ => rfl) pa_nil))))) pss_nil)
      (pss_one (ps_ret (pv 2))))), ?_⟩
    refine ⟨(by show 2 ≤ sizeLine; decide), fun t0 h0 => ?_⟩
    have st0 : PairAt (upd H t0 (.tup [.int 1, .int 1])) t0 (pN a b 0) (pD a b 0) := by
      rw [(p_zero a b).1, (p_zero a b).2]
      exact upd_same
    refine ⟨_, rfl, _, rfl, _, rfl, ?_⟩
    rw [abs_nat]
    refine ⟨by omega, by omega, for_range (lo := 0) (n := k.natAbs) (fun i σ H' => Same H H' ∧ ∃ (t : Addr) (v : Option V), σ = [some (.ref p), some (.int k), some (.ref t), v] ∧ PairAt H' t (pN a b i) (pD a b i))
      ⟨same_upd h0, t0, none, rfl, st0⟩ ?_ ?_⟩
    · rintro i σ H' hi ⟨s1, t, v, rfl, ht⟩
      have w1 := p_bits (i := i) ba bb (by omega)
      refine ⟨_, rfl, _, rfl, t, p, _, _, a, b, rfl, ht, hp.same s1, Int.ne_of_gt (nD_pos (pow_ne hb i)), hb, w1.1, w1.2, Nat.le_trans ba (by decide), Nat.le_trans bb (by decide), fun H2 t2 s2 h2 => ⟨s1.trans s2, t2, _, rfl, ?_⟩⟩
      rw [(p_succ hb i).1, (p_succ hb i).2] at h2
      exact h2
    · rintro σ H' ⟨s1, t, v, rfl, ht⟩
      refine ⟨_, rfl, _, _, rfl, rfl, _, rfl, ite2 (fun c => ?_) (fun c => ?_)⟩
      · have hneg : k < 0 := of_decide_eq_true c
        have hne : pN a b k.natAbs ≠ 0 := by
          intro z
          have e : pN a b k.natAbs * b ^ k.natAbs = a ^ k.natAbs * pD a b k.natAbs := n_cross (pow_ne hb _)
          rw [z, Int.zero_mul] at e
          rcases Int.mul_eq_zero.mp e.symm with y | y
          · exact pow_ne (ha hneg) _ y
          · exact Int.ne_of_gt (nD_pos (pow_ne hb _)) y
        refine ⟨_, rfl, t, _, _, _, rfl, rfl, SqT.of ht, atI_of (k := 1) rfl, _, rfl, t, _, _, _, rfl, rfl, SqT.of ht, atI_of (k := 0) rfl, _, _, rfl, hne, fun H2 t2 s2 h2 => ?_⟩
        exact q H2 t2 _ _ (s1.trans s2) (fun z => by omega) (fun _ => ⟨rfl, rfl⟩) h2
      · have hneg : ¬ k < 0 := fun z => c (decide_eq_true z)
        exact ⟨_, rfl, q H' t _ _ s1 (fun _ => ⟨rfl, rfl⟩) (fun z => absurd z hneg) ht⟩
end
end Ind

set_option Elab.async false
set_option linter.all false
set_option maxRecDepth 100000
set_option maxHeartbeats 4000000
namespace Ind
open PySem PySem.Spec PyProof.Rows L2
open Builtin.Int (intBits)
abbrev sNoI : Stmt := top 24
def spNoI (C : Addr) : Sp := fun vs H Q _ => ∃ (p : Addr) (a b : Int), vs = [.ref p] ∧ RatAt C H p a b ∧ b ≠ 0 ∧ Bd a ∧ Bd b ∧ ∀ H' : Hp, Same H H' → Q (.bl true) H'
/-- a clause that names the class at Z takes Z's errors -/
structure TxZ (K : PySem.W.Frag) (Z : Addr) : Prop where
  ex : PySem.W.exmOne K (.ref Z) (.ref Z) = some true
section
variable {P : Program} {w : World} {K : PySem.W.Frag} {mg : Str → Option Value} {base : Heap} {C Z : Addr}
theorem scNoI : FnScope ["a", "count"] ["a"] (defScope sNoI) := ⟨rfl, rfl, rfl, by decide +kernel, rfl, by decide +kernel, by decide +kernel⟩
theorem ok_noI {f fI fV fO fW : Addr} {fd fdI fdV fdO fdW : FuncData} {ds : List Value} (F : Fun K "_law_no_inverse" "_law_no_inverse" sNoI f fd) (R : TxR K mg C Z) (TZ : TxZ K Z) (M : MkR P w K mg base C Z fI fdI ds)
    (GV : FnOk P w K mg base (L2.CX P w) 43 fV fdV ["self"] (sp_inv C Z)) (bV : Binds K fdV ["self"] []) (mV : Meth K C "inverse" fV)
    (GO : FnOk P w K mg base (L2.CX P w) 43 fO fdO ["self", "other"] (sp_over C Z)) (bO : Binds K fdO ["self", "other"] []) (mO : Meth K C "over" fO)
    (GW : FnOk P w K mg base (L2.CX P w) 44 fW fdW ["self", "k"] (sp_pow C Z)) (bW : Binds K fdW ["self", "k"] []) (mW : Meth K C "power" fW) : FnOk P w K mg base CX0 46 f fd ["a"] (spNoI C) := by
  refine F.ok scNoI (fun vs H Q E h => ?_) (fun cdv A outer s H vs Q E hr h => ?_)
  · obtain ⟨p, a, b, rfl, _⟩ := h
    rfl
  · obtain ⟨p, a, b, rfl, hp, hb, ba, bb, k⟩ := h
    have hr43 : Room 43 _ := hr.mono (by decide)
    have hr42 : Room 42 _ := hr.mono (by decide)
    have hr44 : Room 44 _ := hr.mono (by decide)
    refine ⟨_, pss_cons (ps_set (i := 1) scNoI.nd rfl (Or.inl rfl) pe_int)
      (pss_cons (ps_try_only (c := .ref Z) (Wout := fun _ _ _ _ => False) rfl rfl ⟨rfl, by decide, .inl R.gZ⟩ takes0
        (fun W pn xe tk _ => pss_one (ps_expr (pe_methS0 (E := fun σ => WE W σ) (pe_make M.cm M.fn hr42 (by rfl) R.mgC M.b1 M.v1 passL (pa_cons pe_int pa_nil)) R.cl mV GV hr43 bV (fun σ => passAt tk σ))))
        (fun a oe cls d pn _ _ => pss_one (ps_set (i := 1) scNoI.nd rfl (Or.inl rfl) (pe_op op_add (pv 1) pe_int))))
      (pss_cons (ps_try_only (c := .ref Z) (Wout := fun _ _ _ _ => False) rfl rfl ⟨rfl, by decide, .inl R.gZ⟩ takes0
        (fun W pn xe tk _ => pss_one (ps_expr (pe_methS1 (E := fun σ => WE W σ) (pv 0) R.cl mO GO hr43 bO (fun σ => passAt tk σ) (pa_cons (pe_make M.cm M.fn hr42 (by rfl) R.mgC M.b1 M.v1 passL (pa_cons pe_int pa_nil)) pa_nil))))
        (fun a oe cls d pn _ _ => pss_one (ps_set (i := 1) scNoI.nd rfl (Or.inl rfl) (pe_op op_add (pv 1) pe_int))))
      (pss_cons (ps_try_only (c := .ref Z) (Wout := fun _ _ _ _ => False) rfl rfl ⟨rfl, by decide, .inl R.gZ⟩ takes0
        (fun W pn xe tk _ => pss_one (ps_expr (pe_methS1 (E := fun σ => WE W σ) (pe_make M.cm M.fn hr42 (by rfl) R.mgC M.b1 M.v1 passL (pa_cons pe_int pa_nil)) R.cl mW GW hr44 bW (fun σ => passAt tk σ) (pa_cons (pe_op op_sub (pe_un un_neg pe_int) (pv 1)) pa_nil))))
        (fun a oe cls d pn _ _ => pss_one (ps_set (i := 1) scNoI.nd rfl (Or.inl rfl) (pe_op op_add (pv 1) pe_int))))
      (pss_one (ps_ret (pe_cmpR op_eq (pv 1) pe_int (nomark _))))))), ?_⟩
    have z01 := n_one 0
    have b0 : Bd 0 := Nat.zero_le _
    have b1 : Bd 1 := by show intBits 1 ≤ 30000000; exact Nat.le_trans (show intBits 1 ≤ 64 from PySem.intBits_le_iff.mpr (by decide)) (by decide)
    have s0 : intBits 0 ≤ 3000000 := Nat.zero_le _
    have s1 : intBits 1 ≤ 3000000 := Nat.le_trans (show intBits 1 ≤ 64 from PySem.intBits_le_iff.mpr (by decide)) (by decide)
    -- Ratio(0).inverse()
    refine fun x1 d1 n1 nd1 ne1 => ⟨x1, d1, _, _, rfl, upd_same, fun z => absurd z (by decide), fun _ H1 r1 kk1 => ⟨rfl, ?_⟩⟩
    have t1 := Same.made n1 nd1 kk1
    rw [z01.1, z01.2] at r1
    obtain ⟨e1, q1⟩ := id r1
    refine ⟨x1, e1, _, rfl, q1, rf_no _ _ (by decide +kernel) (by decide +kernel), x1, 0, 1, rfl, r1, fun _ H2 t2 => ?_, fun z => absurd rfl z⟩
    refine ⟨true, TZ.ex, fun _ _ _ => ?_, fun z => Bool.noConfusion z⟩
    refine ⟨_, rfl, _, _, rfl, rfl, ?_⟩
    have T2 := t1.trans t2
    obtain ⟨e2, q2⟩ := id (hp.same T2)
    -- a.over(Ratio(0))
    refine ⟨_, rfl, p, e2, _, rfl, q2, rf_no _ _ (by decide +kernel) (by decide +kernel), ?_⟩
    refine fun x3 d3 n3 nd3 ne3 => ⟨x3, d3, _, _, rfl, upd_same, fun z => absurd z (by decide), fun _ H3 r3 kk3 => ⟨rfl, ?_⟩⟩
    have t3 := Same.made n3 nd3 kk3
    rw [z01.1, z01.2] at r3
    refine ⟨p, x3, a, b, 0, 1, rfl, (hp.same T2).same t3, r3, hb, by decide, ba, bb, b0, b1, fun _ H4 t4 => ?_, fun z => absurd rfl z⟩
    refine ⟨true, TZ.ex, fun _ _ _ => ?_, fun z => Bool.noConfusion z⟩
    refine ⟨_, rfl, _, _, rfl, rfl, ?_⟩
    -- Ratio(0).power(-1 - count)
    refine fun x5 d5 n5 nd5 ne5 => ⟨x5, d5, _, _, rfl, upd_same, fun z => absurd z (by decide), fun _ H5 r5 kk5 => ⟨rfl, ?_⟩⟩
    have t5 := Same.made n5 nd5 kk5
    rw [z01.1, z01.2] at r5
    obtain ⟨e5, q5⟩ := id r5
    refine ⟨x5, e5, _, rfl, q5, rf_no _ _ (by decide +kernel) (by decide +kernel), _, rfl, _, rfl, _, _, rfl, rfl, ?_⟩
    refine ⟨x5, 0, 1, -1 - (0 + 1 + 1), rfl, by decide, by decide, r5, by decide, s0, s1, fun z => absurd z (by decide), fun _ _ H6 t6 => ?_, fun _ z => absurd rfl z⟩
    refine ⟨true, TZ.ex, fun _ _ _ => ?_, fun z => Bool.noConfusion z⟩
    refine ⟨_, rfl, _, _, rfl, rfl, ?_⟩
    refine ⟨_, rfl, rfl, ?_⟩
    exact k H6 (((((T2.trans t3).trans t4)).trans t5).trans t6)
end
end Ind

set_option Elab.async false
set_option linter.all false
set_option maxRecDepth 100000
set_option maxHeartbeats 4000000
namespace Ind
open PySem PySem.Spec PyProof.Rows L2
open Builtin.Int (intBits)
abbrev sLaw : Stmt := top 25
def spLaw (K : PySem.W.Frag) : Sp := fun vs H Q _ => ∃ (a : Addr) (ns : List Int), vs = [.ref a] ∧ SqL K H a (ns.map V.int) ∧ (∀ z ∈ ns, intBits z ≤ 1048576) ∧ ∀ H', Q (.bl true) H'
/-! ### the two lists -/
theorem Paired.snoc {α β : Type} {F : α → β → Prop} : ∀ {xs : List α} {ys : List β} {x : α} {y : β}, Paired F xs ys → F x y → Paired F (xs ++ [x]) (ys ++ [y])
  | _, _, _, _, .nil, h => .cons h .nil
  | _, _, _, _, .cons r t, h => .cons r (Paired.snoc t h)
theorem Paired.at {α β : Type} {F : α → β → Prop} : ∀ {xs : List α} {ys : List β} {i : Nat}, Paired F xs ys → i < xs.length → ∃ x y, xs[i]? = some x ∧ ys[i]? = some y ∧ F x y
  | _, _, 0, .cons r t, _ => ⟨_, _, rfl, rfl, r⟩
  | _, _, i + 1, .cons r t, h => by
    obtain ⟨x, y, h1, h2, h3⟩ := Paired.at (i := i) t (Nat.lt_of_succ_lt_succ h)
    exact ⟨x, y, by simpa using h1, by simpa using h2, h3⟩
  | _, _, _, .nil, h => absurd h (Nat.not_lt_zero _)
def Low (v : Int × Int) : Prop := 0 < v.2 ∧ Nat.gcd v.1.natAbs v.2.natAbs = 1
def DuesAt (H : Hp) (ds : List Addr) (vs : List (Int × Int)) : Prop := Paired (fun d (v : Int × Int) => PairAt H d v.1 v.2 ∧ Low v) ds vs
def ToldAt (C : Addr) (H : Hp) (ts : List Addr) (vs : List (Int × Int)) : Prop := Paired (fun t (v : Int × Int) => RatAt C H t v.1 v.2) ts vs
/-- the state while the two lists grow: what stood at H0 stands, the lists are new -/
structure Two (C : Addr) (H0 H : Hp) (l m : Addr) (ds ts : List Addr) (vs us : List (Int × Int)) : Prop where
  s : Same H0 H
  nl : H0 l = none
  nm : H0 m = none
  ne : l ≠ m
  hl : H l = some (.lst (ds.map V.ref))
  hm : H m = some (.lst (ts.map V.ref))
  d : DuesAt H ds vs
  t : ToldAt C H ts us
  few : vs.length ≤ 50 ∧ us.length ≤ 50
theorem Two.same {C : Addr} {H0 H H' : Hp} {l m : Addr} {ds ts : List Addr} {vs us : List (Int × Int)} (x : Two C H0 H l m ds ts vs us) (s : Same H H') : Two C H0 H' l m ds ts vs us :=
  ⟨x.s.trans s, x.nl, x.nm, x.ne, s _ _ x.hl, s _ _ x.hm, Paired.mapP x.d fun _ _ z => ⟨z.1.same s, z.2⟩, Paired.mapP x.t fun _ _ z => z.same s, x.few⟩
theorem Two.due {C : Addr} {H0 H : Hp} {l m : Addr} {ds ts : List Addr} {vs us : List (Int × Int)} (x : Two C H0 H l m ds ts vs us) {d : Addr} {v : Int × Int} (hd : PairAt H d v.1 v.2) (hv : Low v) (hf : vs.length < 50) :
    Two C H0 (upd H l (.lst (ds.map V.ref ++ [V.ref d]))) l m (ds ++ [d]) ts (vs ++ [v]) us := by
  have keep : ∀ {b : Addr} {o : HO}, H b = some o → b ≠ l → upd H l (.lst (ds.map V.ref ++ [V.ref d])) b = some o := fun e n => by rw [upd_ne n]; exact e
  have pl : ∀ {b : Addr} {p q : Int}, PairAt H b p q → b ≠ l := fun e => ne_of e x.hl (by intro z; cases z)
  refine ⟨fun b o e => keep (x.s b o e) (ne_of_none e x.nl), x.nl, x.nm, x.ne, by rw [upd_same, List.map_append]; rfl, keep x.hm x.ne.symm, ?_, ?_, by rw [List.length_append]; exact ⟨hf, x.few.2⟩⟩
  · exact Paired.snoc (Paired.mapP x.d fun _ _ z => ⟨keep z.1 (pl z.1), z.2⟩) ⟨keep hd (pl hd), hv⟩
  · exact Paired.mapP x.t fun t v z => by
      obtain ⟨dx, e⟩ := z
      exact ⟨dx, keep e (ne_of e x.hl (by intro z; cases z))⟩
theorem Two.told {C : Addr} {H0 H : Hp} {l m : Addr} {ds ts : List Addr} {vs us : List (Int × Int)} (x : Two C H0 H l m ds ts vs us) {t : Addr} {v : Int × Int} (ht : RatAt C H t v.1 v.2) (hf : us.length < 50) :
    Two C H0 (upd H m (.lst (ts.map V.ref ++ [V.ref t]))) l m ds (ts ++ [t]) vs (us ++ [v]) := by
  have keep : ∀ {b : Addr} {o : HO}, H b = some o → b ≠ m → upd H m (.lst (ts.map V.ref ++ [V.ref t])) b = some o := fun e n => by rw [upd_ne n]; exact e
  have pl : ∀ {b : Addr} {p q : Int}, RatAt C H b p q → b ≠ m := fun e => by
    obtain ⟨dx, e⟩ := e
    exact ne_of e x.hm (by intro z; cases z)
  have kr : ∀ {b : Addr} {p q : Int}, RatAt C H b p q → RatAt C (upd H m (.lst (ts.map V.ref ++ [V.ref t]))) b p q := fun e => by
    have n := pl e
    obtain ⟨dx, e⟩ := e
    exact ⟨dx, keep e n⟩
  refine ⟨fun b o e => keep (x.s b o e) (ne_of_none e x.nm), x.nl, x.nm, x.ne, keep x.hl x.ne, by rw [upd_same, List.map_append]; rfl, ?_, ?_, by rw [List.length_append]; exact ⟨x.few.1, hf⟩⟩
  · exact Paired.mapP x.d fun d v z => ⟨keep z.1 (ne_of z.1 x.hm (by intro z; cases z)), z.2⟩
  · exact Paired.snoc (Paired.mapP x.t fun _ _ z => kr z) (kr ht)
/-! ### the two readings of each result -/
theorem low_id {a b : Int} (h : 0 < b) (g : Nat.gcd a.natAbs b.natAbs = 1) : nN a b = a ∧ nD a b = b := by
  have hb : b ≠ 0 := by omega
  exact low_uniq (nD_pos hb) h (n_gcd hb) g (n_cross hb)
theorem low_nd {n d : Int} (h : d ≠ 0) : Low (nN n d, nD n d) := ⟨nD_pos h, n_gcd h⟩
theorem pow_neg {p q : Int} (hp : p ≠ 0) (hq : q ≠ 0) (m : Nat) : nN (nN q p ^ m) (nD q p ^ m) = nN (pD p q m) (pN p q m) ∧ nD (nN q p ^ m) (nD q p ^ m) = nD (pD p q m) (pN p q m) := by
  have hy : nD q p ≠ 0 := Int.ne_of_gt (nD_pos hp)
  have hqm := pow_ne hq m
  have e1 : pN p q m * q ^ m = p ^ m * pD p q m := n_cross hqm
  have hpd : pD p q m ≠ 0 := Int.ne_of_gt (nD_pos hqm)
  have hpn : pN p q m ≠ 0 := by
    intro z
    rw [z, Int.zero_mul] at e1
    rcases Int.mul_eq_zero.mp e1.symm with w | w
    · exact pow_ne hp m w
    · exact hpd w
  refine n_uniq (pow_ne hy m) hpn ?_
  have e2 : nN q p * p = q * nD q p := n_cross hp
  have e3 : nN q p ^ m * p ^ m = q ^ m * nD q p ^ m := by
    rw [← Int.mul_pow, ← Int.mul_pow, e2]
  have z : (nN q p ^ m * pN p q m) * q ^ m = (pD p q m * nD q p ^ m) * q ^ m := by
    calc (nN q p ^ m * pN p q m) * q ^ m = nN q p ^ m * (pN p q m * q ^ m) := by ac_rfl
      _ = nN q p ^ m * (p ^ m * pD p q m) := by rw [e1]
      _ = (nN q p ^ m * p ^ m) * pD p q m := by ac_rfl
      _ = (q ^ m * nD q p ^ m) * pD p q m := by rw [e3]
      _ = (pD p q m * nD q p ^ m) * q ^ m := by ac_rfl
  exact Int.eq_of_mul_eq_mul_right hqm z
theorem tot_is {p q r s B : Int} {x1 x2 x3 x4 : Addr} (hq : 0 < q) (hs : 0 < s) (hO : Over B [(x1, p, q), (x2, r, s), (x3, p, q), (x4, -r, s)]) :
    let u := nN (p * s + r * q) (q * s)
    let u' := nD (p * s + r * q) (q * s)
    let w := nN (p * s + -r * q) (q * s)
    let w' := nD (p * s + -r * q) (q * s)
    nN (partsOf B [(x1, p, q), (x2, r, s), (x3, p, q), (x4, -r, s)]).sum B = nN (u * w' + w * u') (u' * w') ∧ nD (partsOf B [(x1, p, q), (x2, r, s), (x3, p, q), (x4, -r, s)]).sum B = nD (u * w' + w * u') (u' * w') := by
  intro u u' w w'
  have hqs : q * s ≠ 0 := Int.mul_ne_zero (by omega) (by omega)
  have e1 : u * (q * s) = (p * s + r * q) * u' := n_cross hqs
  have e2 : w * (q * s) = (p * s + -r * q) * w' := n_cross hqs
  have hu : u' ≠ 0 := Int.ne_of_gt (nD_pos hqs)
  have hw : w' ≠ 0 := Int.ne_of_gt (nD_pos hqs)
  obtain ⟨c, hc⟩ := hO.2.2 (x1, p, q) (by simp)
  obtain ⟨d, hd⟩ := hO.2.2 (x2, r, s) (by simp)
  have fc : B.fdiv q = c := fdiv_of_mul (by omega) (hc.trans (Int.mul_comm _ _))
  have fd : B.fdiv s = d := fdiv_of_mul (by omega) (hd.trans (Int.mul_comm _ _))
  have es : (partsOf B [(x1, p, q), (x2, r, s), (x3, p, q), (x4, -r, s)]).sum = 2 * (p * c) := by
    show p * B.fdiv q + (r * B.fdiv s + (p * B.fdiv q + (-r * B.fdiv s + 0))) = 2 * (p * c)
    rw [fc, fd, Int.neg_mul]
    omega
  rw [es]
  refine n_uniq (Int.ne_of_gt hO.1) (Int.mul_ne_zero hu hw) ?_
  have k1 : (u * w' + w * u') * (q * s) = (2 * p * (u' * w')) * s := by
    calc (u * w' + w * u') * (q * s) = u * (q * s) * w' + w * (q * s) * u' := by rw [Int.add_mul]; ac_rfl
      _ = (p * s + r * q) * u' * w' + (p * s + -r * q) * w' * u' := by rw [e1, e2]
      _ = (p * s + r * q) * (u' * w') + (p * s + -r * q) * (u' * w') := by ac_rfl
      _ = ((p * s + r * q) + (p * s + -r * q)) * (u' * w') := by rw [← Int.add_mul]
      _ = (2 * (p * s)) * (u' * w') := by
        congr 1
        rw [Int.neg_mul]
        omega
      _ = (2 * p * (u' * w')) * s := by ac_rfl
  have k2 : ((u * w' + w * u') * q) * s = (2 * p * (u' * w')) * s := by rw [← k1]; ac_rfl
  have k3 := Int.eq_of_mul_eq_mul_right (show s ≠ 0 by omega) k2
  have hc' : B = q * c := hc
  calc 2 * (p * c) * (u' * w') = (2 * p * (u' * w')) * c := by ac_rfl
    _ = ((u * w' + w * u') * q) * c := by rw [k3]
    _ = (u * w' + w * u') * B := by rw [hc']; ac_rfl
theorem ne_pair {K : PySem.W.Frag} {H : Hp} {t u : Addr} {a b : Int} {Q : VK} (ht : H t = some (.tup [.int a, .int b])) (hu : H u = some (.tup [.int a, .int b])) (q : Q (.bl false) H) : rNeD K (.ref t) (.ref u) H Q := by
  refine ⟨.tuple [.int a, .int b], .tuple [.int a, .int b], .tup (SqT.of ht) (.cons (.int a) (.cons (.int b) .nil)), .tup (SqT.of hu) (.cons (.int a) (.cons (.int b) .nil)), rfl, rfl, ?_⟩
  have e : PyData.eqv (.tuple [.int a, .int b]) (.tuple [.int a, .int b]) = true := by simp [PyData.eqv, PyData.eqvAll]
  rw [e]
  exact q
theorem eq_pair {K : PySem.W.Frag} {H : Hp} {t u : Addr} {a b : Int} {Q : VK} (ht : H t = some (.tup [.int a, .int b])) (hu : H u = some (.tup [.int a, .int b])) (q : Q (.bl true) H) : rEqD K (.ref t) (.ref u) H Q := by
  refine ⟨.tuple [.int a, .int b], .tuple [.int a, .int b], .tup (SqT.of ht) (.cons (.int a) (.cons (.int b) .nil)), .tup (SqT.of hu) (.cons (.int a) (.cons (.int b) .nil)), rfl, rfl, ?_⟩
  have e : PyData.eqv (.tuple [.int a, .int b]) (.tuple [.int a, .int b]) = true := by simp [PyData.eqv, PyData.eqvAll]
  rw [e]
  exact q
theorem sgn_sub (g : Int) : sgn g = (if decide (0 < g) = true then 1 else 0) - (if decide (g < 0) = true then 1 else 0) := by
  unfold sgn
  by_cases h1 : g < 0
  · have h2 : ¬ 0 < g := by omega
    simp [h1, h2]
  · by_cases h2 : 0 < g
    · simp [h1, h2]
    · simp [h1, h2]
theorem ixs {α : Type} {xs : List α} {i : Nat} {x : α} (h : xs[i]? = some x) : atI xs (0 + ((i : Nat) : Int)) = some x := by
  rw [Int.zero_add]
  exact atI_of h
theorem few_ok {n m : Nat} (h : Nat.ble n m = true) : n ≤ m := Nat.le_of_ble_eq_true h
theorem few_lt {n m : Nat} (h : Nat.ble (n + 1) m = true) : n < m := Nat.le_of_ble_eq_true h
section
variable {P : Program} {w : World} {K : PySem.W.Frag} {mg : Str → Option Value} {base : Heap} {C Z : Addr}
theorem scL : FnScope ["script", "a", "b", "k", "x", "y", "minus", "due", "told", "at", "gap", "low"] ["script"] (defScope sLaw) := ⟨rfl, rfl, rfl, by decide +kernel, rfl, by decide +kernel, by decide +kernel⟩
theorem ok_law {f fI pW fDn fD fAd fMu fRt fPw fP fS fNi fTl fTt fV fO fW2 fCm fSg fFl fIz foA foS foM foN fW : Addr} {fd fdI fdDn fdD fdAd fdMu fdRt fdPw fdP fdS fdNi fdTl fdTt fdV fdO fdW2 fdCm fdSg fdFl fdIz fdoA fdoS fdoM fdoN fdW : FuncData} {ds : List Value} (F : Fun K "law" "law" sLaw f fd) (T : TxL K mg) (R : TxR K mg C Z) (M : MkR P w K mg base C Z fI fdI ds) (sf : PySem.W.selfFirst K C = true)
    (GDn : FnOk P w K mg base CX0 42 fDn fdDn ["script", "at"] (spDrawn K)) (gDn : mg "_law_drawn" = some (.ref fDn)) (kDn : PySem.W.keepIn K (.ref fDn) = true) (bDn : Binds K fdDn ["script", "at"] [])
    (GD : FnOk P w K mg base CX0 2 fD fdD ["script", "at", "count", "bound"] (spDraws K)) (gD : mg "_law_draws" = some (.ref fD)) (kD : PySem.W.keepIn K (.ref fD) = true) (bD : Binds K fdD ["script", "at", "count", "bound"] [])
    (GAd : FnOk P w K mg base CX0 42 fAd fdAd ["a", "b"] spAddT) (gAd : mg "_law_add" = some (.ref fAd)) (kAd : PySem.W.keepIn K (.ref fAd) = true) (bAd : Binds K fdAd ["a", "b"] [])
    (GMu : FnOk P w K mg base CX0 42 fMu fdMu ["a", "b"] spMulT) (gMu : mg "_law_mul" = some (.ref fMu)) (kMu : PySem.W.keepIn K (.ref fMu) = true) (bMu : Binds K fdMu ["a", "b"] [])
    (GRt : FnOk P w K mg base CX0 41 fRt fdRt ["n", "d"] spRatT) (gRt : mg "_law_rat" = some (.ref fRt)) (kRt : PySem.W.keepIn K (.ref fRt) = true) (bRt : Binds K fdRt ["n", "d"] [])
    (GPw : FnOk P w K mg base CX0 43 fPw fdPw ["a", "k"] spPower) (gPw : mg "_law_power" = some (.ref fPw)) (kPw : PySem.W.keepIn K (.ref fPw) = true) (bPw : Binds K fdPw ["a", "k"] [])
    (GP : FnOk P w K mg base CX0 2 fP fdP ["value"] (spPair C)) (gP : mg "_law_pair" = some (.ref fP)) (kP : PySem.W.keepIn K (.ref fP) = true) (bP : Binds K fdP ["value"] [])
    (GS : FnOk P w K mg base CX0 1 fS fdS ["value"] spIsI) (gS : mg "_law_is_integer" = some (.ref fS)) (kS : PySem.W.keepIn K (.ref fS) = true) (bS : Binds K fdS ["value"] [])
    (GNi : FnOk P w K mg base CX0 46 fNi fdNi ["a"] (spNoI C)) (gNi : mg "_law_no_inverse" = some (.ref fNi)) (kNi : PySem.W.keepIn K (.ref fNi) = true) (bNi : Binds K fdNi ["a"] [])
    (GTl : FnOk P w K mg base CX0 43 fTl fdTl ["numbers"] (spTotL K C)) (gTl : mg "total" = some (.ref fTl)) (kTl : PySem.W.keepIn K (.ref fTl) = true) (bTl : Binds K fdTl ["numbers"] [])
    (GTt : FnOk P w K mg base CX0 43 fTt fdTt ["numbers"] (spTotT K C)) (gTt : mg "total" = some (.ref fTt)) (kTt : PySem.W.keepIn K (.ref fTt) = true) (bTt : Binds K fdTt ["numbers"] [])
    (GV : FnOk P w K mg base (L2.CX P w) 43 fV fdV ["self"] (sp_inv C Z)) (mV : Meth K C "inverse" fV) (bV : Binds K fdV ["self"] [])
    (GO : FnOk P w K mg base (L2.CX P w) 43 fO fdO ["self", "other"] (sp_over C Z)) (mO : Meth K C "over" fO) (bO : Binds K fdO ["self", "other"] [])
    (GW2 : FnOk P w K mg base (L2.CX P w) 44 fW2 fdW2 ["self", "k"] (sp_pow C Z)) (mW2 : Meth K C "power" fW2) (bW2 : Binds K fdW2 ["self", "k"] [])
    (GCm : FnOk P w K mg base CX0 44 fCm fdCm ["self", "other"] (sp_cmp C)) (mCm : Meth K C "compare" fCm) (bCm : Binds K fdCm ["self", "other"] [])
    (GSg : FnOk P w K mg base CX0 1 fSg fdSg ["self"] (sp_sign C)) (mSg : Meth K C "sign" fSg) (bSg : Binds K fdSg ["self"] [])
    (GFl : FnOk P w K mg base CX0 41 fFl fdFl ["self"] (sp_floor C)) (mFl : Meth K C "floor" fFl) (bFl : Binds K fdFl ["self"] [])
    (GIz : FnOk P w K mg base CX0 1 fIz fdIz ["self"] (sp_isz C)) (mIz : Meth K C "is_zero" fIz) (bIz : Binds K fdIz ["self"] [])
    (GoA : FnOk P w K mg base CX0 43 foA fdoA ["self", "other"] (sp_add C)) (aoA : PySem.W.findIn K (.ref C) "__add__" = some (some (.ref foA))) (ioA : PySem.W.isFn K (.ref foA) = true) (boA : Binds K fdoA ["self", "other"] [])
    (GoS : FnOk P w K mg base CX0 43 foS fdoS ["self", "other"] (sp_sub C)) (aoS : PySem.W.findIn K (.ref C) "__sub__" = some (some (.ref foS))) (ioS : PySem.W.isFn K (.ref foS) = true) (boS : Binds K fdoS ["self", "other"] [])
    (GoM : FnOk P w K mg base CX0 43 foM fdoM ["self", "other"] (sp_mul C)) (aoM : PySem.W.findIn K (.ref C) "__mul__" = some (some (.ref foM))) (ioM : PySem.W.isFn K (.ref foM) = true) (boM : Binds K fdoM ["self", "other"] [])
    (GoN : FnOk P w K mg base CX0 43 foN fdoN ["self"] (sp_neg C)) (aoN : PySem.W.findIn K (.ref C) "__neg__" = some (some (.ref foN))) (ioN : PySem.W.isFn K (.ref foN) = true) (boN : Binds K fdoN ["self"] [])
    (GW : FnOk P w K mg base CX0 1 fW fdW ["self"] (sp_whole C)) (PWh : PropOf K C "whole" pW fW) (bW : Binds K fdW ["self"] []) : FnOk P w K mg base CX0 60 f fd ["script"] (spLaw K) := by
  refine F.ok scL (fun vs H Q E h => ?_) (fun cdv A outer s H vs Q E hr h => ?_)
  · obtain ⟨a, ns, rfl, _⟩ := h
    rfl
  · obtain ⟨a0, ns, rfl, hS, hb, k⟩ := h
    have hrM : Room 42 _ := hr.mono (by decide)
    have hr43 : Room 43 _ := hr.mono (by decide)
    have OoA : OwnOp (cxOf CX0 P w K mg base ["script", "a", "b", "k", "x", "y", "minus", "due", "told", "at", "gap", "low"] "law" (defScope sLaw) f cdv A outer s H E).nox CX0 43 C foA "__add__" fdoA ["self", "other"] (sp_add C) E0 := ⟨GoA, aoA, ioA, boA, pass0, sf⟩
    have op_Add := op_binO (op := .Add) (m := "__add__") (by decide +kernel) OoA hr43
    have OoS : OwnOp (cxOf CX0 P w K mg base ["script", "a", "b", "k", "x", "y", "minus", "due", "told", "at", "gap", "low"] "law" (defScope sLaw) f cdv A outer s H E).nox CX0 43 C foS "__sub__" fdoS ["self", "other"] (sp_sub C) E0 := ⟨GoS, aoS, ioS, boS, pass0, sf⟩
    have op_Sub := op_binO (op := .Sub) (m := "__sub__") (by decide +kernel) OoS hr43
    have OoM : OwnOp (cxOf CX0 P w K mg base ["script", "a", "b", "k", "x", "y", "minus", "due", "told", "at", "gap", "low"] "law" (defScope sLaw) f cdv A outer s H E).nox CX0 43 C foM "__mul__" fdoM ["self", "other"] (sp_mul C) E0 := ⟨GoM, aoM, ioM, boM, pass0, sf⟩
    have op_Mul := op_binO (op := .Mult) (m := "__mul__") (by decide +kernel) OoM hr43
    have OoN : OwnOp (cxOf CX0 P w K mg base ["script", "a", "b", "k", "x", "y", "minus", "due", "told", "at", "gap", "low"] "law" (defScope sLaw) f cdv A outer s H E).nox CX0 43 C foN "__neg__" fdoN ["self"] (sp_neg C) E0 := ⟨GoN, aoN, ioN, boN, pass0, sf⟩
    have un_Neg := un_negO OoN hr43
    refine ⟨_, (pss_cons (ps_set (i := 1) scL.nd rfl (Or.inl rfl) (pe_call GDn (hr.mono (by decide)) (by rfl) gDn kDn bDn .nil pass0 (pa_cons (pv 0) (pa_cons pe_int pa_nil))))
      (pss_cons (ps_set (i := 2) scL.nd rfl (Or.inl rfl) (pe_call GDn (hr.mono (by decide)) (by rfl) gDn kDn bDn .nil pass0 (pa_cons (pv 0) (pa_cons pe_int pa_nil))))
      (pss_cons (ps_set (i := 3) scL.nd rfl (Or.inl rfl) (pe_op op_sub (pe_ix ix_list (pe_call GD (hr.mono (by decide)) (by rfl) gD kD bD .nil pass0 (pa_cons (pv 0) (pa_cons pe_int (pa_cons pe_int (pa_cons pe_int pa_nil))))) pe_int fun _ _ => rfl) pe_int))
      (pss_cons (ps_set (i := 4) scL.nd rfl (Or.inl rfl) (pe_make M.cm M.fn hrM (by rfl) R.mgC M.b2 .nil passL (pa_cons (pe_ix ix_tup (pv 1) pe_int fun _ _ => rfl) (pa_cons (pe_ix ix_tup (pv 1) pe_int fun _ _ => rfl) pa_nil))))
      (pss_cons (ps_set (i := 5) scL.nd rfl (Or.inl rfl) (pe_make M.cm M.fn hrM (by rfl) R.mgC M.b2 .nil passL (pa_cons (pe_ix ix_tup (pv 2) pe_int fun _ _ => rfl) (pa_cons (pe_ix ix_tup (pv 2) pe_int fun _ _ => rfl) pa_nil))))
      (pss_cons (ps_set (i := 6) scL.nd rfl (Or.inl rfl) (pe_tup (pa_cons (pe_un un_neg (pe_ix ix_tup (pv 2) pe_int fun _ _ => rfl)) (pa_cons (pe_ix ix_tup (pv 2) pe_int fun _ _ => rfl) pa_nil))))
      (pss_cons (ps_set (i := 7) scL.nd rfl (Or.inl rfl) (pe_lst (pa_cons (pe_call GAd (hr.mono (by decide)) (by rfl) gAd kAd bAd .nil pass0 (pa_cons (pv 1) (pa_cons (pv 2) pa_nil))) (pa_cons (pe_call GAd (hr.mono (by decide)) (by rfl) gAd kAd bAd .nil pass0 (pa_cons (pv 1) (pa_cons (pv 6) pa_nil))) (pa_cons (pe_call GMu (hr.mono (by decide)) (by rfl) gMu kMu bMu .nil pass0 (pa_cons (pv 1) (pa_cons (pv 2) pa_nil))) (pa_cons (pv 6) pa_nil))))))
      (pss_cons (ps_set (i := 8) scL.nd rfl (Or.inl rfl) (pe_lst (pa_cons (pe_op op_Add (pv 4) (pv 5)) (pa_cons (pe_op op_Sub (pv 4) (pv 5)) (pa_cons (pe_op op_Mul (pv 4) (pv 5)) (pa_cons (pe_un un_Neg (pv 5)) pa_nil))))))
      (C8.pss_cut (ps_if (pt_cmpR op_ne (pe_ix ix_tup (pv 2) pe_int fun _ _ => rfl) pe_int (nomark _)) (pss_cons (ps_expr (pe_bm PySem.F.plainAttrs_list PySem.F.slot_list_append PySem.F.type_list_append mt_append (pv 7) (pa_cons (pe_call GRt (hr.mono (by decide)) (by rfl) gRt kRt bRt .nil pass0 (pa_cons (pe_ix ix_tup (pv 2) pe_int fun _ _ => rfl) (pa_cons (pe_ix ix_tup (pv 2) pe_int fun _ _ => rfl) pa_nil))) pa_nil)))
      (pss_cons (ps_expr (pe_bm PySem.F.plainAttrs_list PySem.F.slot_list_append PySem.F.type_list_append mt_append (pv 8) (pa_cons (pe_meth0 (pv 5) R.cl mV GV (hr.mono (by decide)) bV .nil passL) pa_nil)))
      (pss_cons (ps_expr (pe_bm PySem.F.plainAttrs_list PySem.F.slot_list_append PySem.F.type_list_append mt_append (pv 7) (pa_cons (pe_call GRt (hr.mono (by decide)) (by rfl) gRt kRt bRt .nil pass0 (pa_cons (pe_op op_mulB (pe_ix ix_tup (pv 1) pe_int fun _ _ => rfl) (pe_ix ix_tup (pv 2) pe_int fun _ _ => rfl)) (pa_cons (pe_op op_mulB (pe_ix ix_tup (pv 1) pe_int fun _ _ => rfl) (pe_ix ix_tup (pv 2) pe_int fun _ _ => rfl)) pa_nil))) pa_nil)))
      (pss_one (ps_expr (pe_bm PySem.F.plainAttrs_list PySem.F.slot_list_append PySem.F.type_list_append mt_append (pv 8) (pa_cons (pe_meth (pv 4) R.cl mO GO (hr.mono (by decide)) bO .nil passL (pa_cons (pv 5) pa_nil)) pa_nil))))))) pss_nil)
      (C8.pss_cut (ps_if (PW.pt (pw_or (pt_cmpR op_ge (pv 3) pe_int (nomark _)) (pw_or1 (pt_cmpR op_ne (pe_ix ix_tup (pv 1) pe_int fun _ _ => rfl) pe_int (nomark _))))) (pss_cons (ps_expr (pe_bm PySem.F.plainAttrs_list PySem.F.slot_list_append PySem.F.type_list_append mt_append (pv 7) (pa_cons (pe_call GPw (hr.mono (by decide)) (by rfl) gPw kPw bPw .nil pass0 (pa_cons (pv 1) (pa_cons (pv 3) pa_nil))) pa_nil)))
      (pss_one (ps_expr (pe_bm PySem.F.plainAttrs_list PySem.F.slot_list_append PySem.F.type_list_append mt_append (pv 8) (pa_cons (pe_meth (pv 4) R.cl mW2 GW2 (hr.mono (by decide)) bW2 .nil passL (pa_cons (pv 3) pa_nil)) pa_nil))))) pss_nil)
      (pss_cons (ps_expr (pe_bm PySem.F.plainAttrs_list PySem.F.slot_list_append PySem.F.type_list_append mt_append (pv 7) (pa_cons (pe_call GAd (hr.mono (by decide)) (by rfl) gAd kAd bAd .nil pass0 (pa_cons (pe_call GAd (hr.mono (by decide)) (by rfl) gAd kAd bAd .nil pass0 (pa_cons (pv 1) (pa_cons (pv 2) pa_nil))) (pa_cons (pe_call GAd (hr.mono (by decide)) (by rfl) gAd kAd bAd .nil pass0 (pa_cons (pv 1) (pa_cons (pv 6) pa_nil))) pa_nil))) pa_nil)))
      (pss_cons (ps_expr (pe_bm PySem.F.plainAttrs_list PySem.F.slot_list_append PySem.F.type_list_append mt_append (pv 8) (pa_cons (pe_call GTl (hr.mono (by decide)) (by rfl) gTl kTl bTl .nil pass0 (pa_cons (pe_lst (pa_cons (pv 4) (pa_cons (pv 5) (pa_cons (pv 4) (pa_cons (pe_un un_Neg (pv 5)) pa_nil))))) pa_nil)) pa_nil)))
      (pss_cons (ps_expr (pe_bm PySem.F.plainAttrs_list PySem.F.slot_list_append PySem.F.type_list_append mt_append (pv 7) (pa_cons (pe_tup (pa_cons pe_int (pa_cons pe_int pa_nil))) pa_nil)))
      (pss_cons (ps_expr (pe_bm PySem.F.plainAttrs_list PySem.F.slot_list_append PySem.F.type_list_append mt_append (pv 8) (pa_cons (pe_call GTt (hr.mono (by decide)) (by rfl) gTt kTt bTt .nil pass0 (pa_cons (pe_tup pa_nil) pa_nil)) pa_nil)))
      (pss_cons (ps_for PassesOwn.never rfl (pi_range1 (by rfl) T.range (pa_cons (pe_callB call_len_seq (by rfl) T.len PySem.boot_len (pa_cons (pv 7) pa_nil)) pa_nil)) (pg_name (i := 9) scL.nd rfl (Or.inl rfl)) (pss_one (ps_if (pt_cmpR (op_neD hr.units) (pe_call GP (hr.mono (by decide)) (by rfl) gP kP bP .nil pass0 (pa_cons (pe_ix ix_list (pv 8) (pv 9) fun _ _ => rfl) pa_nil)) (pe_ix ix_list (pv 7) (pv 9) fun _ _ => rfl) (nomark _)) (pss_one (ps_ret pe_bl)) pss_nil)))
      (pss_cons (ps_set (i := 10) scL.nd rfl (Or.inl rfl) (pe_op op_sub (pe_op op_mulB (pe_ix ix_tup (pv 1) pe_int fun _ _ => rfl) (pe_ix ix_tup (pv 2) pe_int fun _ _ => rfl)) (pe_op op_mulB (pe_ix ix_tup (pv 2) pe_int fun _ _ => rfl) (pe_ix ix_tup (pv 1) pe_int fun _ _ => rfl))))
      (pss_cons (ps_if (PW.pt (pw_or (pt_cmpR op_ne (pe_meth (pv 4) R.cl mCm GCm (hr.mono (by decide)) bCm .nil pass0 (pa_cons (pv 5) pa_nil)) (pe_op op_sub (pe_callTy call_int1 (by rfl) T.int (by decide +kernel) (pa_cons (pe_cmpR op_gt (pv 10) pe_int (nomark _)) pa_nil)) (pe_callTy call_int1 (by rfl) T.int (by decide +kernel) (pa_cons (pe_cmpR op_lt (pv 10) pe_int (nomark _)) pa_nil))) (nomark _)) (pw_or1 (pt_cmpR op_ne (pe_meth0 (pv 4) R.cl mSg GSg (hr.mono (by decide)) bSg .nil pass0) (pe_op op_sub (pe_callTy call_int1 (by rfl) T.int (by decide +kernel) (pa_cons (pe_cmpR op_gt (pe_ix ix_tup (pv 1) pe_int fun _ _ => rfl) pe_int (nomark _)) pa_nil)) (pe_callTy call_int1 (by rfl) T.int (by decide +kernel) (pa_cons (pe_cmpR op_lt (pe_ix ix_tup (pv 1) pe_int fun _ _ => rfl) pe_int (nomark _)) pa_nil))) (nomark _))))) (pss_one (ps_ret pe_bl)) pss_nil)
      (pss_cons (ps_set (i := 11) scL.nd rfl (Or.inl rfl) (pe_meth0 (pv 4) R.cl mFl GFl (hr.mono (by decide)) bFl .nil pass0))
      (pss_cons (ps_if (PW.pt (pw_or (pt_not (pt_val (pe_call GS (hr.mono (by decide)) (by rfl) gS kS bS .nil pass0 (pa_cons (pv 11) pa_nil)))) (pw_or1 (pt_not (pt_chain op_le op_lt (pe_op op_mulB (pv 11) (pe_ix ix_tup (pv 1) pe_int fun _ _ => rfl)) (pe_ix ix_tup (pv 1) pe_int fun _ _ => rfl) (pe_op op_mulB (pe_op op_add (pv 11) pe_int) (pe_ix ix_tup (pv 1) pe_int fun _ _ => rfl))))))) (pss_one (ps_ret pe_bl)) pss_nil)
      (pss_cons (ps_if (PW.pt (pw_or (pt_cmpR op_ne (pe_prop (pv 4) R.cl PWh GW (hr.mono (by decide)) bW .nil pass0 rfl) (pe_cmpR op_eq (pe_ix ix_tup (pv 1) pe_int fun _ _ => rfl) pe_int (nomark _)) (nomark _)) (pw_or (pt_not (pt_val (pe_callB call_isi (by rfl) T.isinstance (by decide +kernel) (pa_cons (pe_prop (pv 4) R.cl PWh GW (hr.mono (by decide)) bW .nil pass0 rfl) (pa_cons (pe_bltn (v := .ty "bool") (by rfl) T.bool (by decide +kernel) rfl) pa_nil))))) (pw_or1 (pt_cmpR op_ne (pe_meth0 (pv 4) R.cl mIz GIz (hr.mono (by decide)) bIz .nil pass0) (pe_cmpR op_eq (pe_ix ix_tup (pv 1) pe_int fun _ _ => rfl) pe_int (nomark _)) (nomark _)))))) (pss_one (ps_ret pe_bl)) pss_nil)
      (pss_one (ps_ret (pe_and (pe_cmpR (op_eqD hr.units) (pe_call GP (hr.mono (by decide)) (by rfl) gP kP bP .nil pass0 (pa_cons (pv 4) pa_nil)) (pv 1) (nomark _)) (pe_and (pe_cmpR (op_eqD hr.units) (pe_call GP (hr.mono (by decide)) (by rfl) gP kP bP .nil pass0 (pa_cons (pv 5) pa_nil)) (pv 2) (nomark _)) (pe_one (pe_call GNi (hr.mono (by decide)) (by rfl) gNi kNi bNi .nil pass0 (pa_cons (pv 4) pa_nil))))))))))))))))))))))))))), ?_⟩
    refine ⟨_, rfl, a0, ns, 0, rfl, hS, hb, by decide, fun H1 ta p q s1 dA hA => ?_⟩
    refine ⟨_, rfl, a0, ns, 1, rfl, s1.seq hS, hb, by decide, fun H2 tb r v s2 dB hB => ?_⟩
    refine ⟨_, rfl, a0, ns, 2, 1, 11, rfl, s2.seq (s1.seq hS), by decide, by decide, by decide, by decide, fun ds3 H3 l3 hR s3 hl3 hL3 => ?_⟩
    obtain ⟨z, rfl⟩ : ∃ z, ds3 = [z] := by
      have := hR.1
      match ds3, this with
      | [z], _ => exact ⟨z, rfl⟩
    have hz := hR.2 z (by simp)
    refine ⟨l3, _, _, _, rfl, rfl, SqL.of hL3, atI_of (k := 0) rfl, _, _, rfl, rfl, ?_⟩
    have hA3 : PairAt H3 ta p q := (hA.same s2).same s3
    have hB3 : PairAt H3 tb r v := hB.same s3
    have q0 : q ≠ 0 := Int.ne_of_gt dA.pos
    have v0 : v ≠ 0 := Int.ne_of_gt dB.pos
    -- x, y
    refine ⟨_, rfl, ta, _, _, _, rfl, rfl, SqT.of hA3, atI_of (k := 0) rfl, _, rfl, ta, _, _, _, rfl, rfl, SqT.of hA3, atI_of (k := 1) rfl, ?_⟩
    refine fun x dx nx ndx nex => ⟨x, dx, _, _, rfl, upd_same, fun zz => absurd zz q0, fun _ H4 rx kx => ⟨rfl, ?_⟩⟩
    have s4 := Same.made nx ndx kx
    rw [(low_id dA.pos dA.low).1, (low_id dA.pos dA.low).2] at rx
    have hB4 := hB3.same s4
    refine ⟨_, rfl, tb, _, _, _, rfl, rfl, SqT.of hB4, atI_of (k := 0) rfl, _, rfl, tb, _, _, _, rfl, rfl, SqT.of hB4, atI_of (k := 1) rfl, ?_⟩
    refine fun y dy ny ndy ney => ⟨y, dy, _, _, rfl, upd_same, fun zz => absurd zz v0, fun _ H5 ry ky => ⟨rfl, ?_⟩⟩
    have s5 := Same.made ny ndy ky
    rw [(low_id dB.pos dB.low).1, (low_id dB.pos dB.low).2] at ry
    have hB5 := hB4.same s5
    -- minus
    refine ⟨_, rfl, tb, _, _, _, rfl, rfl, SqT.of hB5, atI_of (k := 0) rfl, _, rfl, _, rfl, tb, _, _, _, rfl, rfl, SqT.of hB5, atI_of (k := 1) rfl, (by show 2 ≤ sizeLine; decide), fun tm ntm => ?_⟩
    have s6 := same_upd (o := .tup [.int (-r), .int v]) ntm
    have hA6 := ((hA3.same s4).same s5).same s6
    have hB6 := hB5.same s6
    have hM6 : PairAt (upd H5 tm (.tup [.int (-r), .int v])) tm (-r) v := upd_same
    have rx6 := (rx.same s5).same s6
    have ry6 := ry.same s6
    generalize (upd H5 tm (HO.tup [V.int (-r), V.int v])) = H6 at s6 hA6 hB6 hM6 rx6 ry6 ⊢
    -- sizes
    have cp : intBits p ≤ 1048576 := dA.bits
    have cr : intBits r ≤ 1048576 := dB.bits
    have cr2 : intBits (-r) ≤ 1048576 := PySem.intBits_neg_le cr
    have cq : intBits q ≤ 64 := PySem.intBits_le_iff.mpr (by have := dA.pos; have := dA.le; omega)
    have cv : intBits v ≤ 64 := PySem.intBits_le_iff.mpr (by have := dB.pos; have := dB.le; omega)
    have bp : Bd p := Nat.le_trans cp (by decide)
    have br : Bd r := Nat.le_trans cr (by decide)
    have bmr : Bd (-r) := Nat.le_trans cr2 (by decide)
    have bq : Bd q := Nat.le_trans cq (by decide)
    have bv : Bd v := Nat.le_trans cv (by decide)
    have qv : q * v ≠ 0 := Int.mul_ne_zero q0 v0
    have lm : Low (-r, v) := ⟨dB.pos, by show Nat.gcd (-r).natAbs v.natAbs = 1; rw [Int.natAbs_neg]; exact dB.low⟩
    -- due
    refine ⟨_, rfl, _, rfl, ta, tb, p, q, r, v, rfl, hA6, hB6, q0, v0, bp, bq, br, bv, fun H7 t1 s7 h1 => ?_⟩
    refine ⟨_, rfl, _, rfl, ta, tm, p, q, -r, v, rfl, hA6.same s7, hM6.same s7, q0, v0, bp, bq, bmr, bv, fun H8 t2 s8 h2 => ?_⟩
    have s68 := s7.trans s8
    refine ⟨_, rfl, _, rfl, ta, tb, p, q, r, v, rfl, hA6.same s68, hB6.same s68, q0, v0, bp, bq, br, bv, fun H9 t3 s9 h3 => ?_⟩
    have s69 := s68.trans s9
    refine ⟨_, rfl, (by show 4 ≤ sizeLine; decide), fun l nl => ?_⟩
    have s10 := same_upd (o := .lst [.ref t1, .ref t2, .ref t3, .ref tm]) nl
    have hl10 : upd H9 l (.lst [.ref t1, .ref t2, .ref t3, .ref tm]) l = some (.lst ([t1, t2, t3, tm].map V.ref)) := upd_same
    have k1 := ((h1.same s8).same s9).same s10
    have k2 := (h2.same s9).same s10
    have k3 := h3.same s10
    have km := (hM6.same s69).same s10
    have s6a := s69.trans s10
    generalize upd H9 l (HO.lst [V.ref t1, V.ref t2, V.ref t3, V.ref tm]) = H10 at s10 hl10 k1 k2 k3 km s6a ⊢
    -- told
    obtain ⟨ex, fx⟩ := id (rx6.same s6a)
    obtain ⟨ey, fy⟩ := id (ry6.same s6a)
    refine ⟨_, rfl, _, rfl, x, ex, _, y, ey, _, rfl, rfl, fx, fy, x, y, p, q, r, v, rfl, ⟨ex, fx⟩, ⟨ey, fy⟩, q0, v0, bp, bq, br, bv, fun H11 u1 g1 s11 => ?_⟩
    obtain ⟨ex1, fx1⟩ := id ((rx6.same s6a).same s11)
    obtain ⟨ey1, fy1⟩ := id ((ry6.same s6a).same s11)
    refine ⟨_, rfl, _, rfl, x, ex1, _, y, ey1, _, rfl, rfl, fx1, fy1, x, y, p, q, r, v, rfl, ⟨ex1, fx1⟩, ⟨ey1, fy1⟩, q0, v0, bp, bq, br, bv, fun H12 u2 g2 s12 => ?_⟩
    obtain ⟨ex2, fx2⟩ := id (((rx6.same s6a).same s11).same s12)
    obtain ⟨ey2, fy2⟩ := id (((ry6.same s6a).same s11).same s12)
    refine ⟨_, rfl, _, rfl, x, ex2, _, y, ey2, _, rfl, rfl, fx2, fy2, x, y, p, q, r, v, rfl, ⟨ex2, fx2⟩, ⟨ey2, fy2⟩, q0, v0, bp, bq, br, bv, fun H13 u3 g3 s13 => ?_⟩
    obtain ⟨ey3, fy3⟩ := id ((((ry6.same s6a).same s11).same s12).same s13)
    refine ⟨_, rfl, y, ey3, _, rfl, fy3, y, r, v, rfl, ⟨ey3, fy3⟩, v0, fun H14 u4 g4 s14 => ?_⟩
    refine ⟨(by show 4 ≤ sizeLine; decide), fun m nm => ?_⟩
    rw [show p * v - r * q = p * v + -r * q by rw [Int.neg_mul, Int.sub_eq_add_neg]] at g2
    rw [(low_id lm.1 lm.2).1, (low_id lm.1 lm.2).2] at g4
    have s15 := same_upd (o := .lst [.ref u1, .ref u2, .ref u3, .ref u4]) nm
    have t14 := ((s11.trans s12).trans s13).trans s14
    have X0 : Two C H6 (upd H14 m (.lst [.ref u1, .ref u2, .ref u3, .ref u4])) l m [t1, t2, t3, tm] [u1, u2, u3, u4]
        [(nN (p * v + r * q) (q * v), nD (p * v + r * q) (q * v)), (nN (p * v + -r * q) (q * v), nD (p * v + -r * q) (q * v)), (nN (p * r) (q * v), nD (p * r) (q * v)), (-r, v)]
        [(nN (p * v + r * q) (q * v), nD (p * v + r * q) (q * v)), (nN (p * v + -r * q) (q * v), nD (p * v + -r * q) (q * v)), (nN (p * r) (q * v), nD (p * r) (q * v)), (-r, v)] := by
      have t15 := t14.trans s15
      refine ⟨s6a.trans t15, s69.free nl, (s6a.trans t14).free nm, ne_of_none (t14 _ _ hl10) nm, t15 _ _ hl10, upd_same, ?_, ?_, few_ok rfl, few_ok rfl⟩
      · exact .cons ⟨k1.same t15, low_nd qv⟩ (.cons ⟨k2.same t15, low_nd qv⟩ (.cons ⟨k3.same t15, low_nd qv⟩ (.cons ⟨km.same t15, lm⟩ .nil)))
      · exact .cons ((((g1.same s12).same s13).same s14).same s15) (.cons (((g2.same s13).same s14).same s15) (.cons ((g3.same s14).same s15) (.cons (g4.same s15) .nil)))
    generalize upd H14 m (HO.lst [V.ref u1, V.ref u2, V.ref u3, V.ref u4]) = H15 at X0 ⊢
    clear s15 t14 s14 s13 s12 s11 g1 g2 g3 g4 s10 k1 k2 k3 km nm
    -- what stands at H6 stands wherever the two lists stand
    have few : ∀ {vs us : List (Int × Int)} {H' : Hp} {ds ts : List Addr}, Two C H6 H' l m ds ts vs us → (ds.map V.ref).length < sizeLine ∧ (ts.map V.ref).length < sizeLine := fun X => by
      rw [List.length_map, List.length_map, X.d.length, X.t.length]
      exact ⟨Nat.lt_of_le_of_lt X.few.1 (by decide), Nat.lt_of_le_of_lt X.few.2 (by decide)⟩
    -- if b[0] != 0
    refine ⟨fun σ' H' => ∃ (ds ts : List Addr) (vs : List (Int × Int)), σ' = [some (.ref a0), some (.ref ta), some (.ref tb), some (.int (z - 5)), some (.ref x), some (.ref y), some (.ref tm), some (.ref l), some (.ref m), none, none, none] ∧ Two C H6 H' l m ds ts vs vs ∧ vs.length ≤ 6, ?_, ?_⟩
    · refine ⟨_, rfl, tb, _, _, _, rfl, rfl, SqT.of (hB6.same X0.s), atI_of (k := 0) rfl, rfl, _, rfl, ite2 (fun c => ?_) (fun _ => ⟨_, _, _, rfl, X0, few_ok rfl⟩)⟩
      have r0 : r ≠ 0 := by simpa using c
      refine ⟨_, rfl, .inl ⟨rfl, _, SqL.of X0.hl⟩, _, rfl, tb, _, _, _, rfl, rfl, SqT.of (hB6.same X0.s), atI_of (k := 1) rfl, _, rfl, tb, _, _, _, rfl, rfl, SqT.of (hB6.same X0.s), atI_of (k := 0) rfl, v, r, rfl, r0, fun H16 d1 s16 e1 => ?_⟩
      have X1 := X0.same s16
      refine ⟨l, _, _, rfl, rfl, X1.hl, (few X1).1, ?_⟩
      have X2 := X1.due (v := (nN v r, nD v r)) e1 (low_nd r0) (few_lt rfl)
      obtain ⟨ey4, fy4⟩ := id (ry6.same X2.s)
      refine ⟨_, rfl, .inl ⟨rfl, _, SqL.of X2.hm⟩, _, rfl, y, ey4, _, rfl, fy4, rf_no _ _ (by decide +kernel) (by decide +kernel), y, r, v, rfl, ⟨ey4, fy4⟩, fun zz => absurd zz r0, fun _ H17 w1 j1 s17 => ?_⟩
      have X3 := X2.same s17
      refine ⟨m, _, _, rfl, rfl, X3.hm, (few X3).2, ?_⟩
      have X4 := X3.told (v := (nN v r, nD v r)) j1 (few_lt rfl)
      refine ⟨_, rfl, .inl ⟨rfl, _, SqL.of X4.hl⟩, _, rfl, ta, _, _, _, rfl, rfl, SqT.of (hA6.same X4.s), atI_of (k := 0) rfl, _, rfl, tb, _, _, _, rfl, rfl, SqT.of (hB6.same X4.s), atI_of (k := 1) rfl, _, _, rfl, rfl, bd2 bp bv, _, rfl, ta, _, _, _, rfl, rfl, SqT.of (hA6.same X4.s), atI_of (k := 1) rfl, _, rfl, tb, _, _, _, rfl, rfl, SqT.of (hB6.same X4.s), atI_of (k := 0) rfl, _, _, rfl, rfl, bd2 bq br, p * v, q * r, rfl, Int.mul_ne_zero q0 r0, fun H18 d2 s18 e2 => ?_⟩
      have X5 := X4.same s18
      refine ⟨l, _, _, rfl, rfl, X5.hl, (few X5).1, ?_⟩
      have X6 := X5.due (v := (nN (p * v) (q * r), nD (p * v) (q * r))) e2 (low_nd (Int.mul_ne_zero q0 r0)) (few_lt rfl)
      obtain ⟨ex5, fx5⟩ := id (rx6.same X6.s)
      obtain ⟨ey5, fy5⟩ := id (ry6.same X6.s)
      refine ⟨_, rfl, .inl ⟨rfl, _, SqL.of X6.hm⟩, _, rfl, x, ex5, _, rfl, fx5, rf_no _ _ (by decide +kernel) (by decide +kernel), _, rfl, x, y, p, q, r, v, rfl, ⟨ex5, fx5⟩, ⟨ey5, fy5⟩, q0, v0, bp, bq, br, bv, fun zz => absurd zz r0, fun _ H19 w2 j2 s19 => ?_⟩
      have X7 := X6.same s19
      refine ⟨m, _, _, rfl, rfl, X7.hm, (few X7).2, ?_⟩
      exact ⟨_, _, _, rfl, X7.told (v := (nN (p * v) (q * r), nD (p * v) (q * r))) j2 (few_lt rfl), few_ok rfl⟩
    rintro σ' K0 ⟨ds, ts, vs, rfl, X0, hv⟩
    -- if k >= 0 or a[0] != 0
    refine ⟨fun σ' H' => ∃ (ds ts : List Addr) (vs : List (Int × Int)), σ' = [some (.ref a0), some (.ref ta), some (.ref tb), some (.int (z - 5)), some (.ref x), some (.ref y), some (.ref tm), some (.ref l), some (.ref m), none, none, none] ∧ Two C H6 H' l m ds ts vs vs ∧ vs.length ≤ 7, ?_, ?_⟩
    · have c3p : intBits p ≤ 3000000 := Nat.le_trans cp (by decide)
      have c3q : intBits q ≤ 3000000 := Nat.le_trans cq (by decide)
      have lw : ∀ {n d : Int}, (0 ≤ z - 5 → n = pN p q (z - 5).natAbs ∧ d = pD p q (z - 5).natAbs) → (z - 5 < 0 → n = nN (pD p q (z - 5).natAbs) (pN p q (z - 5).natAbs) ∧ d = nD (pD p q (z - 5).natAbs) (pN p q (z - 5).natAbs)) → (z - 5 < 0 → p ≠ 0) → Low (n, d) := fun {n d} h1 h2 h3 => by
        by_cases hz0 : z - 5 < 0
        · obtain ⟨rfl, rfl⟩ := h2 hz0
          refine low_nd ?_
          intro zz
          have e : pN p q (z - 5).natAbs * q ^ (z - 5).natAbs = p ^ (z - 5).natAbs * pD p q (z - 5).natAbs := n_cross (pow_ne q0 _)
          rw [zz, Int.zero_mul] at e
          rcases Int.mul_eq_zero.mp e.symm with w | w
          · exact pow_ne (h3 hz0) _ w
          · exact Int.ne_of_gt (nD_pos (pow_ne q0 _)) w
        · obtain ⟨rfl, rfl⟩ := h1 (by omega)
          exact low_nd (pow_ne q0 _)
      refine ⟨_, rfl, _, _, rfl, rfl, _, rfl, ite2 (fun c => ?_) (fun c => ⟨_, rfl, ta, _, _, _, rfl, rfl, SqT.of (hA6.same X0.s), atI_of (k := 0) rfl, rfl, _, rfl, ite2 (fun c2 => ?_) (fun _ => ⟨_, _, _, rfl, X0, by omega⟩)⟩)⟩
      · have hk : z - 5 < 0 → p ≠ 0 := fun h => absurd (of_decide_eq_true c) (by omega)
        refine ⟨_, rfl, .inl ⟨rfl, _, SqL.of X0.hl⟩, _, rfl, _, rfl, ta, p, q, z - 5, rfl, hA6.same X0.s, q0, hk, by omega, c3p, c3q, fun L1 e1 n d y1 h1 h2 f1 => ?_⟩
        have X1 := X0.same y1
        refine ⟨l, _, _, rfl, rfl, X1.hl, (few X1).1, ?_⟩
        have X2 := X1.due (v := (n, d)) f1 (lw h1 h2 hk) (by omega)
        obtain ⟨e2, f2⟩ := id (rx6.same X2.s)
        refine ⟨_, rfl, .inl ⟨rfl, _, SqL.of X2.hm⟩, _, rfl, x, e2, _, rfl, f2, rf_no _ _ (by decide +kernel) (by decide +kernel), _, rfl, x, p, q, z - 5, rfl, by omega, by omega, ⟨e2, f2⟩, q0, c3p, c3q, fun h0 L3 e3 f3 y3 => ?_, fun h0 hp0 => absurd hp0 (hk h0), fun h0 hp0 L3 e3 f3 y3 => ?_⟩
        · have X3 := X2.same y3
          have ez : (z - 5).toNat = (z - 5).natAbs := by omega
          have en := h1 h0
          rw [ez] at f3
          have f4 : RatAt C L3 e3 n d := by
            rw [en.1, en.2]
            exact f3
          exact ⟨m, _, _, rfl, rfl, X3.hm, (few X3).2, _, _, _, rfl, X3.told (v := (n, d)) f4 (by omega), by rw [List.length_append]; exact Nat.add_le_add_right hv 1⟩
        · have X3 := X2.same y3
          have ez : (-(z - 5)).toNat = (z - 5).natAbs := by omega
          have en := h2 h0
          rw [ez, (pow_neg hp0 q0 _).1, (pow_neg hp0 q0 _).2] at f3
          have f4 : RatAt C L3 e3 n d := by
            rw [en.1, en.2]
            exact f3
          exact ⟨m, _, _, rfl, rfl, X3.hm, (few X3).2, _, _, _, rfl, X3.told (v := (n, d)) f4 (by omega), by rw [List.length_append]; exact Nat.add_le_add_right hv 1⟩
      · have hk : z - 5 < 0 → p ≠ 0 := fun _ => by simpa using c2
        refine ⟨_, rfl, .inl ⟨rfl, _, SqL.of X0.hl⟩, _, rfl, _, rfl, ta, p, q, z - 5, rfl, hA6.same X0.s, q0, hk, by omega, c3p, c3q, fun L1 e1 n d y1 h1 h2 f1 => ?_⟩
        have X1 := X0.same y1
        refine ⟨l, _, _, rfl, rfl, X1.hl, (few X1).1, ?_⟩
        have X2 := X1.due (v := (n, d)) f1 (lw h1 h2 hk) (by omega)
        obtain ⟨e2, f2⟩ := id (rx6.same X2.s)
        refine ⟨_, rfl, .inl ⟨rfl, _, SqL.of X2.hm⟩, _, rfl, x, e2, _, rfl, f2, rf_no _ _ (by decide +kernel) (by decide +kernel), _, rfl, x, p, q, z - 5, rfl, by omega, by omega, ⟨e2, f2⟩, q0, c3p, c3q, fun h0 L3 e3 f3 y3 => ?_, fun h0 hp0 => absurd hp0 (hk h0), fun h0 hp0 L3 e3 f3 y3 => ?_⟩
        · have X3 := X2.same y3
          have ez : (z - 5).toNat = (z - 5).natAbs := by omega
          have en := h1 h0
          rw [ez] at f3
          have f4 : RatAt C L3 e3 n d := by
            rw [en.1, en.2]
            exact f3
          exact ⟨m, _, _, rfl, rfl, X3.hm, (few X3).2, _, _, _, rfl, X3.told (v := (n, d)) f4 (by omega), by rw [List.length_append]; exact Nat.add_le_add_right hv 1⟩
        · have X3 := X2.same y3
          have ez : (-(z - 5)).toNat = (z - 5).natAbs := by omega
          have en := h2 h0
          rw [ez, (pow_neg hp0 q0 _).1, (pow_neg hp0 q0 _).2] at f3
          have f4 : RatAt C L3 e3 n d := by
            rw [en.1, en.2]
            exact f3
          exact ⟨m, _, _, rfl, rfl, X3.hm, (few X3).2, _, _, _, rfl, X3.told (v := (n, d)) f4 (by omega), by rw [List.length_append]; exact Nat.add_le_add_right hv 1⟩
    rintro σ' K0 ⟨ds, ts, vs, rfl, X0, hv⟩
    -- due.append(_law_add(_law_add(a, b), _law_add(a, minus)))
    refine ⟨_, rfl, .inl ⟨rfl, _, SqL.of X0.hl⟩, _, rfl, _, rfl, ta, tb, p, q, r, v, rfl, hA6.same X0.s, hB6.same X0.s, q0, v0, bp, bq, br, bv, fun L1 e1 y1 f1 => ?_⟩
    have X1 := X0.same y1
    refine ⟨_, rfl, _, rfl, ta, tm, p, q, -r, v, rfl, hA6.same X1.s, hM6.same X1.s, q0, v0, bp, bq, bmr, bv, fun L2 e2 y2 f2 => ?_⟩
    have X2 := X1.same y2
    have w1 : intBits (p * v) ≤ 1048640 := PySem.intBits_mul_le cp cv
    have w2 : intBits (r * q) ≤ 1048640 := PySem.intBits_mul_le cr cq
    have w3 : intBits (-r * q) ≤ 1048640 := PySem.intBits_mul_le cr2 cq
    have w4 : intBits (p * v + r * q) ≤ 1048641 := PySem.intBits_add_le w1 w2
    have w5 : intBits (p * v + -r * q) ≤ 1048641 := PySem.intBits_add_le w1 w3
    have w6 : intBits (q * v) ≤ 128 := PySem.intBits_mul_le cq cv
    have n1 : Bd (nN (p * v + r * q) (q * v)) := Nat.le_trans (bits_nN w4) (by decide)
    have n2 : Bd (nD (p * v + r * q) (q * v)) := Nat.le_trans (bits_nD w6) (by decide)
    have n3 : Bd (nN (p * v + -r * q) (q * v)) := Nat.le_trans (bits_nN w5) (by decide)
    have n4 : Bd (nD (p * v + -r * q) (q * v)) := Nat.le_trans (bits_nD w6) (by decide)
    have d1 := Int.ne_of_gt (nD_pos (n := p * v + r * q) qv)
    have d2 := Int.ne_of_gt (nD_pos (n := p * v + -r * q) qv)
    refine ⟨e1, e2, _, _, _, _, rfl, f1.same y2, f2, d1, d2, n1, n2, n3, n4, fun L3 e3 y3 f3 => ?_⟩
    have X3 := X2.same y3
    refine ⟨l, _, _, rfl, rfl, X3.hl, (few X3).1, ?_⟩
    have X4 := X3.due (v := (_, _)) f3 (low_nd (Int.mul_ne_zero d1 d2)) (by omega)
    -- told.append(total([x, y, x, -y]))
    obtain ⟨ey6, fy6⟩ := id (ry6.same X4.s)
    refine ⟨_, rfl, .inl ⟨rfl, _, SqL.of X4.hm⟩, _, rfl, _, rfl, _, rfl, _, rfl, y, ey6, _, rfl, fy6, y, r, v, rfl, ⟨ey6, fy6⟩, v0, fun L4 e4 f4 y4 => ?_⟩
    rw [(low_id lm.1 lm.2).1, (low_id lm.1 lm.2).2] at f4
    have X5 := X4.same y4
    refine ⟨(by show 4 ≤ sizeLine; decide), fun li ni => ?_⟩
    have y5 := same_upd (o := .lst [.ref x, .ref y, .ref x, .ref e4]) ni
    have X6 := X5.same y5
    refine ⟨li, [(x, p, q), (y, r, v), (x, p, q), (e4, -r, v)], rfl, SqL.of upd_same, ?_, ?_, fun L6 e6 B y6 hO f6 => ?_⟩
    · intro u hu
      simp only [List.mem_cons, List.not_mem_nil, or_false] at hu
      rcases hu with rfl | rfl | rfl | rfl
      · exact rx6.same X6.s
      · exact ry6.same X6.s
      · exact rx6.same X6.s
      · exact f4.same y5
    · refine ⟨few_ok rfl, fun u hu => ?_⟩
      have l1 := dA.pos
      have l2 := dA.le
      have l3 := dB.pos
      have l4 := dB.le
      have l5 : q < 2 ^ 14 := by omega
      have l6 : v < 2 ^ 14 := by omega
      simp only [List.mem_cons, List.not_mem_nil, or_false] at hu
      rcases hu with rfl | rfl | rfl | rfl
      · exact ⟨l1, l5, Nat.le_trans cp (by decide)⟩
      · exact ⟨l3, l6, Nat.le_trans cr (by decide)⟩
      · exact ⟨l1, l5, Nat.le_trans cp (by decide)⟩
      · exact ⟨l3, l6, Nat.le_trans cr2 (by decide)⟩
    have te := tot_is (p := p) (q := q) (r := r) (s := v) dA.pos dB.pos hO
    rw [te.1, te.2] at f6
    have X7 := X6.same y6
    refine ⟨m, _, _, rfl, rfl, X7.hm, (few X7).2, ?_⟩
    have X8 := X7.told (v := (_, _)) f6 (by omega)
    -- due.append((0, 1)); told.append(total(()))
    refine ⟨_, rfl, .inl ⟨rfl, _, SqL.of X8.hl⟩, (by show 2 ≤ sizeLine; decide), fun t9 n9 => ?_⟩
    have X9 := X8.same (same_upd (o := .tup [.int 0, .int 1]) n9)
    refine ⟨l, _, _, rfl, rfl, X9.hl, (few X9).1, ?_⟩
    have X10 := X9.due (v := (0, 1)) (show PairAt _ t9 0 1 from upd_same) ⟨by decide, by decide⟩ (by rw [List.length_append]; exact Nat.lt_of_le_of_lt (Nat.add_le_add_right hv 1) (by decide))
    refine ⟨_, rfl, .inl ⟨rfl, _, SqL.of X10.hm⟩, Nat.zero_le _, fun t11 n11 => ?_⟩
    have X11 := X10.same (same_upd (o := .tup []) n11)
    refine ⟨t11, rfl, SqT.of upd_same, fun L12 e12 y12 f12 => ?_⟩
    have X12 := X11.same y12
    refine ⟨m, _, _, rfl, rfl, X12.hm, (few X12).2, ?_⟩
    have X13 := X12.told (v := (0, 1)) f12 (by rw [List.length_append]; exact Nat.lt_of_le_of_lt (Nat.add_le_add_right hv 1) (by decide))
    -- the loop
    refine ⟨_, rfl, l, _, rfl, .inl (SqL.of X13.hl), _, rfl, by omega, ?_, ?_⟩
    · have := (few X13).1
      rw [show sizeLine = 16777216 from sizeLine_eq] at this
      omega
    refine for_range (lo := 0) (n := _) (fun i σ H' => ∃ w : Option V, σ = [some (.ref a0), some (.ref ta), some (.ref tb), some (.int (z - 5)), some (.ref x), some (.ref y), some (.ref tm), some (.ref l), some (.ref m), w, none, none] ∧ Two C H6 H' l m _ _ _ _) ⟨none, rfl, X13⟩ ?_ ?_
    · rintro i σ H' hi ⟨w, rfl, Y⟩
      rw [List.length_map] at hi
      obtain ⟨d, ⟨n, e⟩, hd1, hd2, hd3⟩ := Paired.at Y.d hi
      obtain ⟨t, ⟨n', e'⟩, ht1, ht2, ht3⟩ := Paired.at (i := i) Y.t (by rw [Y.t.length, ← Y.d.length]; exact hi)
      have ee : (n', e') = (n, e) := by
        rw [hd2] at ht2
        exact (Option.some.inj ht2).symm
      cases ee
      refine ⟨_, rfl, _, rfl, m, _, _, _, rfl, rfl, SqL.of Y.hm, ixs (x := V.ref t) (by rw [List.getElem?_map, ht1]; rfl), t, n, e, rfl, ht3, hd3.2.1, hd3.2.2, fun H2 u su nu hu => ?_⟩
      have Y2 := Y.same su
      refine ⟨_, rfl, _, rfl, l, _, _, _, rfl, rfl, SqL.of Y2.hl, ixs (x := V.ref d) (by rw [List.getElem?_map, hd1]; rfl), ne_pair hu (hd3.1.same su) ⟨_, rfl, iteF ⟨_, rfl, Y2⟩⟩⟩
    rintro σ G0 ⟨w, rfl, Y⟩
    have rX : RatAt C G0 x p q := rx6.same Y.s
    have rY : RatAt C G0 y r v := ry6.same Y.s
    have hA' : PairAt G0 ta p q := hA6.same Y.s
    have hB' : PairAt G0 tb r v := hB6.same Y.s
    clear X13 X12 X11 X10 X9 X8 X7 X6 X5 X4 X3 X2 X1 X0
    -- gap
    refine ⟨_, rfl, ta, _, _, _, rfl, rfl, SqT.of hA', atI_of (k := 0) rfl, _, rfl, tb, _, _, _, rfl, rfl, SqT.of hB', atI_of (k := 1) rfl, _, _, rfl, rfl, bd2 bp bv, _, rfl, tb, _, _, _, rfl, rfl, SqT.of hB', atI_of (k := 0) rfl, _, rfl, ta, _, _, _, rfl, rfl, SqT.of hA', atI_of (k := 1) rfl, _, _, rfl, rfl, bd2 br bq, _, _, rfl, rfl, ?_⟩
    obtain ⟨ix1, jx1⟩ := id rX
    refine ⟨_, rfl, x, ix1, _, rfl, jx1, rf_no _ _ (by decide +kernel) (by decide +kernel), _, rfl, x, y, p, q, r, v, rfl, rX, rY, dA.pos, dB.pos, bp, bq, br, bv, fun G1 z1 => ?_⟩
    refine ⟨_, rfl, _, _, rfl, rfl, .inr ⟨_, rfl, _, rfl, _, _, rfl, rfl, .inr ⟨_, rfl, _, _, rfl, rfl, rfl, _, rfl, ite2 (fun c => absurd (sgn_sub (p * v - r * q)) (by simpa using c)) (fun _ => ?_)⟩⟩⟩
    have rX1 := rX.same z1
    have rY1 := rY.same z1
    have hA1 := hA'.same z1
    have hB1 := hB'.same z1
    obtain ⟨ix2, jx2⟩ := id rX1
    refine ⟨_, rfl, x, ix2, _, rfl, jx2, rf_no _ _ (by decide +kernel) (by decide +kernel), x, p, q, rfl, rX1, ?_⟩
    refine ⟨_, rfl, ta, _, _, _, rfl, rfl, SqT.of hA1, atI_of (k := 0) rfl, _, _, rfl, rfl, .inr ⟨_, rfl, _, rfl, ta, _, _, _, rfl, rfl, SqT.of hA1, atI_of (k := 0) rfl, _, _, rfl, rfl, .inr ⟨_, rfl, _, _, rfl, rfl, rfl, _, rfl, ite2 (fun c => absurd (sgn_sub p) (by simpa using c)) (fun _ => ?_)⟩⟩⟩
    -- low
    refine ⟨_, rfl, x, ix2, _, rfl, jx2, rf_no _ _ (by decide +kernel) (by decide +kernel), x, p, q, rfl, rX1, q0, ?_⟩
    have lo : p.fdiv q = p / q := Int.fdiv_eq_ediv_of_nonneg p (Int.le_of_lt dA.pos)
    have c1 : p.fdiv q * q ≤ p := by
      rw [lo]
      exact Int.ediv_mul_le p q0
    have c2 : p < (p.fdiv q + 1) * q := by
      rw [lo]
      exact Int.lt_ediv_add_one_mul_self p dA.pos
    have bl : intBits (p.fdiv q) ≤ 1048576 := PySem.intBits_fdiv_le cp
    have bl1 : intBits (p.fdiv q + 1) ≤ 1048577 := PySem.intBits_add_le (n := 1048576) bl (Nat.le_trans (show intBits 1 ≤ 64 from PySem.intBits_le_iff.mpr (by decide)) (by decide))
    refine ⟨_, rfl, _, rfl, true, rfl, iteF ?_⟩
    refine ⟨_, rfl, _, rfl, ta, _, _, _, rfl, rfl, SqT.of hA1, atI_of (k := 1) rfl, _, _, rfl, rfl, (by show intBits (p.fdiv q) + intBits q ≤ 134217728; omega), _, rfl, ta, _, _, _, rfl, rfl, SqT.of hA1, atI_of (k := 0) rfl, _, _, rfl, rfl, _, rfl, ite2 (fun _ => ?_) (fun c => absurd (decide_eq_true c1) c)⟩
    refine ⟨_, rfl, _, _, rfl, rfl, _, rfl, ta, _, _, _, rfl, rfl, SqT.of hA1, atI_of (k := 1) rfl, _, _, rfl, rfl, (by show intBits (p.fdiv q + 1) + intBits q ≤ 134217728; omega), _, _, rfl, rfl, _, rfl, ite2 (fun c => absurd c (by simp [c2])) (fun _ => ?_)⟩
    -- whole, is_zero
    refine ⟨_, rfl, x, ix2, _, rfl, jx2, x, p, q, rfl, rX1, _, rfl, ta, _, _, _, rfl, rfl, SqT.of hA1, atI_of (k := 1) rfl, rfl, rfl, _, rfl, ite2 (fun c => absurd (dec_int q 1) (by simpa using c)) (fun _ => ?_)⟩
    refine ⟨_, rfl, x, ix2, _, rfl, jx2, x, p, q, rfl, rX1, _, _, _, _, true, rfl, ClsV.ty "bool", .base (.bl _), kit_ty (by decide +kernel), true, rfl, iteF ?_⟩
    refine ⟨_, rfl, x, ix2, _, rfl, jx2, rf_no _ _ (by decide +kernel) (by decide +kernel), x, p, q, rfl, rX1, _, rfl, ta, _, _, _, rfl, rfl, SqT.of hA1, atI_of (k := 0) rfl, rfl, rfl, _, rfl, ite2 (fun c => absurd (dec_int p 0) (by simpa using c)) (fun _ => ?_)⟩
    refine ⟨_, rfl, x, p, q, rfl, rX1, dA.pos, dA.low, fun G2 u su nu hu => ⟨_, rfl, eq_pair hu (hA1.same su) ⟨_, rfl, iteT ?_⟩⟩⟩
    refine ⟨_, rfl, y, r, v, rfl, rY1.same su, dB.pos, dB.low, fun G3 u3 su3 nu3 hu3 => ⟨_, rfl, eq_pair hu3 ((hB1.same su).same su3) ⟨_, rfl, iteT ?_⟩⟩⟩
    exact ⟨_, rfl, x, p, q, rfl, (rX1.same su).same su3, q0, bp, bq, fun G4 _ => k G4⟩
end
end Ind

set_option Elab.async false
set_option linter.all false
set_option maxRecDepth 100000
set_option maxHeartbeats 4000000
namespace Ind
open PySem PySem.Spec PyProof.Rows L2
open Builtin.Int (intBits)
/-! ### the end of a law's row, where the base is known to let a long division run -/
section
variable {K L : PySem.W.Frag} {h base : Heap}
theorem look_app (K L : PySem.W.Frag) (a : Addr) : (K ++ L).lookup a = (K.lookup a).or (L.lookup a) := List.lookup_append
theorem ext_in (X : K.In h) (hL : ∀ p ∈ L, h.get? p.1 = some p.2) : PySem.W.Frag.In (K ++ L) h := fun a o e => by
  rw [look_app] at e
  cases q : K.lookup a with
  | some u =>
    rw [q] at e
    have e1 : u = o := Option.some.inj e
    exact X a o (e1 ▸ q)
  | none =>
    rw [q] at e
    have e2 : L.lookup a = some o := e
    obtain ⟨l1, l2, e3, _⟩ := List.lookup_eq_some_iff.mp e2
    exact hL (a, o) (by rw [e3]; simp)
theorem ext_at (X : K.In h) (hL : ∀ p ∈ L, h.get? p.1 = some p.2) (B : PySem.W.Frag.In (K ++ L) base) {a : Addr} {o : Obj} (hp : (a, o) ∈ L) : base.get? a = some o := by
  cases q : List.lookup a (K ++ L) with
  | none =>
    rw [look_app] at q
    have q2 : L.lookup a = none := by
      cases z : K.lookup a with
      | some u => rw [z] at q; cases q
      | none => rw [z] at q; exact q
    have := List.lookup_eq_none_iff.mp q2 (a, o) hp
    simp at this
  | some u =>
    have h1 : h.get? a = some u := ext_in X hL a u q
    have h2 := hL (a, o) hp
    rw [h1] at h2
    cases h2
    exact B a o q
theorem app_in (B : PySem.W.Frag.In (K ++ L) base) : K.In base := fun a o e => B a o (by rw [look_app, e]; rfl)
end
/-- the objects that a long division asks for -/
structure Seen (h : Heap) (L : PySem.W.Frag) : Prop where
  at_ : ∀ p ∈ L, h.get? p.1 = some p.2
  no : ∀ p ∈ L, p.2.cls ≠ .type "list" ∨ ∃ es ep, p.2.data = .dict es ep
  far : ∀ base : Heap, (∀ a o, (a, o) ∈ L → base.get? a = some o) → base.NoSeer
theorem seen_of {h : Heap} (x : h.NoSeer) : ∃ L, Seen h L := by
  obtain ⟨⟨m1, ⟨o1, e1, p1, g1, d1, r1⟩, s1, s2⟩, ⟨m2, ⟨o2, e2, p2, g2, d2, r2⟩, s3⟩, ⟨m3, ⟨o3, e3, p3, g3, d3, r3⟩, s4⟩, ⟨m4, bm, ob, ⟨o4, e4, p4, g4, d4, r4⟩, s5, g5, c5, s6⟩⟩ := x
  refine ⟨[(cStatics, o1), (sysModules, o2), (builtinsNs, o3), (mainGlobals, o4), (bm, ob)], ⟨fun p hp => ?_, fun p hp => ?_, fun base k => ?_⟩⟩
  · simp only [List.mem_cons, List.not_mem_nil, or_false] at hp
    rcases hp with rfl | rfl | rfl | rfl | rfl <;> assumption
  · simp only [List.mem_cons, List.not_mem_nil, or_false] at hp
    rcases hp with rfl | rfl | rfl | rfl | rfl
    · exact .inr ⟨_, _, d1⟩
    · exact .inr ⟨_, _, d2⟩
    · exact .inr ⟨_, _, d3⟩
    · exact .inr ⟨_, _, d4⟩
    · exact .inl (by show ob.cls ≠ _; rw [c5]; intro z; exact absurd (Value.type.inj z) (by decide))
  · exact ⟨⟨m1, ⟨o1, e1, p1, k _ _ (by simp), d1, r1⟩, s1, s2⟩, ⟨m2, ⟨o2, e2, p2, k _ _ (by simp), d2, r2⟩, s3⟩, ⟨m3, ⟨o3, e3, p3, k _ _ (by simp), d3, r3⟩, s4⟩, ⟨m4, bm, ob, ⟨o4, e4, p4, k _ _ (by simp), d4, r4⟩, s5, k _ _ (by simp), c5, s6⟩⟩
theorem sql_app {K L : PySem.W.Frag} {h : Heap} (S : Seen h L) {H : Hp} {a : Addr} {xs : List V} (q : SqL (K ++ L) H a xs) : SqL K H a xs := by
  rcases q with q | ⟨o, its, n, lk, c, d, dt, r⟩
  · exact .inl q
  · rw [look_app] at lk
    cases z : K.lookup a with
    | some u =>
      rw [z] at lk
      cases lk
      exact .inr ⟨o, its, n, z, c, d, dt, r⟩
    | none =>
      rw [z] at lk
      have lk2 : L.lookup a = some o := lk
      obtain ⟨l1, l2, e3, _⟩ := List.lookup_eq_some_iff.mp lk2
      rcases S.no (a, o) (by rw [e3]; simp) with w | ⟨es, ep, w⟩
      · exact absurd c w
      · rw [show o.data = _ from w] at dt
        cases dt
/-- a def's promise over a larger written part -/
theorem lift_fn {P : Program} {w : World} {K K' : PySem.W.Frag} {mg : Str → Option Value} {base : Heap} {CX : CXT} {k : Nat} {f : Addr} {fd : FuncData} {ps : List Str} {sp : Sp} (kin : K.In base) (F : FnOk P w K mg base CX k f fd ps sp) : FnOk P w K' mg base CX k f fd ps sp :=
  ⟨F.len, fun A outer s H args us vs Q E hr e0 => F.run A outer s H args us vs Q E hr ⟨e0.frames, ⟨kin, e0.mod.glob, e0.mod.blt, e0.mod.nolimit⟩, e0.bs, e0.bsz, e0.funs, e0.frf, e0.hok, e0.bare⟩⟩
theorem walk_far {l : PySem.W.OpenLaw} {n k : Nat} {q : Program} {loose : List Str} {XP : (Str → Option Value) → Heap → Prop} {YP : World → Heap → Prop} {d : DefRec} {K : Params → PySem.W.Frag} {sp : World → Sp} {x : Str}
    (hn : l.most = some n) (hn2 : n ≤ sizeLine) (hdf : d.params.defaults = []) (hr : Room k callerA) (hi : importsNone q = true)
    (hY : ∀ (w : World) (h : Heap), YP w h → (K w.params).In h)
    (F : ∀ (w : World) (mg : Str → Option Value) (fa : Addr) (h : Heap), (K w.params).In h → h.Ns mainGlobals mg → mg d.name = some (.ref fa) →
      ∃ fd : FuncData, (∀ (s : Shared) (u : Value), BindsTo s fd ⟨[u], []⟩ [(x, u)]) ∧
        ∀ base : Heap, (K w.params).In base → base.Ns mainGlobals mg → base.NoSeer → FnOk l.prog w (K w.params) mg base CX0 k fa fd [x] (sp w))
    (hsp : ∀ (w : World) (H : Hp) (a : Addr) (ns : List Int), ns.length ≤ n → (∀ z ∈ ns, intBits z ≤ 1048576) → SqL (K w.params) H a (ns.map V.int) → sp w [.ref a] H (fun v _ => v = .bl true) fun _ _ _ => False) :
    PySem.W.WalkO q loose XP YP l.row.toRowW d [] (fun f vs => PySem.call f vs) := by
  refine Att.attach_callB hn hdf fun w s₀ s₁ mg mb fa o pm cd doc a vs ns G Y ho hd hcd hmg hobj hints hlen hbits hg => ?_
  have KX := hY w _ Y
  obtain ⟨L, S⟩ := seen_of (G.T.seer hi)
  obtain ⟨fd, hb, hF⟩ := F w mg fa _ KX G.T.g hmg
  refine law_call (K := K w.params ++ L) (CX := CX0) (ext_in KX S.at_) G.T.g G.T.b G.T.builtins G.T.nolimit hg hobj hints (Nat.le_trans hlen hn2) hr (fun base B g => lift_fn (app_in B) (hF base (app_in B) g (S.far base fun a o hp => ext_at KX S.at_ B hp))) hb (fun H _ hS => hsp w H a ns hlen hbits (sql_app S hS)) fun _ _ _ z => z
end Ind

set_option Elab.async false
set_option linter.all false
set_option maxRecDepth 100000
set_option maxHeartbeats 4000000
namespace Ind
open PySem PySem.Spec PyProof.Rows L2
open Builtin.Int (intBits)
theorem all_mk {P : Program} {w : World} {K : PySem.W.Frag} {h : Heap} {mg : Str → Option Value} {fa C Z fA fU fMx fNg fV fO fW2 fCm fSg fFl fW fIz fPo fTl fCf fC fD fG fRt fAd fMu fS fP fDn fPw fNi fL : Addr} (hT : P.given.tree = none) (X : K.In h) (G : h.Ns mainGlobals mg) (hfa : mg "law" = some (.ref fa))
    {ocA kVA dcA pmA cdA ctA : Value} {odA anA : Option Addr} {slA : Array (Option Value)}
    {ocU kVU dcU pmU cdU ctU : Value} {odU anU : Option Addr} {slU : Array (Option Value)}
    {ocMx kVMx dcMx pmMx cdMx ctMx : Value} {odMx anMx : Option Addr} {slMx : Array (Option Value)}
    {ocNg kVNg dcNg pmNg cdNg ctNg : Value} {odNg anNg : Option Addr} {slNg : Array (Option Value)}
    {ocV kVV dcV pmV cdV ctV : Value} {odV anV : Option Addr} {slV : Array (Option Value)}
    {ocO kVO dcO pmO cdO ctO : Value} {odO anO : Option Addr} {slO : Array (Option Value)}
    {ocW2 kVW2 dcW2 pmW2 cdW2 ctW2 : Value} {odW2 anW2 : Option Addr} {slW2 : Array (Option Value)}
    {ocCm kVCm dcCm pmCm cdCm ctCm : Value} {odCm anCm : Option Addr} {slCm : Array (Option Value)}
    {ocSg kVSg dcSg pmSg cdSg ctSg : Value} {odSg anSg : Option Addr} {slSg : Array (Option Value)}
    {ocFl kVFl dcFl pmFl cdFl ctFl : Value} {odFl anFl : Option Addr} {slFl : Array (Option Value)}
    {ocW kVW dcW pmW cdW ctW : Value} {odW anW : Option Addr} {slW : Array (Option Value)}
    {pW : Addr} {restW : List Value}
    {ocIz kVIz dcIz pmIz cdIz ctIz : Value} {odIz anIz : Option Addr} {slIz : Array (Option Value)}
    {ocPo kVPo dcPo pmPo cdPo ctPo : Value} {odPo anPo : Option Addr} {slPo : Array (Option Value)}
    {ocTl kVTl dcTl pmTl cdTl ctTl : Value} {odTl anTl : Option Addr} {slTl : Array (Option Value)}
    {ocCf kVCf dcCf pmCf cdCf ctCf : Value} {odCf anCf : Option Addr} {slCf : Array (Option Value)}
    {ocC kVC dcC pmC cdC ctC : Value} {odC anC : Option Addr} {slC : Array (Option Value)}
    {ocD kVD dcD pmD cdD ctD : Value} {odD anD : Option Addr} {slD : Array (Option Value)}
    {ocG kVG dcG pmG cdG ctG : Value} {odG anG : Option Addr} {slG : Array (Option Value)}
    {ocRt kVRt dcRt pmRt cdRt ctRt : Value} {odRt anRt : Option Addr} {slRt : Array (Option Value)}
    {ocAd kVAd dcAd pmAd cdAd ctAd : Value} {odAd anAd : Option Addr} {slAd : Array (Option Value)}
    {ocMu kVMu dcMu pmMu cdMu ctMu : Value} {odMu anMu : Option Addr} {slMu : Array (Option Value)}
    {ocS kVS dcS pmS cdS ctS : Value} {odS anS : Option Addr} {slS : Array (Option Value)}
    {ocP kVP dcP pmP cdP ctP : Value} {odP anP : Option Addr} {slP : Array (Option Value)}
    {ocDn kVDn dcDn pmDn cdDn ctDn : Value} {odDn anDn : Option Addr} {slDn : Array (Option Value)}
    {ocPw kVPw dcPw pmPw cdPw ctPw : Value} {odPw anPw : Option Addr} {slPw : Array (Option Value)}
    {ocNi kVNi dcNi pmNi cdNi ctNi : Value} {odNi anNi : Option Addr} {slNi : Array (Option Value)}
    {ocL kVL dcL pmL cdL ctL : Value} {odL anL : Option Addr} {slL : Array (Option Value)}
    {ocI kVI dcI pmI cdI ctI cT : Value} {odI anI ddT : Option Addr} {slI slT : Array (Option Value)} {tT : Tok} {nT : Nat} {fI T' : Addr}
    (aA : PySem.W.findIn K (.ref C) "__add__" = some (some (.ref fA)))
    (iA : PySem.W.isFn K (.ref fA) = true)
    (lA : K.lookup fA = some ⟨ocA, odA, .func (PySem.W.fnOf "__add__" "Ratio.__add__" (defArgs s_add) (defBody s_add) (defScope s_add) .none kVA dcA pmA anA cdA ctA), slA⟩)
    (cA : PySem.W.codeIn K cdA "Ratio.__add__" = true)
    (kpA : PySem.W.keepIn K (.ref fA) = true)
    (aU : PySem.W.findIn K (.ref C) "__sub__" = some (some (.ref fU)))
    (iU : PySem.W.isFn K (.ref fU) = true)
    (lU : K.lookup fU = some ⟨ocU, odU, .func (PySem.W.fnOf "__sub__" "Ratio.__sub__" (defArgs s_sub) (defBody s_sub) (defScope s_sub) .none kVU dcU pmU anU cdU ctU), slU⟩)
    (cU : PySem.W.codeIn K cdU "Ratio.__sub__" = true)
    (kpU : PySem.W.keepIn K (.ref fU) = true)
    (aMx : PySem.W.findIn K (.ref C) "__mul__" = some (some (.ref fMx)))
    (iMx : PySem.W.isFn K (.ref fMx) = true)
    (lMx : K.lookup fMx = some ⟨ocMx, odMx, .func (PySem.W.fnOf "__mul__" "Ratio.__mul__" (defArgs s_mul) (defBody s_mul) (defScope s_mul) .none kVMx dcMx pmMx anMx cdMx ctMx), slMx⟩)
    (cMx : PySem.W.codeIn K cdMx "Ratio.__mul__" = true)
    (kpMx : PySem.W.keepIn K (.ref fMx) = true)
    (aNg : PySem.W.findIn K (.ref C) "__neg__" = some (some (.ref fNg)))
    (iNg : PySem.W.isFn K (.ref fNg) = true)
    (lNg : K.lookup fNg = some ⟨ocNg, odNg, .func (PySem.W.fnOf "__neg__" "Ratio.__neg__" (defArgs s_neg) (defBody s_neg) (defScope s_neg) .none kVNg dcNg pmNg anNg cdNg ctNg), slNg⟩)
    (cNg : PySem.W.codeIn K cdNg "Ratio.__neg__" = true)
    (kpNg : PySem.W.keepIn K (.ref fNg) = true)
    (aV : PySem.W.findIn K (.ref C) "inverse" = some (some (.ref fV)))
    (iV : PySem.W.isFn K (.ref fV) = true)
    (lV : K.lookup fV = some ⟨ocV, odV, .func (PySem.W.fnOf "inverse" "Ratio.inverse" (defArgs s_inv) (defBody s_inv) (defScope s_inv) .none kVV dcV pmV anV cdV ctV), slV⟩)
    (cV : PySem.W.codeIn K cdV "Ratio.inverse" = true)
    (kpV : PySem.W.keepIn K (.ref fV) = true)
    (aO : PySem.W.findIn K (.ref C) "over" = some (some (.ref fO)))
    (iO : PySem.W.isFn K (.ref fO) = true)
    (lO : K.lookup fO = some ⟨ocO, odO, .func (PySem.W.fnOf "over" "Ratio.over" (defArgs s_over) (defBody s_over) (defScope s_over) .none kVO dcO pmO anO cdO ctO), slO⟩)
    (cO : PySem.W.codeIn K cdO "Ratio.over" = true)
    (kpO : PySem.W.keepIn K (.ref fO) = true)
    (aW2 : PySem.W.findIn K (.ref C) "power" = some (some (.ref fW2)))
    (iW2 : PySem.W.isFn K (.ref fW2) = true)
    (lW2 : K.lookup fW2 = some ⟨ocW2, odW2, .func (PySem.W.fnOf "power" "Ratio.power" (defArgs s_pow) (defBody s_pow) (defScope s_pow) .none kVW2 dcW2 pmW2 anW2 cdW2 ctW2), slW2⟩)
    (cW2 : PySem.W.codeIn K cdW2 "Ratio.power" = true)
    (kpW2 : PySem.W.keepIn K (.ref fW2) = true)
    (aCm : PySem.W.findIn K (.ref C) "compare" = some (some (.ref fCm)))
    (iCm : PySem.W.isFn K (.ref fCm) = true)
    (lCm : K.lookup fCm = some ⟨ocCm, odCm, .func (PySem.W.fnOf "compare" "Ratio.compare" (defArgs s_cmp) (defBody s_cmp) (defScope s_cmp) .none kVCm dcCm pmCm anCm cdCm ctCm), slCm⟩)
    (cCm : PySem.W.codeIn K cdCm "Ratio.compare" = true)
    (kpCm : PySem.W.keepIn K (.ref fCm) = true)
    (aSg : PySem.W.findIn K (.ref C) "sign" = some (some (.ref fSg)))
    (iSg : PySem.W.isFn K (.ref fSg) = true)
    (lSg : K.lookup fSg = some ⟨ocSg, odSg, .func (PySem.W.fnOf "sign" "Ratio.sign" (defArgs s_sign) (defBody s_sign) (defScope s_sign) .none kVSg dcSg pmSg anSg cdSg ctSg), slSg⟩)
    (cSg : PySem.W.codeIn K cdSg "Ratio.sign" = true)
    (kpSg : PySem.W.keepIn K (.ref fSg) = true)
    (aFl : PySem.W.findIn K (.ref C) "floor" = some (some (.ref fFl)))
    (iFl : PySem.W.isFn K (.ref fFl) = true)
    (lFl : K.lookup fFl = some ⟨ocFl, odFl, .func (PySem.W.fnOf "floor" "Ratio.floor" (defArgs s_floor) (defBody s_floor) (defScope s_floor) .none kVFl dcFl pmFl anFl cdFl ctFl), slFl⟩)
    (cFl : PySem.W.codeIn K cdFl "Ratio.floor" = true)
    (kpFl : PySem.W.keepIn K (.ref fFl) = true)
    (aW : PySem.W.findIn K (.ref C) "whole" = some (some (.ref pW)))
    (gW : PySem.W.specialIn K (.ref pW) "__get__" = some (some (.builtin "property.__get__")))
    (tW : PySem.W.takesIn K (.ref pW) = some true)
    (rW : PySem.W.recIn K pW "property" = some (.ref fW :: restW))
    (lW : K.lookup fW = some ⟨ocW, odW, .func (PySem.W.fnOf "whole" "Ratio.whole" (defArgs s_whole) (defBody s_whole) (defScope s_whole) .none kVW dcW pmW anW cdW ctW), slW⟩)
    (cW : PySem.W.codeIn K cdW "Ratio.whole" = true)
    (kpW : PySem.W.keepIn K (.ref fW) = true)
    (aIz : PySem.W.findIn K (.ref C) "is_zero" = some (some (.ref fIz)))
    (iIz : PySem.W.isFn K (.ref fIz) = true)
    (lIz : K.lookup fIz = some ⟨ocIz, odIz, .func (PySem.W.fnOf "is_zero" "Ratio.is_zero" (defArgs s_isz) (defBody s_isz) (defScope s_isz) .none kVIz dcIz pmIz anIz cdIz ctIz), slIz⟩)
    (cIz : PySem.W.codeIn K cdIz "Ratio.is_zero" = true)
    (kpIz : PySem.W.keepIn K (.ref fIz) = true)
    (aPo : PySem.W.nsIn K mainGlobals "power_of" = some (some (.ref fPo)))
    (lPo : K.lookup fPo = some ⟨ocPo, odPo, .func (PySem.W.fnOf "power_of" "power_of" (defArgs sPowOf) (defBody sPowOf) (defScope sPowOf) .none kVPo dcPo pmPo anPo cdPo ctPo), slPo⟩)
    (cPo : PySem.W.codeIn K cdPo "power_of" = true)
    (kpPo : PySem.W.keepIn K (.ref fPo) = true)
    (aTl : PySem.W.nsIn K mainGlobals "total" = some (some (.ref fTl)))
    (lTl : K.lookup fTl = some ⟨ocTl, odTl, .func (PySem.W.fnOf "total" "total" (defArgs sTot) (defBody sTot) (defScope sTot) .none kVTl dcTl pmTl anTl cdTl ctTl), slTl⟩)
    (cTl : PySem.W.codeIn K cdTl "total" = true)
    (kpTl : PySem.W.keepIn K (.ref fTl) = true)
    (aCf : PySem.W.nsIn K mainGlobals "common_form" = some (some (.ref fCf)))
    (lCf : K.lookup fCf = some ⟨ocCf, odCf, .func (PySem.W.fnOf "common_form" "common_form" (defArgs sCF) (defBody sCF) (defScope sCF) .none kVCf dcCf pmCf anCf cdCf ctCf), slCf⟩)
    (cCf : PySem.W.codeIn K cdCf "common_form" = true)
    (kpCf : PySem.W.keepIn K (.ref fCf) = true)
    (aC : PySem.W.nsIn K mainGlobals "_law_cell" = some (some (.ref fC)))
    (lC : K.lookup fC = some ⟨ocC, odC, .func (PySem.W.fnOf "_law_cell" "_law_cell" (defArgs sCell) (defBody sCell) (defScope sCell) .none kVC dcC pmC anC cdC ctC), slC⟩)
    (cC : PySem.W.codeIn K cdC "_law_cell" = true)
    (kpC : PySem.W.keepIn K (.ref fC) = true)
    (aD : PySem.W.nsIn K mainGlobals "_law_draws" = some (some (.ref fD)))
    (lD : K.lookup fD = some ⟨ocD, odD, .func (PySem.W.fnOf "_law_draws" "_law_draws" (defArgs sDraws) (defBody sDraws) (defScope sDraws) .none kVD dcD pmD anD cdD ctD), slD⟩)
    (cD : PySem.W.codeIn K cdD "_law_draws" = true)
    (kpD : PySem.W.keepIn K (.ref fD) = true)
    (aG : PySem.W.nsIn K mainGlobals "_law_gcd" = some (some (.ref fG)))
    (lG : K.lookup fG = some ⟨ocG, odG, .func (PySem.W.fnOf "_law_gcd" "_law_gcd" (defArgs sGcd) (defBody sGcd) (defScope sGcd) .none kVG dcG pmG anG cdG ctG), slG⟩)
    (cG : PySem.W.codeIn K cdG "_law_gcd" = true)
    (kpG : PySem.W.keepIn K (.ref fG) = true)
    (aRt : PySem.W.nsIn K mainGlobals "_law_rat" = some (some (.ref fRt)))
    (lRt : K.lookup fRt = some ⟨ocRt, odRt, .func (PySem.W.fnOf "_law_rat" "_law_rat" (defArgs sRat) (defBody sRat) (defScope sRat) .none kVRt dcRt pmRt anRt cdRt ctRt), slRt⟩)
    (cRt : PySem.W.codeIn K cdRt "_law_rat" = true)
    (kpRt : PySem.W.keepIn K (.ref fRt) = true)
    (aAd : PySem.W.nsIn K mainGlobals "_law_add" = some (some (.ref fAd)))
    (lAd : K.lookup fAd = some ⟨ocAd, odAd, .func (PySem.W.fnOf "_law_add" "_law_add" (defArgs sAdd) (defBody sAdd) (defScope sAdd) .none kVAd dcAd pmAd anAd cdAd ctAd), slAd⟩)
    (cAd : PySem.W.codeIn K cdAd "_law_add" = true)
    (kpAd : PySem.W.keepIn K (.ref fAd) = true)
    (aMu : PySem.W.nsIn K mainGlobals "_law_mul" = some (some (.ref fMu)))
    (lMu : K.lookup fMu = some ⟨ocMu, odMu, .func (PySem.W.fnOf "_law_mul" "_law_mul" (defArgs sMul) (defBody sMul) (defScope sMul) .none kVMu dcMu pmMu anMu cdMu ctMu), slMu⟩)
    (cMu : PySem.W.codeIn K cdMu "_law_mul" = true)
    (kpMu : PySem.W.keepIn K (.ref fMu) = true)
    (aS : PySem.W.nsIn K mainGlobals "_law_is_integer" = some (some (.ref fS)))
    (lS : K.lookup fS = some ⟨ocS, odS, .func (PySem.W.fnOf "_law_is_integer" "_law_is_integer" (defArgs sIsI) (defBody sIsI) (defScope sIsI) .none kVS dcS pmS anS cdS ctS), slS⟩)
    (cS : PySem.W.codeIn K cdS "_law_is_integer" = true)
    (kpS : PySem.W.keepIn K (.ref fS) = true)
    (aP : PySem.W.nsIn K mainGlobals "_law_pair" = some (some (.ref fP)))
    (lP : K.lookup fP = some ⟨ocP, odP, .func (PySem.W.fnOf "_law_pair" "_law_pair" (defArgs sPair) (defBody sPair) (defScope sPair) .none kVP dcP pmP anP cdP ctP), slP⟩)
    (cP : PySem.W.codeIn K cdP "_law_pair" = true)
    (kpP : PySem.W.keepIn K (.ref fP) = true)
    (aDn : PySem.W.nsIn K mainGlobals "_law_drawn" = some (some (.ref fDn)))
    (lDn : K.lookup fDn = some ⟨ocDn, odDn, .func (PySem.W.fnOf "_law_drawn" "_law_drawn" (defArgs sDrawn) (defBody sDrawn) (defScope sDrawn) .none kVDn dcDn pmDn anDn cdDn ctDn), slDn⟩)
    (cDn : PySem.W.codeIn K cdDn "_law_drawn" = true)
    (kpDn : PySem.W.keepIn K (.ref fDn) = true)
    (aPw : PySem.W.nsIn K mainGlobals "_law_power" = some (some (.ref fPw)))
    (lPw : K.lookup fPw = some ⟨ocPw, odPw, .func (PySem.W.fnOf "_law_power" "_law_power" (defArgs sPower) (defBody sPower) (defScope sPower) .none kVPw dcPw pmPw anPw cdPw ctPw), slPw⟩)
    (cPw : PySem.W.codeIn K cdPw "_law_power" = true)
    (kpPw : PySem.W.keepIn K (.ref fPw) = true)
    (aNi : PySem.W.nsIn K mainGlobals "_law_no_inverse" = some (some (.ref fNi)))
    (lNi : K.lookup fNi = some ⟨ocNi, odNi, .func (PySem.W.fnOf "_law_no_inverse" "_law_no_inverse" (defArgs sNoI) (defBody sNoI) (defScope sNoI) .none kVNi dcNi pmNi anNi cdNi ctNi), slNi⟩)
    (cNi : PySem.W.codeIn K cdNi "_law_no_inverse" = true)
    (kpNi : PySem.W.keepIn K (.ref fNi) = true)
    (aL : PySem.W.nsIn K mainGlobals "law" = some (some (.ref fL)))
    (lL : K.lookup fL = some ⟨ocL, odL, .func (PySem.W.fnOf "law" "law" (defArgs sLaw) (defBody sLaw) (defScope sLaw) .none kVL dcL pmL anL cdL ctL), slL⟩)
    (cL : PySem.W.codeIn K cdL "law" = true)
    (kpL : PySem.W.keepIn K (.ref fL) = true)
    (aI : PySem.W.findIn K (.ref C) "__init__" = some (some (.ref fI)))
    (iI : PySem.W.isFn K (.ref fI) = true)
    (lI : K.lookup fI = some ⟨ocI, odI, .func (PySem.W.fnOf "__init__" "Ratio.__init__" (defArgs sInit) (defBody sInit) (defScope sInit) (.ref T') kVI dcI pmI anI cdI ctI), slI⟩)
    (lT : K.lookup T' = some ⟨cT, ddT, .seq #[.int 1 tT] nT, slT⟩)
    (cI : PySem.W.codeIn K cdI "Ratio.__init__" = true)
    (kpI : PySem.W.keepIn K (.ref fI) = true)
    (gC : PySem.W.nsIn K mainGlobals "Ratio" = some (some (.ref C)))
    (pg : PySem.W.plainGet K C Str.empty = true)
    (hd : PySem.W.hasDictIn K C = true)
    (po : PySem.W.plainOver K C = true)
    (sa : PySem.W.findIn K (.ref C) "__setattr__" = some (some (.builtin "object.__setattr__")))
    (mk : PySem.W.makesIn K C = true)
    (kpC' : PySem.W.keepIn K (.ref C) = true)
    (sf : PySem.W.selfFirst K C = true)
    (nN : PySem.W.findIn K (.ref C) "n" = some none)
    (nD : PySem.W.findIn K (.ref C) "d" = some none)
    (gg : PySem.W.nsIn K mainGlobals "gcd" = some (some (.builtin "math.gcd")))
    (gl : PySem.W.nsIn K mainGlobals "lcm" = some (some (.builtin "math.lcm")))
    (xZ : PySem.W.excIn K Z [.type "ValueError", .type "Exception", .type "BaseException", .type "object"] "ValueError.__new__" = true)
    (gZ : PySem.W.nsIn K mainGlobals "ZeroDivisor" = some (some (.ref Z)))
    (kpZ : PySem.W.keepIn K (.ref Z) = true)
    (bZ : PySem.W.subIn K (.ref Z) (.type "BaseException") = some true)
    (tZ : PySem.W.typeIn K (.ref Z) = some (.type "type"))
    (hZ : PySem.W.hasDictIn K Z = true)
    (sZ : PySem.W.subIn K (.ref Z) (.ref Z) = some true)
    (zlen : PySem.W.nsIn K mainGlobals "len" = some none)
    (zrange : PySem.W.nsIn K mainGlobals "range" = some none)
    (zint : PySem.W.nsIn K mainGlobals "int" = some none)
    (zabs : PySem.W.nsIn K mainGlobals "abs" = some none)
    (zisi : PySem.W.nsIn K mainGlobals "isinstance" = some none)
    (zbool : PySem.W.nsIn K mainGlobals "bool" = some none)
    (zmin : PySem.W.nsIn K mainGlobals "min" = some none)
    (zsum : PySem.W.nsIn K mainGlobals "sum" = some none)
    (ca : PySem.W.findIn K (.ref C) "__class__" = some (some (.builtin "object.__class__")))
    (cn : PySem.W.specialIn K (.builtin "object.__class__") "__get__" = some (some (.builtin "getset_descriptor.__get__")))
    (ct : PySem.W.takesIn K (.builtin "object.__class__") = some true)
    (cm : PySem.W.mroIn K C (.type "object") = some true)
    (ck : PySem.W.kitOne K (.ref C) (.ref C) = some true) :
    ∃ fd : FuncData, (∀ (s : Shared) (v : Value), BindsTo s fd ⟨[v], []⟩ [("script", v)]) ∧ ∀ base : Heap, K.In base → base.Ns mainGlobals mg → base.NoSeer → FnOk P w K mg base CX0 60 fa fd ["script"] (spLaw K) := by
  have e := hfa.symm.trans (PySem.W.mg_of X G aL)
  cases e
  have T : TxL K mg := ⟨PySem.W.mg_none_of X G zlen, PySem.W.mg_none_of X G zrange, PySem.W.mg_none_of X G zint, PySem.W.mg_none_of X G zabs, PySem.W.mg_none_of X G zisi, PySem.W.mg_none_of X G zbool⟩
  have R : TxR K mg C Z := ⟨⟨pg, hd, po, sa⟩, nN, nD, PySem.W.mg_of X G gC, PySem.W.mg_of X G gg, xZ, PySem.W.mg_of X G gZ, kpZ, bZ, tZ⟩
  have I : TxI K C := ⟨ca, cn, ct, cm, ck⟩
  have TZ : TxZ K Z := ⟨PySem.W.exm_ref bZ hZ tZ sZ⟩
  have ml := PySem.W.mg_of X G gl
  have mmin := PySem.W.mg_none_of X G zmin
  have msum := PySem.W.mg_none_of X G zsum
  have FA := fun_mk (st := s_add) lA cA kpA
  have bA := FA.binds (ps := ["self", "other"]) fun _ _ _ _ _ _ us hl => match us, hl with | [_, _], _ => rfl
  have MA : Meth K C "__add__" fA := ⟨aA, iA, kpA⟩
  have FU := fun_mk (st := s_sub) lU cU kpU
  have bU := FU.binds (ps := ["self", "other"]) fun _ _ _ _ _ _ us hl => match us, hl with | [_, _], _ => rfl
  have MU : Meth K C "__sub__" fU := ⟨aU, iU, kpU⟩
  have FMx := fun_mk (st := s_mul) lMx cMx kpMx
  have bMx := FMx.binds (ps := ["self", "other"]) fun _ _ _ _ _ _ us hl => match us, hl with | [_, _], _ => rfl
  have MMx : Meth K C "__mul__" fMx := ⟨aMx, iMx, kpMx⟩
  have FNg := fun_mk (st := s_neg) lNg cNg kpNg
  have bNg := FNg.binds (ps := ["self"]) fun _ _ _ _ _ _ us hl => match us, hl with | [_], _ => rfl
  have MNg : Meth K C "__neg__" fNg := ⟨aNg, iNg, kpNg⟩
  have FV := fun_mk (st := s_inv) lV cV kpV
  have bV := FV.binds (ps := ["self"]) fun _ _ _ _ _ _ us hl => match us, hl with | [_], _ => rfl
  have MV : Meth K C "inverse" fV := ⟨aV, iV, kpV⟩
  have FO := fun_mk (st := s_over) lO cO kpO
  have bO := FO.binds (ps := ["self", "other"]) fun _ _ _ _ _ _ us hl => match us, hl with | [_, _], _ => rfl
  have MO : Meth K C "over" fO := ⟨aO, iO, kpO⟩
  have FW2 := fun_mk (st := s_pow) lW2 cW2 kpW2
  have bW2 := FW2.binds (ps := ["self", "k"]) fun _ _ _ _ _ _ us hl => match us, hl with | [_, _], _ => rfl
  have MW2 : Meth K C "power" fW2 := ⟨aW2, iW2, kpW2⟩
  have FCm := fun_mk (st := s_cmp) lCm cCm kpCm
  have bCm := FCm.binds (ps := ["self", "other"]) fun _ _ _ _ _ _ us hl => match us, hl with | [_, _], _ => rfl
  have MCm : Meth K C "compare" fCm := ⟨aCm, iCm, kpCm⟩
  have FSg := fun_mk (st := s_sign) lSg cSg kpSg
  have bSg := FSg.binds (ps := ["self"]) fun _ _ _ _ _ _ us hl => match us, hl with | [_], _ => rfl
  have MSg : Meth K C "sign" fSg := ⟨aSg, iSg, kpSg⟩
  have FFl := fun_mk (st := s_floor) lFl cFl kpFl
  have bFl := FFl.binds (ps := ["self"]) fun _ _ _ _ _ _ us hl => match us, hl with | [_], _ => rfl
  have MFl : Meth K C "floor" fFl := ⟨aFl, iFl, kpFl⟩
  have FW := fun_mk (st := s_whole) lW cW kpW
  have bW := FW.binds (ps := ["self"]) fun _ _ _ _ _ _ us hl => match us, hl with | [_], _ => rfl
  have FIz := fun_mk (st := s_isz) lIz cIz kpIz
  have bIz := FIz.binds (ps := ["self"]) fun _ _ _ _ _ _ us hl => match us, hl with | [_], _ => rfl
  have MIz : Meth K C "is_zero" fIz := ⟨aIz, iIz, kpIz⟩
  have FPo := fun_mk (st := sPowOf) lPo cPo kpPo
  have bPo := FPo.binds (ps := ["base", "k", "unit"]) fun _ _ _ _ _ _ us hl => match us, hl with | [_, _, _], _ => rfl
  have mPo := PySem.W.mg_of X G aPo
  have FTl := fun_mk (st := sTot) lTl cTl kpTl
  have bTl := FTl.binds (ps := ["numbers"]) fun _ _ _ _ _ _ us hl => match us, hl with | [_], _ => rfl
  have mTl := PySem.W.mg_of X G aTl
  have FCf := fun_mk (st := sCF) lCf cCf kpCf
  have bCf := FCf.binds (ps := ["numbers"]) fun _ _ _ _ _ _ us hl => match us, hl with | [_], _ => rfl
  have mCf := PySem.W.mg_of X G aCf
  have FC := fun_mk (st := sCell) lC cC kpC
  have bC := FC.binds (ps := ["script", "k"]) fun _ _ _ _ _ _ us hl => match us, hl with | [_, _], _ => rfl
  have mC := PySem.W.mg_of X G aC
  have FD := fun_mk (st := sDraws) lD cD kpD
  have bD := FD.binds (ps := ["script", "at", "count", "bound"]) fun _ _ _ _ _ _ us hl => match us, hl with | [_, _, _, _], _ => rfl
  have mD := PySem.W.mg_of X G aD
  have FG := fun_mk (st := sGcd) lG cG kpG
  have bG := FG.binds (ps := ["a", "b"]) fun _ _ _ _ _ _ us hl => match us, hl with | [_, _], _ => rfl
  have mG := PySem.W.mg_of X G aG
  have FRt := fun_mk (st := sRat) lRt cRt kpRt
  have bRt := FRt.binds (ps := ["n", "d"]) fun _ _ _ _ _ _ us hl => match us, hl with | [_, _], _ => rfl
  have mRt := PySem.W.mg_of X G aRt
  have FAd := fun_mk (st := sAdd) lAd cAd kpAd
  have bAd := FAd.binds (ps := ["a", "b"]) fun _ _ _ _ _ _ us hl => match us, hl with | [_, _], _ => rfl
  have mAd := PySem.W.mg_of X G aAd
  have FMu := fun_mk (st := sMul) lMu cMu kpMu
  have bMu := FMu.binds (ps := ["a", "b"]) fun _ _ _ _ _ _ us hl => match us, hl with | [_, _], _ => rfl
  have mMu := PySem.W.mg_of X G aMu
  have FS := fun_mk (st := sIsI) lS cS kpS
  have bS := FS.binds (ps := ["value"]) fun _ _ _ _ _ _ us hl => match us, hl with | [_], _ => rfl
  have mS := PySem.W.mg_of X G aS
  have FP := fun_mk (st := sPair) lP cP kpP
  have bP := FP.binds (ps := ["value"]) fun _ _ _ _ _ _ us hl => match us, hl with | [_], _ => rfl
  have mP := PySem.W.mg_of X G aP
  have FDn := fun_mk (st := sDrawn) lDn cDn kpDn
  have bDn := FDn.binds (ps := ["script", "at"]) fun _ _ _ _ _ _ us hl => match us, hl with | [_, _], _ => rfl
  have mDn := PySem.W.mg_of X G aDn
  have FPw := fun_mk (st := sPower) lPw cPw kpPw
  have bPw := FPw.binds (ps := ["a", "k"]) fun _ _ _ _ _ _ us hl => match us, hl with | [_, _], _ => rfl
  have mPw := PySem.W.mg_of X G aPw
  have FNi := fun_mk (st := sNoI) lNi cNi kpNi
  have bNi := FNi.binds (ps := ["a"]) fun _ _ _ _ _ _ us hl => match us, hl with | [_], _ => rfl
  have mNi := PySem.W.mg_of X G aNi
  have FL := fun_mk (st := sLaw) lL cL kpL
  have mL := PySem.W.mg_of X G aL
  have FI : FunD K "__init__" "Ratio.__init__" (defArgs sInit) (defBody sInit) (defScope sInit) [.int 1] [] fI (PySem.W.fnOf "__init__" "Ratio.__init__" (defArgs sInit) (defBody sInit) (defScope sInit) (.ref T') kVI dcI pmI anI cdI ctI) :=
    ⟨⟨_, _, _, _, _, _, _, _, _, _, rfl, lI, cI, .inr ⟨(by simp), _, _, [.int 1 tT], nT, rfl, lT, rfl, .cons ⟨tT, rfl⟩ .nil⟩, .inl rfl⟩, kpI⟩
  obtain ⟨ds2, v2, b2⟩ := FI.binds1 (ps := ["self", "n", "d"]) 3 1 (by simp) rfl (fun T kV doc pm an cdv ct us its h1 h2 => match us, its, h1, h2 with | [_, _, _], [_], _, _ => ⟨_, rfl, rfl⟩)
  obtain ⟨ds1, v1, b1⟩ := FI.binds1 (ps := ["self", "n", "d"]) 2 0 (by simp) rfl (fun T kV doc pm an cdv ct us its h1 h2 => match us, its, h1, h2 with | [_, _], [_], _, _ => ⟨_, rfl, rfl⟩)
  cases v2
  have PWh : PropOf K C "whole" pW fW := ⟨aW, gW, tW, _, rW⟩
  refine ⟨(PySem.W.fnOf "law" "law" (defArgs sLaw) (defBody sLaw) (defScope sLaw) .none kVL dcL pmL anL cdL ctL), fun s v => .of_eq rfl, fun base _ _ hN => ?_⟩
  have M : MkR P w K mg base C Z fI _ ds1 := ⟨⟨mk, aI, iI, kpC'⟩, ok_init hN hT FI R, b2, b1, v1⟩
  have GRt := ok_rat (P := P) (w := w) hN hT FRt T FG bG mG
  have GV := ok_inv (P := P) (w := w) FV R M
  have GO := ok_over (P := P) (w := w) FO R M
  have GW2 := ok_pow (P := P) (w := w) FW2 bW2 MW2 R M FPo bPo mPo FV bV MV
  exact ok_law FL T R M sf (ok_drawn FDn T FC bC mC FD bD mD GRt kpRt bRt mRt) mDn kpDn bDn (ok_draws FD T FC bC mC) mD kpD bD (ok_addT FAd GRt kpRt bRt mRt) mAd kpAd bAd (ok_mulT FMu GRt kpRt bRt mRt) mMu kpMu bMu GRt mRt kpRt bRt
    (ok_power FPw T GRt kpRt bRt mRt FMu bMu mMu) mPw kpPw bPw (ok_pair FP T R I FS bS mS FG bG mG) mP kpP bP (ok_isI FS T) mS kpS bS (ok_noI FNi R TZ M GV bV MV GO bO MO GW2 bW2 MW2) mNi kpNi bNi
    (ok_totL FTl R M ml msum FCf bCf mCf) mTl kpTl bTl (ok_totT FTl R M ml msum FCf bCf mCf) mTl kpTl bTl
    GV MV bV GO MO bO GW2 MW2 bW2 (ok_cmp FCm R M mmin sf FU bU aU iU FSg bSg MSg) MCm bCm (ok_sign FSg R mmin) MSg bSg (ok_floor hN hT FFl R) MFl bFl (ok_isz FIz R) MIz bIz
    (ok_add FA R M) aA iA bA (ok_sub FU R M) aU iU bU (ok_mul FMx R M) aMx iMx bMx (ok_neg FNg R M) aNg iNg bNg (ok_whole FW R) PWh bW
theorem walk {l : PySem.W.OpenLaw} {q : Program} {loose : List Str} {XP : (Str → Option Value) → Heap → Prop} {YP : World → Heap → Prop} {d : DefRec} {K : Params → PySem.W.Frag} (hn : l.most = some 63) (hdf : d.params.defaults = []) (hi : importsNone q = true)
    (hY : ∀ (w : World) (h : Heap), YP w h → (K w.params).In h)
    (F : ∀ (w : World) (mg : Str → Option Value) (fa : Addr) (h : Heap), (K w.params).In h → h.Ns mainGlobals mg → mg d.name = some (.ref fa) →
      ∃ fd : FuncData, (∀ (s : Shared) (u : Value), BindsTo s fd ⟨[u], []⟩ [("script", u)]) ∧ ∀ base : Heap, (K w.params).In base → base.Ns mainGlobals mg → base.NoSeer → FnOk l.prog w (K w.params) mg base CX0 60 fa fd ["script"] (spLaw (K w.params))) :
    PySem.W.WalkO q loose XP YP l.row.toRowW d [] (fun f vs => PySem.call f vs) :=
  walk_far (n := 63) (k := 60) (x := "script") (sp := fun w => spLaw (K w.params)) hn (by decide) hdf ⟨rfl, by decide, by decide⟩ hi hY F fun _ _ a ns _ hb hS => ⟨a, ns, rfl, hS, hb, fun _ => rfl⟩
end Ind
open PySem PySem.W PyProof.Rows in
set_option maxRecDepth 100000 in
set_option maxHeartbeats 0 in
theorem PySem.Challenge.cw_indicial_k01_arithmetic_holds : PySem.Challenge.rw_indicial_k01_arithmetic.Holds := by
  w_on; o_law; k_head; (case hw => w_witness2)
  k_fill
  refine Ind.walk (l := PySem.Challenge.rw_indicial_k01_arithmetic) rfl rfl (by decide +kernel) (fun w h Y => PySem.W.kIn_of Y) ?F
  case F =>
    intro w mg fa h KX G hmg
    refine' Ind.all_mk rfl KX G hmg ?aA ?iA ?lA ?cA ?kpA ?aU ?iU ?lU ?cU ?kpU ?aMx ?iMx ?lMx ?cMx ?kpMx ?aNg ?iNg ?lNg ?cNg ?kpNg ?aV ?iV ?lV ?cV ?kpV ?aO ?iO ?lO ?cO ?kpO ?aW2 ?iW2 ?lW2 ?cW2 ?kpW2 ?aCm ?iCm ?lCm ?cCm ?kpCm ?aSg ?iSg ?lSg ?cSg ?kpSg ?aFl ?iFl ?lFl ?cFl ?kpFl ?aW ?gW ?tW ?rW ?lW ?cW ?kpW ?aIz ?iIz ?lIz ?cIz ?kpIz ?aPo ?lPo ?cPo ?kpPo ?aTl ?lTl ?cTl ?kpTl ?aCf ?lCf ?cCf ?kpCf ?aC ?lC ?cC ?kpC ?aD ?lD ?cD ?kpD ?aG ?lG ?cG ?kpG ?aRt ?lRt ?cRt ?kpRt ?aAd ?lAd ?cAd ?kpAd ?aMu ?lMu ?cMu ?kpMu ?aS ?lS ?cS ?kpS ?aP ?lP ?cP ?kpP ?aDn ?lDn ?cDn ?kpDn ?aPw ?lPw ?cPw ?kpPw ?aNi ?lNi ?cNi ?kpNi ?aL ?lL ?cL ?kpL ?aI ?iI ?lI ?lT ?cI ?kpI ?gC ?pg ?hd ?po ?sa ?mk ?kpC' ?sf ?nN ?nD ?gg ?gl ?xZ ?gZ ?kpZ ?bZ ?tZ ?hZ ?sZ ?zlen ?zrange ?zint ?zabs ?zisi ?zbool ?zmin ?zsum ?ca ?cn ?ct ?cm ?ck
    (case gC => k_is)
    (case gZ => k_is)
    (case aA => k_is)
    (case iA => k_is)
    (case lA => k_is)
    (case cA => k_is)
    (case kpA => k_is)
    (case aU => k_is)
    (case iU => k_is)
    (case lU => k_is)
    (case cU => k_is)
    (case kpU => k_is)
    (case aMx => k_is)
    (case iMx => k_is)
    (case lMx => k_is)
    (case cMx => k_is)
    (case kpMx => k_is)
    (case aNg => k_is)
    (case iNg => k_is)
    (case lNg => k_is)
    (case cNg => k_is)
    (case kpNg => k_is)
    (case aV => k_is)
    (case iV => k_is)
    (case lV => k_is)
    (case cV => k_is)
    (case kpV => k_is)
    (case aO => k_is)
    (case iO => k_is)
    (case lO => k_is)
    (case cO => k_is)
    (case kpO => k_is)
    (case aW2 => k_is)
    (case iW2 => k_is)
    (case lW2 => k_is)
    (case cW2 => k_is)
    (case kpW2 => k_is)
    (case aCm => k_is)
    (case iCm => k_is)
    (case lCm => k_is)
    (case cCm => k_is)
    (case kpCm => k_is)
    (case aSg => k_is)
    (case iSg => k_is)
    (case lSg => k_is)
    (case cSg => k_is)
    (case kpSg => k_is)
    (case aFl => k_is)
    (case iFl => k_is)
    (case lFl => k_is)
    (case cFl => k_is)
    (case kpFl => k_is)
    (case aW => k_is)
    (case gW => k_is)
    (case tW => k_is)
    (case rW => k_is)
    (case lW => k_is)
    (case cW => k_is)
    (case kpW => k_is)
    (case aIz => k_is)
    (case iIz => k_is)
    (case lIz => k_is)
    (case cIz => k_is)
    (case kpIz => k_is)
    (case aPo => k_is)
    (case lPo => k_is)
    (case cPo => k_is)
    (case kpPo => k_is)
    (case aTl => k_is)
    (case lTl => k_is)
    (case cTl => k_is)
    (case kpTl => k_is)
    (case aCf => k_is)
    (case lCf => k_is)
    (case cCf => k_is)
    (case kpCf => k_is)
    (case aC => k_is)
    (case lC => k_is)
    (case cC => k_is)
    (case kpC => k_is)
    (case aD => k_is)
    (case lD => k_is)
    (case cD => k_is)
    (case kpD => k_is)
    (case aG => k_is)
    (case lG => k_is)
    (case cG => k_is)
    (case kpG => k_is)
    (case aRt => k_is)
    (case lRt => k_is)
    (case cRt => k_is)
    (case kpRt => k_is)
    (case aAd => k_is)
    (case lAd => k_is)
    (case cAd => k_is)
    (case kpAd => k_is)
    (case aMu => k_is)
    (case lMu => k_is)
    (case cMu => k_is)
    (case kpMu => k_is)
    (case aS => k_is)
    (case lS => k_is)
    (case cS => k_is)
    (case kpS => k_is)
    (case aP => k_is)
    (case lP => k_is)
    (case cP => k_is)
    (case kpP => k_is)
    (case aDn => k_is)
    (case lDn => k_is)
    (case cDn => k_is)
    (case kpDn => k_is)
    (case aPw => k_is)
    (case lPw => k_is)
    (case cPw => k_is)
    (case kpPw => k_is)
    (case aNi => k_is)
    (case lNi => k_is)
    (case cNi => k_is)
    (case kpNi => k_is)
    (case aL => k_is)
    (case lL => k_is)
    (case cL => k_is)
    (case kpL => k_is)
    (case aI => k_is)
    (case iI => k_is)
    (case lI => k_is)
    (case lT => k_is)
    (case cI => k_is)
    (case kpI => k_is)
    (case pg => k_is)
    (case hd => k_is)
    (case po => k_is)
    (case sa => k_is)
    (case mk => k_is)
    (case kpC' => k_is)
    (case sf => k_is)
    (case nN => k_is)
    (case nD => k_is)
    (case gg => k_is)
    (case gl => k_is)
    (case xZ => k_exc)
    (case kpZ => k_is)
    (case bZ => k_is)
    (case tZ => k_is)
    (case hZ => k_is)
    (case sZ => k_is)
    (case zlen => k_is)
    (case zrange => k_is)
    (case zint => k_is)
    (case zabs => k_is)
    (case zisi => k_is)
    (case zbool => k_is)
    (case zmin => k_is)
    (case zsum => k_is)
    (case ca => k_is)
    (case cn => k_is)
    (case ct => k_is)
    (case cm => k_is)
    (case ck => kit_is)
#print axioms PySem.Challenge.cw_indicial_k01_arithmetic_holds
