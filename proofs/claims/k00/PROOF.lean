import PyProof.Rows.All
import Wide.All
import OpenK.AllK
import Wide.FinOn
import HandS.ForMost
import HandS.ForExc
import HandS.EndBits
import HandS.Gcd
import HandS.IsInst
import HandS.ExcIs
import HandS.OwnEq
import HandS.Defaults
import HandS.Wide
import HandS.Property
import KE.IntBitsLaws
import HandS.NamedTupSort
import HandS.Codes
import KE.RegKIsAll
import PySem.Challenge.RW_indicial_k00_lowest_terms
set_option Elab.async false
set_option linter.all false
set_option maxRecDepth 100000
set_option maxHeartbeats 4000000
namespace Ind
open PySem PySem.Spec PyProof.Rows L2
open Builtin.Int (intBits)

/-! ### operators over ints of any size -/
/-- what a body must show for // of any size -/
structure Far (X : Cx) : Prop where
  seer : X.base.NoSeer
  tree : X.prog.given.tree = none
  stk : X.stack = X.env :: X.outer
  gen : X.env.scope.isGenerator = false
  co : X.env.scope.isCoroutine = false
  room : Room 40 X.A
theorem op_fdivB {X : Cx} (f : Far X) : OpR X (binaryOp .FloorDiv) (rI (fun _ j => j ≠ 0) fun i j => .int (i.fdiv j)) := by
  intro pins s σ H x y v u Q I rx ry h
  obtain ⟨i, j, rfl, rfl, hc, q⟩ := h
  obtain ⟨t, rfl⟩ := rx
  obtain ⟨t', rfl⟩ := ry
  refine floordiv_int hc ⟨.int (i.fdiv j), H, I.tok _, ⟨_, rfl⟩, q⟩ (.inr (PylongRoom.of I.nolimit ?_ (SeerAt.of (env := X.env) (l := X.outer) (f.seer.keeps I.bk) f.tree ?_ f.gen f.co I.ok.blt I.ok.glob)))
  · have h1 := f.room.dp
    have h2 : Builtin.pylongFrames = 100 := rfl
    omega
  · rw [I.ok.frames, f.stk]
theorem op_mulB {X : Cx} : OpR X (binaryOp .Mult) (rI (fun i j => intBits i + intBits j ≤ 134217728) fun i j => .int (i * j)) :=
  opI fun i j _ _ _ _ _ hc q => mul_int q (IntMulOk.of_le (Nat.le_refl _) (Nat.le_refl _) hc)

/-- tracked objects stay -/
theorem same_rfl {H : Hp} : Same H H := fun _ _ e => e
end Ind

set_option Elab.async false
set_option linter.all false
set_option maxRecDepth 100000
set_option maxHeartbeats 4000000
namespace Ind
open PySem PySem.Spec PyProof.Rows L2
open Builtin.Int (intBits)
def top (i : Nat) : Stmt := PySem.Challenge.pw_indicial_k00_lowest_terms.main.body.getD i (.Pass ⟨0, 0, 0, 0⟩)
abbrev sInit : Stmt := inClass (top 13) 0
/-! ### the divisor with the denominator's sign; lowest terms -/
def cg (n d : Int) : Int := if d < 0 then -((Nat.gcd n.natAbs d.natAbs : Nat) : Int) else ((Nat.gcd n.natAbs d.natAbs : Nat) : Int)
def nN (n d : Int) : Int := n.fdiv (cg n d)
def nD (n d : Int) : Int := d.fdiv (cg n d)
theorem cg_ne {n d : Int} (h : d ≠ 0) : cg n d ≠ 0 := by
  have h1 : 0 < Nat.gcd n.natAbs d.natAbs := Nat.gcd_pos_of_pos_right _ (by omega)
  unfold cg
  split <;> omega
/-! ### a number's fields -/
theorem nd_ : ¬ (("n" : Str) = "d") := by decide +kernel
theorem dn_ : ¬ (("d" : Str) = "n") := by decide +kernel
def rf (a b : Int) : List (Str × V) := putF "d" (.int b) (putF "n" (.int a) [])
theorem rf_eq (a b : Int) : rf a b = ([("n", V.int a), ("d", V.int b)] : List (Str × V)) := by
  show (if ("n" : Str) = "d" then [(("n" : Str), V.int b)] else (("n" : Str), V.int a) :: putF "d" (V.int b) []) = ([("n", V.int a), ("d", V.int b)] : List (Str × V))
  rw [if_neg nd_]
  all_goals rfl
theorem rf_n (a b : Int) : (rf a b).lookup ("n" : Str) = some (.int a) := by
  unfold rf
  rw [lookup_putF, if_neg nd_, lookup_putF, if_pos rfl]
theorem rf_d (a b : Int) : (rf a b).lookup ("d" : Str) = some (.int b) := by
  unfold rf
  rw [lookup_putF, if_pos rfl]
theorem rf_no (a b : Int) {m : Str} (h1 : ¬ m = "d") (h2 : ¬ m = "n") : (rf a b).lookup m = none := by
  unfold rf
  rw [lookup_putF, if_neg h1, lookup_putF, if_neg h2]
  all_goals rfl
def RatAt (C : Addr) (H : Hp) (p : Addr) (a b : Int) : Prop := ∃ dx, H p = some (.ins C dx (rf a b))
theorem RatAt.same {C : Addr} {H H' : Hp} {p : Addr} {a b : Int} (r : RatAt C H p a b) (s : Same H H') : RatAt C H' p a b := let ⟨dx, e⟩ := r; ⟨dx, s _ _ e⟩
/-- what the top says of Ratio and of ZeroDivisor -/
structure TxR (K : PySem.W.Frag) (mg : Str → Option Value) (C Z : Addr) : Prop where
  cl : Cls K C
  nN : NoAttr K C "n"
  nD : NoAttr K C "d"
  mgC : mg "Ratio" = some (.ref C)
  gcd : mg "gcd" = some (.builtin "math.gcd")
  xZ : PySem.W.excIn K Z [.type "ValueError", .type "Exception", .type "BaseException", .type "object"] "ValueError.__new__" = true
  gZ : mg "ZeroDivisor" = some (.ref Z)
  kZ : PySem.W.keepIn K (.ref Z) = true
  bZ : PySem.W.subIn K (.ref Z) (.type "BaseException") = some true
  tZ : PySem.W.typeIn K (.ref Z) = some (.type "type")
def spInit (C Z : Addr) : Sp := fun vs H Q E => ∃ (p dx : Addr) (n d : Int), vs = [.ref p, .int n, .int d] ∧ H p = some (.ins C dx []) ∧ (d = 0 → E (.ref Z) none H) ∧
  (d ≠ 0 → ∀ H' : Hp, RatAt C H' p (nN n d) (nD n d) → (∀ b o, H b = some o → b ≠ p → H' b = some o) → Q .non H')
section
variable {P : Program} {w : World} {K : PySem.W.Frag} {mg : Str → Option Value} {base : Heap} {C Z : Addr}
theorem scI : FnScope ["self", "n", "d", "common"] ["self", "n", "d"] (defScope sInit) := ⟨rfl, rfl, rfl, by decide +kernel, rfl, by decide +kernel, by decide +kernel⟩
theorem ok_init {f : Addr} {fd : FuncData} (hN : base.NoSeer) (hT : P.given.tree = none) (F : FunD K "__init__" "Ratio.__init__" (defArgs sInit) (defBody sInit) (defScope sInit) [.int 1] [] f fd) (T : TxR K mg C Z) :
    FnOk P w K mg base (L2.CX P w) 41 f fd ["self", "n", "d"] (spInit C Z) := by
  refine F.ok (CX := L2.CX P w) (k := 40) scI (fun vs H Q E h => ?_) (fun cdv A outer s H vs Q E hr h => ?_)
  · obtain ⟨p, dx, n, d, rfl, _⟩ := h
    rfl
  · obtain ⟨p, dx, n, d, rfl, hp, kz, k⟩ := h
    have far : Far (cxOf (L2.CX P w) P w K mg base ["self", "n", "d", "common"] "Ratio.__init__" (defScope sInit) f cdv A outer s H E) := ⟨hN, hT, rfl, rfl, rfl, hr⟩
    refine ⟨_, pss_cons (ps_if (pt_cmpR op_eq (pv 2) pe_int (nomark _)) (pss_one (ps_raise rfl (takes_of rfl rfl rfl rfl) (pmk_own PySem.F.excBase_ValueError T.xZ T.gZ T.kZ (raises_own T.bZ T.tZ) rfl))) pss_nil)
      (pss_cons (ps_set (i := 3) scI.nd rfl (Or.inl rfl) (pe_callBfun cr_gcd (by rfl) T.gcd (pa_cons (pv 1) (pa_cons (pv 2) pa_nil))))
      (pss_cons (ps_if (pt_cmpR op_lt (pv 2) pe_int (nomark _)) (pss_one (ps_set (i := 3) scI.nd rfl (Or.inl rfl) (pe_un un_neg (pv 3)))) pss_nil)
      (pss_cons (ps_fld (pv 0) (pe_op (op_fdivB far) (pv 1) (pv 3)) rfl)
      (pss_one (ps_fld (pv 0) (pe_op (op_fdivB far) (pv 2) (pv 3)) rfl))))), ?_⟩
    refine ⟨_, rfl, rfl, _, rfl, ite2 (fun c => ?_) (fun c => ?_)⟩
    · exact kz (by simpa using c)
    · have hd : d ≠ 0 := by simpa using c
      refine ⟨_, rfl, _, rfl, _, _, rfl, ?_⟩
      have put : putF "d" (V.int (d.fdiv (cg n d))) (putF "n" (V.int (n.fdiv (cg n d))) []) = rf (nN n d) (nD n d) := rfl
      have fin : ∀ b o, H b = some o → b ≠ p → (upd (upd H p (.ins C dx (putF "n" (.int (nN n d)) []))) p (.ins C dx (rf (nN n d) (nD n d)))) b = some o := fun b o e hb => by
        rw [upd_ne hb, upd_ne hb]
        exact e
      refine ⟨_, rfl, _, _, rfl, rfl, _, rfl, ite2 (fun c2 => ?_) (fun c2 => ?_)⟩
      · have hneg : d < 0 := by simpa using c2
        have ec : -((Nat.gcd n.natAbs d.natAbs : Nat) : Int) = cg n d := by unfold cg; rw [if_pos hneg]
        refine ⟨_, rfl, _, rfl, _, rfl, _, rfl, _, _, rfl, rfl, by rw [ec]; exact cg_ne hd, _, rfl, p, C, dx, [], rfl, hp, T.cl, T.nN, by decide, ?_⟩
        refine ⟨_, rfl, _, rfl, _, _, rfl, rfl, by rw [ec]; exact cg_ne hd, _, rfl, p, C, dx, _, rfl, upd_same, T.cl, T.nD, (by show 1 < 1000; decide), ?_⟩
        rw [ec]
        exact k hd _ ⟨dx, upd_same⟩ fin
      · have hneg : ¬ d < 0 := by simpa using c2
        have ec : ((Nat.gcd n.natAbs d.natAbs : Nat) : Int) = cg n d := by unfold cg; rw [if_neg hneg]
        refine ⟨_, rfl, _, rfl, _, _, rfl, rfl, by rw [ec]; exact cg_ne hd, _, rfl, p, C, dx, [], rfl, hp, T.cl, T.nN, by decide, ?_⟩
        refine ⟨_, rfl, _, rfl, _, _, rfl, rfl, by rw [ec]; exact cg_ne hd, _, rfl, p, C, dx, _, rfl, upd_same, T.cl, T.nD, (by show 1 < 1000; decide), ?_⟩
        rw [ec]
        exact k hd _ ⟨dx, upd_same⟩ fin
end
end Ind

set_option Elab.async false
set_option linter.all false
set_option maxRecDepth 100000
set_option maxHeartbeats 4000000
namespace Ind
open PySem PySem.Spec PyProof.Rows L2
open Builtin.Int (intBits)
abbrev sCell : Stmt := top 17
abbrev sDraws : Stmt := top 18
abbrev sGcd : Stmt := top 19
abbrev sIsI : Stmt := top 20
abbrev sPair : Stmt := top 21
/-! ### the law's helpers: what each promises -/
def cell (ns : List Int) (k : Nat) : Int := ns.getD k 0
theorem atI_of {α : Type} {xs : List α} {k : Nat} {x : α} (h : xs[k]? = some x) : atI xs ((k : Nat) : Int) = some x := by
  have hk : k < xs.length := (List.getElem?_eq_some_iff.mp h).1
  have h1 : ixN xs.length ((k : Nat) : Int) = some k := by
    unfold ixN
    rw [if_pos (by omega), if_pos (by omega)]
    all_goals rfl
  unfold atI
  rw [h1]
  exact h
def spCellI (K : PySem.W.Frag) : Sp := fun vs H Q _ => ∃ (a : Addr) (ns : List Int) (k : Nat), vs = [.ref a, .int k] ∧ SqL K H a (ns.map V.int) ∧ Q (.int (cell ns k)) H
/-- draws in their range -/
def InR (ds : List Int) (n : Nat) (b : Int) : Prop := ds.length = n ∧ ∀ d ∈ ds, 0 ≤ d ∧ d < b
def spDraws (K : PySem.W.Frag) : Sp := fun vs H Q _ => ∃ (a : Addr) (ns : List Int) (k n : Nat) (b : Int), vs = [.ref a, .int k, .int n, .int b] ∧ SqL K H a (ns.map V.int) ∧ k ≤ 1000 ∧ n ≤ 1000 ∧ 0 < b ∧ b < 1000000 ∧
  ∀ (ds : List Int) (H' : Hp) (p : Addr), InR ds n b → Same H H' → H p = none → H' p = some (.lst (ds.map V.int)) → Q (.ref p) H'
def spGcdI : Sp := fun vs H Q _ => ∃ a b : Int, vs = [.int a, .int b] ∧ Q (.int ((Nat.gcd a.natAbs b.natAbs : Nat) : Int)) H
def spIsI : Sp := fun vs H Q _ => ∃ a : Int, vs = [.int a] ∧ Q (.bl true) H
def spPair (C : Addr) : Sp := fun vs H Q _ => ∃ (p : Addr) (a b : Int), vs = [.ref p] ∧ RatAt C H p a b ∧ 0 < b ∧ Nat.gcd a.natAbs b.natAbs = 1 ∧
  ∀ (H' : Hp) (t : Addr), Same H H' → H t = none → H' t = some (.tup [.int a, .int b]) → Q (.ref t) H'
/-- what the top says of built-ins that the helpers name -/
structure TxL (K : PySem.W.Frag) (mg : Str → Option Value) : Prop where
  len : mg "len" = none
  range : mg "range" = none
  int : mg "int" = none
  abs : mg "abs" = none
  isinstance : mg "isinstance" = none
  bool : mg "bool" = none
theorem same_upd {H : Hp} {p : Addr} {o : HO} (h : H p = none) : Same H (upd H p o) := fun b u e => by
  rw [upd_ne (ne_of_none e h)]
  exact e
section
variable {P : Program} {w : World} {K : PySem.W.Frag} {mg : Str → Option Value} {base : Heap} {C Z : Addr}
theorem scCell : FnScope ["script", "k"] ["script", "k"] (defScope sCell) := ⟨rfl, rfl, rfl, by decide +kernel, rfl, by decide +kernel, by decide +kernel⟩
theorem ok_cell {f : Addr} {fd : FuncData} (F : Fun K "_law_cell" "_law_cell" sCell f fd) (T : TxL K mg) : FnOk P w K mg base CX0 1 f fd ["script", "k"] (spCellI K) := by
  refine F.ok scCell (fun vs H Q E h => ?_) (fun cdv A outer s H vs Q E hr h => ?_)
  · obtain ⟨a, ns, k, rfl, _⟩ := h
    rfl
  · obtain ⟨a, ns, k, rfl, hS, q⟩ := h
    refine ⟨_, pss_cons (ps_if (pt_cmpR op_lt (pv 1) (pe_callB call_len_seq (by rfl) T.len PySem.boot_len (pa_cons (pv 0) pa_nil)) (nomark _)) (pss_one (ps_ret (pe_ix ix_list (pv 0) (pv 1) fun _ _ => rfl))) pss_nil)
      (pss_one (ps_ret pe_int)), ?_⟩
    refine ⟨_, rfl, _, rfl, a, _, rfl, .inl hS, _, _, rfl, rfl, _, rfl, ite2 (fun c => ?_) (fun c => ?_)⟩
    · have hk : k < ns.length := by simpa using c
      refine ⟨_, rfl, _, rfl, a, _, _, _, rfl, rfl, hS, atI_of (x := V.int (cell ns k)) ?_, q⟩
      rw [List.getElem?_map, List.getElem?_eq_getElem hk]
      simp [cell, hk]
    · have hk : ¬ k < ns.length := by simpa using c
      have e : cell ns k = 0 := by
        unfold cell
        rw [List.getD_eq_getElem?_getD, List.getElem?_eq_none (by omega)]
        rfl
      show Q (.int 0) H
      rw [← e]
      exact q
theorem scGcd : FnScope ["a", "b", "first", "second", "rest"] ["a", "b"] (defScope sGcd) := ⟨rfl, rfl, rfl, by decide +kernel, rfl, by decide +kernel, by decide +kernel⟩
theorem abs_nat (i : Int) : (if i < 0 then -i else i) = ((i.natAbs : Nat) : Int) := by split <;> omega
theorem ok_gcd {f : Addr} {fd : FuncData} (F : Fun K "_law_gcd" "_law_gcd" sGcd f fd) (T : TxL K mg) : FnOk P w K mg base CX0 1 f fd ["a", "b"] spGcdI := by
  refine F.ok scGcd (fun vs H Q E h => ?_) (fun cdv A outer s H vs Q E hr h => ?_)
  · obtain ⟨a, b, rfl, _⟩ := h
    rfl
  · obtain ⟨a, b, rfl, q⟩ := h
    refine ⟨_, pss_cons (ps_set (i := 2) scGcd.nd rfl (Or.inl rfl) (pe_callB call_abs (by rfl) T.abs (by decide +kernel) (pa_cons (pv 0) pa_nil)))
      (pss_cons (ps_set (i := 3) scGcd.nd rfl (Or.inl rfl) (pe_callB call_abs (by rfl) T.abs (by decide +kernel) (pa_cons (pv 1) pa_nil)))
      (pss_cons (ps_while PassesOwn.never (pt_cmpR op_ne (pv 3) pe_int (nomark _))
        (pss_cons (ps_set (i := 4) scGcd.nd rfl (Or.inl rfl) (pe_op op_modN (pe_callTy call_int1 (by rfl) T.int (by decide +kernel) (pa_cons (pv 2) pa_nil)) (pv 3)))
        (pss_cons (ps_set (i := 2) scGcd.nd rfl (Or.inl rfl) (pv 3)) (pss_one (ps_set (i := 3) scGcd.nd rfl (Or.inl rfl) (pv 4))))))
      (pss_one (ps_ret (pv 2))))), ?_⟩
    refine ⟨_, rfl, _, rfl, _, rfl, _, rfl, ?_⟩
    rw [abs_nat, abs_nat]
    refine while_by (fun σ H' => H' = H ∧ ∃ (x y : Nat) (v : Option V), σ = [some (.int a), some (.int b), some (.int (x : Int)), some (.int (y : Int)), v] ∧ Nat.gcd x y = Nat.gcd a.natAbs b.natAbs)
      (fun σ _ => match σ[3]? with | some (some (V.int y)) => y.natAbs | _ => 0) ⟨rfl, _, _, none, rfl, rfl⟩ ?_ ?_
    · rintro σ H' ⟨rfl, x, y, v, rfl, hg⟩
      refine ⟨_, rfl, rfl, _, rfl, ite2 (fun c => ?_) (fun c => ?_)⟩
      · have hy : y ≠ 0 := by
          intro z
          subst z
          simp at c
        have em : ((x : Int)).fmod (y : Int) = ((x % y : Nat) : Int) := by
          rw [Int.fmod_eq_emod_of_nonneg _ (by omega)]
          rfl
        refine ⟨_, rfl, .inl ⟨_, rfl, _, rfl, _, _, rfl, rfl, (by show ((y : Nat) : Int) ≠ 0; omega), ?_⟩⟩
        refine ⟨_, rfl, _, rfl, ⟨rfl, y, x % y, some (.int (((x % y : Nat) : Int))), ?_, ?_⟩, ?_⟩
        · rw [← em]
          rfl
        · rw [← hg, Nat.gcd_comm x y, Nat.gcd_rec y x, Nat.gcd_comm]
        · show (((x : Int)).fmod (y : Int)).natAbs < ((y : Nat) : Int).natAbs
          rw [em]
          have := Nat.mod_lt x (Nat.pos_of_ne_zero hy)
          omega
      · have hy : y = 0 := by
          have z : ¬ ¬ (V.int (y : Int) = V.int 0) := by simpa using c
          have z2 : V.int (y : Int) = V.int 0 := Classical.not_not.mp z
          injection z2 with z3
          omega
        subst hy
        rw [Nat.gcd_zero_right] at hg
        refine ⟨_, rfl, ?_⟩
        rw [hg]
        exact q
    · rintro σ H' R R' hR ⟨v, e1, e2, b1, e3, h3⟩
      exact ⟨v, e1, e2, b1, e3, hR _ _ h3⟩
end
end Ind

set_option Elab.async false
set_option linter.all false
set_option maxRecDepth 100000
set_option maxHeartbeats 4000000
namespace Ind
open PySem PySem.Spec PyProof.Rows L2
open Builtin.Int (intBits)
/-- what isinstance asks of Ratio as the value's class -/
structure TxI (K : PySem.W.Frag) (C : Addr) : Prop where
  ha : PySem.W.findIn K (.ref C) "__class__" = some (some (.builtin "object.__class__"))
  hn : PySem.W.specialIn K (.builtin "object.__class__") "__get__" = some (some (.builtin "getset_descriptor.__get__"))
  ht : PySem.W.takesIn K (.builtin "object.__class__") = some true
  hm : PySem.W.mroIn K C (.type "object") = some true
  kC : PySem.W.kitOne K (.ref C) (.ref C) = some true
section
variable {P : Program} {w : World} {K : PySem.W.Frag} {mg : Str → Option Value} {base : Heap} {C Z : Addr}
theorem scIsI : FnScope ["value"] ["value"] (defScope sIsI) := ⟨rfl, rfl, rfl, by decide +kernel, rfl, by decide +kernel, by decide +kernel⟩
theorem ok_isI {f : Addr} {fd : FuncData} (F : Fun K "_law_is_integer" "_law_is_integer" sIsI f fd) (T : TxL K mg) : FnOk P w K mg base CX0 1 f fd ["value"] spIsI := by
  refine F.ok scIsI (fun vs H Q E h => ?_) (fun cdv A outer s H vs Q E hr h => ?_)
  · obtain ⟨a, rfl, _⟩ := h
    rfl
  · obtain ⟨a, rfl, q⟩ := h
    refine ⟨_, pss_one (ps_ret (pe_and (pe_callB call_isi (by rfl) T.isinstance (by decide +kernel) (pa_cons (pv 0) (pa_cons (pe_bltn (v := .ty "int") (by rfl) T.int (by decide +kernel) rfl) pa_nil)))
      (pe_one (pe_not (pe_callB call_isi (by rfl) T.isinstance (by decide +kernel) (pa_cons (pv 0) (pa_cons (pe_bltn (v := .ty "bool") (by rfl) T.bool (by decide +kernel) rfl) pa_nil))))))), ?_⟩
    refine ⟨_, rfl, _, _, _, _, true, rfl, ClsV.ty "int", .base (.int a), kit_ty (by decide +kernel), true, rfl, ?_⟩
    refine iteT ⟨_, rfl, _, _, _, _, false, rfl, ClsV.ty "bool", .base (.int a), kit_ty (by decide +kernel), false, rfl, q⟩
theorem scPair : FnScope ["value"] ["value"] (defScope sPair) := ⟨rfl, rfl, rfl, by decide +kernel, rfl, by decide +kernel, by decide +kernel⟩
theorem ok_pair {f fI fG : Addr} {fd fdI fdG : FuncData} (F : Fun K "_law_pair" "_law_pair" sPair f fd) (T : TxL K mg) (R : TxR K mg C Z) (I : TxI K C)
    (FI : Fun K "_law_is_integer" "_law_is_integer" sIsI fI fdI) (bI : Binds K fdI ["value"] []) (gI : mg "_law_is_integer" = some (.ref fI))
    (FG : Fun K "_law_gcd" "_law_gcd" sGcd fG fdG) (bG : Binds K fdG ["a", "b"] []) (gG : mg "_law_gcd" = some (.ref fG)) : FnOk P w K mg base CX0 2 f fd ["value"] (spPair C) := by
  have GI : FnOk P w K mg base CX0 1 fI fdI ["value"] spIsI := ok_isI FI T
  have GG : FnOk P w K mg base CX0 1 fG fdG ["a", "b"] spGcdI := ok_gcd FG T
  refine F.ok scPair (fun vs H Q E h => ?_) (fun cdv A outer s H vs Q E hr h => ?_)
  · obtain ⟨p, a, b, rfl, _⟩ := h
    rfl
  · obtain ⟨p, a, b, rfl, ⟨dx, hp⟩, hb, hg, k⟩ := h
    refine ⟨_, pss_cons (ps_if (PW.pt (pw_or (pt_not (pt_val (pe_callB call_isi (by rfl) T.isinstance (by decide +kernel) (pa_cons (pv 0) (pa_cons (pe_glob (v := .ref C) rfl R.mgC rfl) pa_nil)))))
        (pw_or (pt_not (pt_val (pe_call GI hr (by rfl) gI FI.kp bI .nil pass0 (pa_cons (pe_fld (pv 0) rfl) pa_nil))))
        (pw_or1 (pt_not (pt_val (pe_call GI hr (by rfl) gI FI.kp bI .nil pass0 (pa_cons (pe_fld (pv 0) rfl) pa_nil)))))))) (pss_one (ps_ret pe_non)) pss_nil)
      (pss_cons (ps_if (PW.pt (pw_or (pt_cmpR op_lt (pe_fld (pv 0) rfl) pe_int (nomark _)) (pw_or1 (pt_cmpR op_ne (pe_call GG hr (by rfl) gG FG.kp bG .nil pass0 (pa_cons (pe_fld (pv 0) rfl) (pa_cons (pe_fld (pv 0) rfl) pa_nil))) pe_int (nomark _)))))
        (pss_one (ps_ret pe_non)) pss_nil)
      (pss_one (ps_ret (pe_tup (pa_cons (pe_fld (pv 0) rfl) (pa_cons (pe_fld (pv 0) rfl) pa_nil)))))), ?_⟩
    have hne : ¬ b < 1 := by omega
    refine ⟨_, rfl, _, _, _, _, true, rfl, ClsV.own C, .base (.ins hp R.cl I.ha I.hn I.ht I.hm), I.kC, true, rfl, ?_⟩
    refine iteF ⟨_, rfl, p, C, dx, _, _, rfl, hp, R.cl, R.nN, rf_n _ _, a, rfl, true, rfl, ?_⟩
    refine iteF ⟨_, rfl, p, C, dx, _, _, rfl, hp, R.cl, R.nD, rf_d _ _, b, rfl, true, rfl, iteF ?_⟩
    refine ⟨_, rfl, p, C, dx, _, _, rfl, hp, R.cl, R.nD, rf_d _ _, _, _, rfl, rfl, _, rfl, ite2 (fun c => absurd (of_decide_eq_true c) hne) (fun c => ?_)⟩
    refine ⟨_, rfl, p, C, dx, _, _, rfl, hp, R.cl, R.nN, rf_n _ _, _, rfl, p, C, dx, _, _, rfl, hp, R.cl, R.nD, rf_d _ _, a, b, rfl, rfl, _, rfl, ?_⟩
    rw [hg]
    refine iteF ⟨_, rfl, p, C, dx, _, _, rfl, hp, R.cl, R.nN, rf_n _ _, _, rfl, p, C, dx, _, _, rfl, hp, R.cl, R.nD, rf_d _ _, (by show 2 ≤ sizeLine; decide), fun t ht => ?_⟩
    exact k _ t (same_upd ht) ht upd_same
end
end Ind

set_option Elab.async false
set_option linter.all false
set_option maxRecDepth 100000
set_option maxHeartbeats 4000000
namespace Ind
open PySem PySem.Spec PyProof.Rows L2
open Builtin.Int (intBits)
structure DrSt (H H' : Hp) (l : Addr) (ds : List Int) (i : Nat) (b : Int) : Prop where
  s : Same H H'
  n : H l = none
  at_ : H' l = some (.lst (ds.map V.int))
  r : InR ds i b
theorem DrSt.push {H H' : Hp} {l : Addr} {ds : List Int} {i : Nat} {b z : Int} (x : DrSt H H' l ds i b) (h0 : 0 ≤ z) (h1 : z < b) : DrSt H (upd H' l (.lst (ds.map V.int ++ [.int z]))) l (ds ++ [z]) (i + 1) b where
  s := fun c o e => by
    have hc : c ≠ l := ne_of_none e x.n
    rw [upd_ne hc]
    exact x.s c o e
  n := x.n
  at_ := by
    rw [upd_same, List.map_append]
    rfl
  r := by
    refine ⟨by rw [List.length_append, x.r.1]; rfl, fun d hd => ?_⟩
    rcases List.mem_append.mp hd with h | h
    · exact x.r.2 d h
    · have e : d = z := by simpa using h
      subst e
      exact ⟨h0, h1⟩
theorem fmod_in {x b : Int} (h : 0 < b) : 0 ≤ x.fmod b ∧ x.fmod b < b := ⟨Int.fmod_nonneg_of_pos x h, Int.fmod_lt_of_pos x h⟩
section
variable {P : Program} {w : World} {K : PySem.W.Frag} {mg : Str → Option Value} {base : Heap} {C Z : Addr}
theorem scDr : FnScope ["script", "at", "count", "bound", "cell", "out", "k", "number", "mixed"] ["script", "at", "count", "bound"] (defScope sDraws) := ⟨rfl, rfl, rfl, by decide +kernel, rfl, by decide +kernel, by decide +kernel⟩
theorem ok_draws {f fC : Addr} {fd fdC : FuncData} (F : Fun K "_law_draws" "_law_draws" sDraws f fd) (T : TxL K mg) (FC : Fun K "_law_cell" "_law_cell" sCell fC fdC) (bC : Binds K fdC ["script", "k"] []) (gC : mg "_law_cell" = some (.ref fC)) :
    FnOk P w K mg base CX0 2 f fd ["script", "at", "count", "bound"] (spDraws K) := by
  have GC : FnOk P w K mg base CX0 1 fC fdC ["script", "k"] (spCellI K) := ok_cell FC T
  refine F.ok scDr (fun vs H Q E h => ?_) (fun cdv A outer s H vs Q E hr h => ?_)
  · obtain ⟨a, ns, k, n, b, rfl, _⟩ := h
    rfl
  · obtain ⟨a, ns, k, n, b, rfl, hS, hk, hn, hb, hb2, q⟩ := h
    refine ⟨_, pss_cons (ps_set (i := 4) scDr.nd rfl (Or.inl rfl) (pe_call GC hr (by rfl) gC FC.kp bC .nil pass0 (pa_cons (pv 0) (pa_cons (pv 1) pa_nil))))
      (pss_cons (ps_set (i := 5) scDr.nd rfl (Or.inl rfl) (pe_lst pa_nil))
      (pss_cons (ps_if (pt_cmpR op_ge (pv 4) (pe_op op_pow pe_int pe_int) (nomark _))
        (pss_cons (ps_for PassesOwn.never rfl (pi_range1 (by rfl) T.range (pa_cons (pv 2) pa_nil)) (pg_name (i := 6) scDr.nd rfl (Or.inl rfl))
          (pss_cons (ps_expr (pe_bm PySem.F.plainAttrs_list PySem.F.slot_list_append PySem.F.type_list_append mt_append (pv 5) (pa_cons (pe_op op_modN (pe_callTy call_int1 (by rfl) T.int (by decide +kernel) (pa_cons (pv 4) pa_nil)) (pv 3)) pa_nil)))
          (pss_one (ps_set (i := 4) scDr.nd rfl (Or.inl rfl) (pe_op op_fdivN (pe_callTy call_int1 (by rfl) T.int (by decide +kernel) (pa_cons (pv 4) pa_nil)) (pv 3))))))
        (pss_one (ps_ret (pv 5)))) pss_nil)
      (pss_cons (ps_set (i := 7) scDr.nd rfl (Or.inl rfl) (pe_op op_add (pe_op op_add (pe_op op_modN (pe_callTy call_int1 (by rfl) T.int (by decide +kernel) (pa_cons (pv 4) pa_nil)) pe_int) (pe_op op_mul pe_int (pv 1))) pe_int))
      (pss_cons (ps_for PassesOwn.never rfl (pi_range1 (by rfl) T.range (pa_cons (pv 2) pa_nil)) (pg_name (i := 6) scDr.nd rfl (Or.inl rfl))
          (pss_cons (ps_set (i := 7) scDr.nd rfl (Or.inl rfl) (pe_op op_modN (pe_callTy call_int1 (by rfl) T.int (by decide +kernel) (pa_cons (pe_op op_add (pe_op op_add (pe_op op_mul (pv 7) pe_int) (pe_op op_mul pe_int (pv 6))) (pv 1)) pa_nil)) pe_int))
          (pss_cons (ps_set (i := 8) scDr.nd rfl (Or.inl rfl) (pe_op op_modN (pe_callTy call_int1 (by rfl) T.int (by decide +kernel) (pa_cons (pe_op op_add (pe_op op_add (pe_op op_mul (pv 7) pe_int) (pe_op op_mul pe_int (pv 6))) pe_int) pa_nil)) pe_int))
          (pss_one (ps_expr (pe_bm PySem.F.plainAttrs_list PySem.F.slot_list_append PySem.F.type_list_append mt_append (pv 5) (pa_cons (pe_op op_modN (pe_callTy call_int1 (by rfl) T.int (by decide +kernel) (pa_cons (pv 8) pa_nil)) (pv 3)) pa_nil)))))))
      (pss_one (ps_ret (pv 5))))))), ?_⟩
    refine ⟨_, rfl, _, rfl, a, ns, k, rfl, hS, Nat.zero_le _, fun l hl => ?_⟩
    have d0 : DrSt H (upd H l (.lst [])) l [] 0 b := ⟨same_upd hl, hl, upd_same, rfl, fun d hd => nomatch hd⟩
    have hlen : ∀ {ds : List Int} {i : Nat}, InR ds i b → i < n → (ds.map V.int).length < sizeLine := fun {ds i} r hi => by
      rw [List.length_map, r.1]
      exact Nat.lt_of_lt_of_le (Nat.lt_of_lt_of_le hi hn) (by decide)
    have bnd : b ≠ 0 ∧ b.natAbs < 1073741824 := ⟨by omega, by omega⟩
    refine ⟨_, rfl, _, _, rfl, rfl, ⟨by decide, by decide, by decide⟩, _, _, rfl, rfl, _, rfl, ite2 (fun _ => ?_) (fun _ => ?_)⟩
    · refine ⟨_, rfl, (n : Int), rfl, by omega, by omega, for_range (lo := 0) (n := n) (fun i σ H' => ∃ (c : Int) (ds : List Int) (kv : Option V), σ = [some (.ref a), some (.int k), some (.int n), some (.int b), some (.int c), some (.ref l), kv, none, none] ∧ DrSt H H' l ds i b)
        ⟨_, [], none, rfl, d0⟩ ?_ ?_⟩
      · rintro i σ H' hi ⟨c, ds, kv, rfl, D⟩
        have hm := fmod_in (x := c) hb
        refine ⟨_, rfl, .inl ⟨rfl, _, SqL.of D.at_⟩, _, rfl, .inl ⟨_, rfl, _, rfl, _, _, rfl, rfl, bnd.1, l, _, _, rfl, rfl, D.at_, hlen D.r hi, ?_⟩⟩
        refine ⟨_, rfl, .inl ⟨_, rfl, _, rfl, _, _, rfl, rfl, bnd, ?_⟩⟩
        exact ⟨_, _, _, rfl, D.push hm.1 hm.2⟩
      · rintro σ H' ⟨c, ds, kv, rfl, D⟩
        exact ⟨_, rfl, q ds H' l D.r D.s D.n D.at_⟩
    · have r31 : ∀ x : Int, 0 ≤ x.fmod 2147483647 ∧ x.fmod 2147483647 < 2147483647 := fun x => fmod_in (by decide)
      have hz := r31 (cell ns k)
      refine ⟨_, rfl, .inl ⟨_, rfl, _, _, rfl, rfl, (by show (2147483647 : Int) ≠ 0; decide), _, rfl, _, _, rfl, rfl, .inl ⟨by decide, by decide⟩, _, _, rfl, rfl, _, _, rfl, rfl, ?_⟩⟩
      refine ⟨_, rfl, (n : Int), rfl, by omega, by omega, for_range (lo := 0) (n := n) (fun i σ H' => ∃ (z : Int) (ds : List Int) (kv mv : Option V), σ = [some (.ref a), some (.int k), some (.int n), some (.int b), some (.int (cell ns k)), some (.ref l), kv, some (.int z), mv] ∧ (0 ≤ z ∧ z < 2 ^ 40) ∧ DrSt H H' l ds i b)
        ⟨_, [], none, none, rfl, ⟨by omega, by omega⟩, d0⟩ ?_ ?_⟩
      · rintro i σ H' hi ⟨z, ds, kv, mv, rfl, hz, D⟩
        have hm : ∀ x : Int, _ := fun x => fmod_in (x := x) hb
        refine ⟨_, rfl, _, _, rfl, rfl, .inr ⟨by decide, by decide⟩, _, rfl, _, _, rfl, rfl, .inl ⟨by decide, by decide⟩, _, _, rfl, rfl, _, rfl, _, _, rfl, rfl, .inl ⟨_, rfl, _, _, rfl, rfl, (by show (2147483647 : Int) ≠ 0; decide), ?_⟩⟩
        refine ⟨_, rfl, _, _, rfl, rfl, .inr ⟨by decide, by decide⟩, _, rfl, _, _, rfl, rfl, .inl ⟨by decide, by decide⟩, _, _, rfl, rfl, _, _, rfl, rfl, .inl ⟨_, rfl, _, _, rfl, rfl, (by show (2147483629 : Int) ≠ 0; decide), ?_⟩⟩
        refine ⟨_, rfl, .inl ⟨rfl, _, SqL.of D.at_⟩, _, rfl, .inl ⟨_, rfl, _, rfl, _, _, rfl, rfl, bnd.1, l, _, _, rfl, rfl, D.at_, hlen D.r hi, ?_⟩⟩
        have hw := r31 (z * 48271 + 11 * (0 + (i : Int)) + (k : Int))
        exact ⟨_, _, _, _, rfl, ⟨hw.1, by omega⟩, D.push (hm _).1 (hm _).2⟩
      · rintro σ H' ⟨z, ds, kv, mv, rfl, hz, D⟩
        exact ⟨_, rfl, q ds H' l D.r D.s D.n D.at_⟩
end
end Ind

set_option Elab.async false
set_option linter.all false
set_option maxRecDepth 100000
set_option maxHeartbeats 4000000
namespace Ind
open PySem PySem.Spec PyProof.Rows L2
section
variable {prog : Program} {w : World} {A : Around} {E : Value → Shared → Prop} {s : Shared} {K : PySem.W.Frag} {x C f : Addr} {ox : Obj} {od : Option Obj} {b tb : Value}
/-- object.__ne__ over an own __eq__ -/
theorem entry_neK {Q : Fin → Shared → Prop} (hu : A.units < cLine) (X : K.In s.heap) (I : PySem.W.InstAt s.heap x ox C od) (he : PySem.W.findIn K (.ref C) "__eq__" = some (some (.ref f))) (hf : PySem.W.isFn K (.ref f) = true)
    (h : wpAny (model prog w) A (call (.ref f) [.ref x, b]) (fun v s' => ∃ r, v = .bool r ∧ Q (.done (.ret (.bool (!r)))) s') E s) :
    wpAny (model prog w) A (Builtin.«object.__ne__» ⟨[.ref x, b], []⟩) Q E s := by
  unfold Builtin.«object.__ne__»
  refine wpAny_bind (wpAny_of_eq (a := ((Value.ref x : Value), [b])) (by first | rfl | (simp only [slotArgs]; rfl)) ?_)
  dsimp only
  refine wpAny_bind (wpAny_cRoomFor hu ?_)
  refine wpAny_bind (m := callSpecialIfBound? (.ref x) (Str.ofString "__eq__") [b]) (PySem.W.ifBound_K X I he hf (wpAny_mono h (fun v s' hv => ?_) fun _ _ e => e))
  obtain ⟨r, rfl, q⟩ := hv
  dsimp only
  exact wpAny_bind (wpAny_truthy_bool (wpAny_pure q))
theorem cmp_neK {Q : Value → Shared → Prop} (hu : A.units + 1 < cLine) (X : K.In s.heap) (I : PySem.W.InstAt s.heap x ox C od) (hb : PySem.W.Looks (model prog w) s.heap (typeOf b) tb) (hn : PySem.W.notFirst K C tb = true)
    (hne : PySem.W.findIn K (.ref C) "__ne__" = some (some (.builtin "object.__ne__"))) (hm : PySem.W.mroIn K C (.type "object") = some true) (he : PySem.W.findIn K (.ref C) "__eq__" = some (some (.ref f))) (hf : PySem.W.isFn K (.ref f) = true)
    (h : wpAny (model prog w) A.in1 (call (.ref f) [.ref x, b]) (fun v s' => ∃ r, v = .bool r ∧ Q (.bool (!r)) s') E s) : wpAny (model prog w) A (richCompare .NotEq (.ref x) b) Q E s := by
  have one : wpAny (model prog w) A (tryCompare (.ref x) "__ne__" b) (fun r s' => ∃ v, r = some v ∧ Q v s') E s := by
    unfold tryCompare
    refine wpAny_bind (NtL.csib (s := s) (id := "object.__ne__") (I.type.andThen (PySem.W.looks_findIn X hne)) (F.cmp_object.ne.bind _) ?_)
    refine wpAny_call (codeAny_call_builtin F.cmp_object.ne.plain F.cmpEntry_ne (PySem.W.check_slot F.cmpKind_ne F.cmpSplit_ne (I.type.andThen (PySem.W.looks_mroIn X hm)) (F.cmpArgs_ne _ _) ?_))
    refine entry_neK (A := A.in1) hu X I he hf (wpAny_mono h (fun v s' hv => ?_) fun _ _ e => e)
    obtain ⟨r, rfl, q⟩ := hv
    exact ⟨r, rfl, wpAny_pure ⟨_, rfl, q⟩⟩
  unfold richCompare
  simp only [oneThing_ref]
  refine wpAny_holding (wpAny_bind (wpAny_cRoomFor (by omega) ?_))
  refine wpAny_bind (I.type.here (wpAny_bind (hb.here ?_)))
  split
  · rename_i q
    have e : PySem.W.subIn K tb (.ref C) = some false := by
      rcases Bool.or_eq_true_iff.mp hn with e | e
      · rw [beq_iff_eq.mp e] at q
        simp at q
      · exact beq_iff_eq.mp e
    refine wpAny_bind ((PySem.W.looks_subIn X e).here ?_)
    simp only [Bool.false_eq_true, if_false]
    refine wpAny_bind (wpAny_mono one (fun r s' z => ?_) fun _ _ e => e)
    obtain ⟨v, rfl, hq⟩ := z
    exact wpAny_pure hq
  · refine wpAny_bind (wpAny_pure ?_)
    simp only [Bool.false_eq_true, if_false]
    refine wpAny_bind (wpAny_mono one (fun r s' z => ?_) fun _ _ e => e)
    obtain ⟨v, rfl, hq⟩ := z
    exact wpAny_pure hq
end
/-! ### == and != of an own instance, over values -/
section
variable {X : Cx} {CX : CXT} {n : Nat} {C f : Addr} {fd : FuncData} {ps : List Str} {sp : Sp} {E : XK}
/-- x == y, x an instance of the class at C whose own == is at f and answers by True or False; y anything whose type is told -/
def rEqO (K : PySem.W.Frag) (C : Addr) (neg : Bool) (sp : Sp) (E : XK) : R2 := fun x y H Q => ∃ a dx fs t, x = .ref a ∧ H a = some (.ins C dx fs) ∧ TyX K H y t ∧ PySem.W.notFirst K C t = true ∧
  sp [x, y] H (fun z H' => ∃ r, z = .bl r ∧ Q (.bl (if neg then !r else r)) H') E
structure EqC (X : Cx) (CX : CXT) (n : Nat) (C f : Addr) (fd : FuncData) (ps : List Str) (sp : Sp) (E : XK) : Prop where
  fn : FnOk X.prog X.w X.K X.mg X.base CX n f fd ps sp
  eq : PySem.W.findIn X.K (.ref C) "__eq__" = some (some (.ref f))
  isf : PySem.W.isFn X.K (.ref f) = true
  b : Binds X.K fd ps []
  px : Passes CX X E
theorem run_eqO {pins : List (Addr × Obj)} {σ : L2.St} {H : Hp} {s : Shared} {A : Around} {a : Addr} {y : V} {v : Value} {R : Bool → Hp → Prop} (G : EqC X CX n C f fd ps sp E) (hr : Room n A) (hfr : A.frames = X.A.frames) (I : Inv X pins σ H s) (ry : RelV y v)
    (h : sp [.ref a, y] H (fun z H' => ∃ r, z = .bl r ∧ R r H') E) : wpAny (model X.prog X.w) A (call (.ref f) [.ref a, v]) (fun u s' => ∃ r, u = .bool r ∧ ∃ H', Inv X pins σ H' s' ∧ R r H') X.xe s := by
  have e0 : Env0 X.prog X.w X.K X.mg X.base A X.stack s H := by
    have e := I.env0
    exact ⟨by rw [hfr]; exact e.frames, e.mod, e.bs, e.bsz, e.funs, e.frf, e.hok, e.bare⟩
  have hl := G.fn.len _ _ _ _ h
  have r2 : Vals [V.ref a, y] [Value.ref a, v] := .cons rfl (.cons ry .nil)
  refine wpAny_call (codeAny_mono (G.fn.run A X.stack s H ⟨[.ref a, v], []⟩ [.ref a, v] [.ref a, y] _ E hr e0 (by
    have := G.b s [.ref a, v] I.kIn (by simpa using hl)
    simpa using this) r2 h) fun r s' hq => ?_)
  cases r with
  | error e => exact G.px pins σ H s e s' I hq
  | ok fl =>
    cases fl with
    | ret u =>
      obtain ⟨z, H', I', rz, r, ez, q⟩ := I.after hq
      subst ez
      cases rz
      exact ⟨r, rfl, H', I', q⟩
    | next => exact False.elim hq
    | brk => exact False.elim hq
    | cont => exact False.elim hq
theorem op_eqO (G : EqC X CX n C f fd ps sp E) (hr : Room n X.A) : OpR X (compareOp .Eq) (rEqO X.K C false sp E) := by
  intro pins s σ H x y v u Q I rx ry h
  obtain ⟨a, dx, fs, t, rfl, ha, ty, hn, q⟩ := h
  cases (show v = Value.ref a from rx)
  obtain ⟨mA, O, _⟩ := ins_get I.hok ha
  obtain ⟨od, J, _⟩ := O.look
  obtain ⟨P, Z, p, _⟩ := kit_of I ry ty
  obtain ⟨m, hF⟩ := I.fr
  show wpAny (model X.prog X.w) X.A (richCompare .Eq (.ref a) u) (EP X pins σ Q) X.xe s
  refine PySem.W.cmp_K (op := .Eq) (tb := t) hr.units0 hF I.ok.mod.kin J (Z.ty _ _ I.kIn p) hn G.eq G.isf ?_
  refine wpAny_mono (run_eqO G hr rfl I ry q) (fun w s' z => ?_) fun _ _ e => e
  obtain ⟨r, rfl, H', I', q'⟩ := z
  exact ⟨.bl r, H', I', rfl, q'⟩
theorem op_neO (G : EqC X CX n C f fd ps sp E) (hr : Room (n + 1) X.A) (hne : PySem.W.findIn X.K (.ref C) "__ne__" = some (some (.builtin "object.__ne__"))) (hm : PySem.W.mroIn X.K C (.type "object") = some true) :
    OpR X (compareOp .NotEq) (rEqO X.K C true sp E) := by
  intro pins s σ H x y v u Q I rx ry h
  obtain ⟨a, dx, fs, t, rfl, ha, ty, hn, q⟩ := h
  cases (show v = Value.ref a from rx)
  obtain ⟨mA, O, _⟩ := ins_get I.hok ha
  obtain ⟨od, J, _⟩ := O.look
  obtain ⟨P, Z, p, _⟩ := kit_of I ry ty
  show wpAny (model X.prog X.w) X.A (richCompare .NotEq (.ref a) u) (EP X pins σ Q) X.xe s
  refine cmp_neK (tb := t) (by have := hr.units; omega) I.kIn J (Z.ty _ _ I.kIn p) hn hne hm G.eq G.isf ?_
  refine wpAny_mono (run_eqO G hr.in1 rfl I ry q) (fun w s' z => ?_) fun _ _ e => e
  obtain ⟨r, rfl, H', I', q'⟩ := z
  exact ⟨r, rfl, .bl (!r), H', I', rfl, q'⟩
end
end Ind

set_option Elab.async false
namespace Ind
open PySem.Builtin.Int (intBits)
theorem cg_natAbs (n d : Int) : (cg n d).natAbs = Nat.gcd n.natAbs d.natAbs := by
  unfold cg
  split <;> omega
theorem fdiv_of_mul {a b q : Int} (hb : b ≠ 0) (h : a = q * b) : a.fdiv b = q := by
  rw [h]
  exact Int.mul_fdiv_cancel _ hb
theorem cg_dvd_n (n d : Int) : cg n d ∣ n := by
  have h : (cg n d).natAbs ∣ n.natAbs := by rw [cg_natAbs]; exact Nat.gcd_dvd_left _ _
  exact Int.natAbs_dvd_natAbs.mp h
theorem cg_dvd_d (n d : Int) : cg n d ∣ d := by
  have h : (cg n d).natAbs ∣ d.natAbs := by rw [cg_natAbs]; exact Nat.gcd_dvd_right _ _
  exact Int.natAbs_dvd_natAbs.mp h
theorem nN_mul {n d : Int} (h : d ≠ 0) : n = nN n d * cg n d := by
  obtain ⟨q, e⟩ := cg_dvd_n n d
  have e2 : nN n d = q := fdiv_of_mul (cg_ne h) (e.trans (Int.mul_comm _ _))
  rw [e2, Int.mul_comm]
  exact e
theorem nD_mul {n d : Int} (h : d ≠ 0) : d = nD n d * cg n d := by
  obtain ⟨q, e⟩ := cg_dvd_d n d
  have e2 : nD n d = q := fdiv_of_mul (cg_ne h) (e.trans (Int.mul_comm _ _))
  rw [e2, Int.mul_comm]
  exact e
theorem nD_pos {n d : Int} (h : d ≠ 0) : 0 < nD n d := by
  have e := nD_mul (n := n) h
  have g := cg_natAbs n d
  have gp : 0 < Nat.gcd n.natAbs d.natAbs := Nat.gcd_pos_of_pos_right _ (by omega)
  by_cases hd : d < 0
  · have hc : cg n d < 0 := by
      unfold cg
      rw [if_pos hd]
      omega
    by_cases hq : 0 < nD n d
    · exact hq
    · have : 0 ≤ nD n d * cg n d := Int.mul_nonneg_of_nonpos_of_nonpos (by omega) (by omega)
      omega
  · have hc : 0 < cg n d := by
      unfold cg
      rw [if_neg hd]
      omega
    by_cases hq : 0 < nD n d
    · exact hq
    · have : nD n d * cg n d ≤ 0 := Int.mul_nonpos_of_nonpos_of_nonneg (by omega) (by omega)
      omega
theorem n_gcd {n d : Int} (h : d ≠ 0) : Nat.gcd (nN n d).natAbs (nD n d).natAbs = 1 := by
  have e1 : n.natAbs = (nN n d).natAbs * (cg n d).natAbs := by
    rw [← Int.natAbs_mul, ← nN_mul h]
  have e2 : d.natAbs = (nD n d).natAbs * (cg n d).natAbs := by
    rw [← Int.natAbs_mul, ← nD_mul h]
  have g := cg_natAbs n d
  have hg : 0 < (cg n d).natAbs := by
    have := cg_ne (n := n) h
    omega
  have e3 : Nat.gcd n.natAbs d.natAbs = Nat.gcd (nN n d).natAbs (nD n d).natAbs * (cg n d).natAbs := by
    conv => lhs; rw [e1, e2]
    rw [Nat.gcd_mul_right]
  rw [← g] at e3
  have e4 : 1 * (cg n d).natAbs = Nat.gcd (nN n d).natAbs (nD n d).natAbs * (cg n d).natAbs := by rw [Nat.one_mul]; exact e3
  exact (Nat.eq_of_mul_eq_mul_right hg e4).symm
theorem n_cross {n d : Int} (h : d ≠ 0) : nN n d * d = n * nD n d := by
  have e1 := nN_mul (n := n) h
  have e2 := nD_mul (n := n) h
  calc nN n d * d = nN n d * (nD n d * cg n d) := by rw [← e2]
    _ = (nN n d * cg n d) * nD n d := by rw [Int.mul_comm (nD n d), Int.mul_assoc]
    _ = n * nD n d := by rw [← e1]
/-- two fractions in lowest terms of one value are one -/
theorem low_uniq {p q r s : Int} (hq : 0 < q) (hs : 0 < s) (g1 : Nat.gcd p.natAbs q.natAbs = 1) (g2 : Nat.gcd r.natAbs s.natAbs = 1) (e : p * s = r * q) : p = r ∧ q = s := by
  have en : p.natAbs * s.natAbs = r.natAbs * q.natAbs := by rw [← Int.natAbs_mul, ← Int.natAbs_mul, e]
  have d1 : q.natAbs ∣ s.natAbs := Nat.Coprime.dvd_of_dvd_mul_left (Nat.Coprime.symm g1) ⟨r.natAbs, by rw [en, Nat.mul_comm]⟩
  have d2 : s.natAbs ∣ q.natAbs := Nat.Coprime.dvd_of_dvd_mul_left (Nat.Coprime.symm g2) ⟨p.natAbs, by rw [← en, Nat.mul_comm]⟩
  have e1 : q.natAbs = s.natAbs := Nat.dvd_antisymm d1 d2
  have e2 : q = s := by omega
  subst e2
  exact ⟨Int.eq_of_mul_eq_mul_right (by omega) e, rfl⟩
theorem n_uniq {a b c d : Int} (hb : b ≠ 0) (hd : d ≠ 0) (e : a * d = c * b) : nN a b = nN c d ∧ nD a b = nD c d := by
  refine low_uniq (nD_pos hb) (nD_pos hd) (n_gcd hb) (n_gcd hd) ?_
  have e1 := n_cross (n := a) hb
  have e2 := n_cross (n := c) hd
  have z : (nN a b * nD c d) * (b * d) = (nN c d * nD a b) * (b * d) := by
    calc (nN a b * nD c d) * (b * d) = (nN a b * b) * (nD c d * d) := by ac_rfl
      _ = (a * nD a b) * (nD c d * d) := by rw [e1]
      _ = (a * d) * (nD a b * nD c d) := by ac_rfl
      _ = (c * b) * (nD a b * nD c d) := by rw [e]
      _ = (c * nD c d) * (nD a b * b) := by ac_rfl
      _ = (nN c d * d) * (nD a b * b) := by rw [e2]
      _ = (nN c d * nD a b) * (b * d) := by ac_rfl
  exact Int.eq_of_mul_eq_mul_right (Int.mul_ne_zero hb hd) z
theorem n_same {a b c d : Int} (hb : b ≠ 0) (hd : d ≠ 0) (h1 : nN a b = nN c d) (h2 : nD a b = nD c d) : a * d = c * b := by
  have e1 := n_cross (n := a) hb
  have e2 := n_cross (n := c) hd
  have hp := nD_pos (n := a) hb
  have z : (a * d) * nD a b = (c * b) * nD a b := by
    calc (a * d) * nD a b = (a * nD a b) * d := by ac_rfl
      _ = (nN a b * b) * d := by rw [e1]
      _ = (nN c d * d) * b := by rw [h1]; ac_rfl
      _ = (c * nD c d) * b := by rw [e2]
      _ = (c * b) * nD a b := by rw [h2]; ac_rfl
  exact Int.eq_of_mul_eq_mul_right (by omega) z
theorem n_one (n : Int) : nN n 1 = n ∧ nD n 1 = 1 := by
  have e : cg n 1 = 1 := by
    unfold cg
    rw [if_neg (by decide)]
    simp
  unfold nN nD
  rw [e]
  simp
theorem bits_nN {n d : Int} {m : Nat} (h : intBits n ≤ m) : intBits (nN n d) ≤ m := PySem.intBits_fdiv_le h
theorem bits_nD {n d : Int} {m : Nat} (h : intBits d ≤ m) : intBits (nD n d) ≤ m := PySem.intBits_fdiv_le h
end Ind

set_option Elab.async false
set_option linter.all false
set_option maxRecDepth 100000
set_option maxHeartbeats 4000000
namespace Ind
open PySem PySem.Spec PyProof.Rows L2
open Builtin.Int (intBits)
abbrev sEq : Stmt := inClass (top 13) 5
abbrev sZero : Stmt := top 14
abbrev sOne : Stmt := top 15
abbrev sNum : Stmt := top 22
/-- behind Ratio(n, d) -/
theorem mk_ok {C Z : Addr} {H1 : Hp} {n d : Int} (hd : d ≠ 0) {Q : VK} {E : XK} (h : ∀ (p : Addr) (H' : Hp), RatAt C H' p (nN n d) (nD n d) → Same H1 H' → H1 p = none → Q (.ref p) H') :
    ∀ x dx, H1 x = none → H1 dx = none → dx ≠ x → spInit C Z [.ref x, .int n, .int d] (upd (upd H1 dx (.own x)) x (.ins C dx [])) (fun v H2 => v = .non ∧ Q (.ref x) H2) E := fun x dx nx nd ne =>
  ⟨x, dx, n, d, rfl, upd_same, fun z => absurd z hd, fun _ H' r k => ⟨rfl, h x H' r (Same.made nx nd k) nx⟩⟩
/-- a == b of a number: another one, or something of another class -/
def spEqR (K : PySem.W.Frag) (C : Addr) : Sp := fun vs H Q _ => (∃ (p q : Addr) (a b c d : Int), vs = [.ref p, .ref q] ∧ RatAt C H p a b ∧ RatAt C H q c d ∧ Q (.bl (decide (a = c ∧ b = d))) H) ∨
  ∃ (p : Addr) (a b : Int) (y : V) (t : Value), vs = [.ref p, y] ∧ RatAt C H p a b ∧ TyX K H y t ∧ PySem.W.kitOne K t (.ref C) = some false ∧ Q (.bl false) H
def spMk (C : Addr) (a b : Int) : Sp := fun vs H Q _ => vs = [] ∧ ∀ (p : Addr) (H' : Hp), RatAt C H' p a b → Same H H' → H p = none → Q (.ref p) H'
/-- the script: its list, its ints' sizes -/
def Scr (K : PySem.W.Frag) (H : Hp) (a : Addr) (ns : List Int) : Prop := SqL K H a (ns.map V.int) ∧ ∀ z ∈ ns, intBits z ≤ 1048576
theorem Scr.same {K : PySem.W.Frag} {H H' : Hp} {a : Addr} {ns : List Int} (x : Scr K H a ns) (s : Same H H') : Scr K H' a ns := ⟨s.seq x.1, x.2⟩
theorem Scr.cell {K : PySem.W.Frag} {H : Hp} {a : Addr} {ns : List Int} (x : Scr K H a ns) (k : Nat) : intBits (cell ns k) ≤ 1048576 := by
  unfold Ind.cell
  rw [List.getD_eq_getElem?_getD]
  cases e : ns[k]? with
  | none => exact Nat.zero_le _
  | some z => exact x.2 z (List.mem_of_getElem? e)
def spNum (K : PySem.W.Frag) : Sp := fun vs H Q _ => ∃ (a : Addr) (ns : List Int) (k : Nat), vs = [.ref a, .int k] ∧ Scr K H a ns ∧ k ≤ 1000 ∧ ∀ (z : Int) (H' : Hp), intBits z ≤ 1048576 → Same H H' → Q (.int z) H'
section
variable {P : Program} {w : World} {K : PySem.W.Frag} {mg : Str → Option Value} {base : Heap} {C Z : Addr}
theorem scEq : FnScope ["self", "other"] ["self", "other"] (defScope sEq) := ⟨rfl, rfl, rfl, by decide +kernel, rfl, by decide +kernel, by decide +kernel⟩
theorem ok_eq {f : Addr} {fd : FuncData} (F : Fun K "__eq__" "Ratio.__eq__" sEq f fd) (T : TxL K mg) (R : TxR K mg C Z) (I : TxI K C) : FnOk P w K mg base CX0 1 f fd ["self", "other"] (spEqR K C) := by
  refine F.ok scEq (fun vs H Q E h => ?_) (fun cdv A outer s H vs Q E hr h => ?_)
  · rcases h with ⟨p, q, a, b, c, d, rfl, _⟩ | ⟨p, a, b, y, t, rfl, _⟩ <;> rfl
  · refine ⟨_, pss_one (ps_ret (pe_and (pe_callB call_isi (by rfl) T.isinstance (by decide +kernel) (pa_cons (pv 1) (pa_cons (pe_glob (v := .ref C) rfl R.mgC rfl) pa_nil)))
      (pe_and (pe_cmpR op_eq (pe_fld (pv 0) rfl) (pe_fld (pv 1) rfl) (nomark _)) (pe_one (pe_cmpR op_eq (pe_fld (pv 0) rfl) (pe_fld (pv 1) rfl) (nomark _)))))), ?_⟩
    rcases h with ⟨p, q, a, b, c, d, rfl, ⟨dx, hp⟩, ⟨dy, hq⟩, k⟩ | ⟨p, a, b, y, t, rfl, ⟨dx, hp⟩, ty, hk, k⟩
    · refine ⟨_, rfl, _, _, _, _, true, rfl, ClsV.own C, .base (.ins hq R.cl I.ha I.hn I.ht I.hm), I.kC, true, rfl, iteT ?_⟩
      refine ⟨_, rfl, p, C, dx, _, _, rfl, hp, R.cl, R.nN, rf_n _ _, _, rfl, q, C, dy, _, _, rfl, hq, R.cl, R.nN, rf_n _ _, rfl, _, rfl, ?_⟩
      by_cases e1 : a = c
      · rw [show decide (V.int a = V.int c) = true from decide_eq_true (by rw [e1])]
        refine iteT ⟨_, rfl, p, C, dx, _, _, rfl, hp, R.cl, R.nD, rf_d _ _, _, rfl, q, C, dy, _, _, rfl, hq, R.cl, R.nD, rf_d _ _, rfl, ?_⟩
        have e2 : decide (V.int b = V.int d) = decide (a = c ∧ b = d) := by
          by_cases e : b = d
          · simp [e, e1]
          · simp [e, e1]
        rw [← e2] at k
        exact k
      · rw [show decide (V.int a = V.int c) = false from decide_eq_false (fun z => e1 (V.int.inj z))]
        have e2 : decide (a = c ∧ b = d) = false := decide_eq_false fun z => e1 z.1
        rw [e2] at k
        exact iteF k
    · exact ⟨_, rfl, _, _, _, _, false, rfl, ClsV.own C, ty, hk, false, rfl, iteF k⟩
theorem scZ : FnScope [] [] (defScope sZero) := ⟨rfl, rfl, rfl, by decide +kernel, rfl, by decide +kernel, by decide +kernel⟩
theorem scO : FnScope [] [] (defScope sOne) := ⟨rfl, rfl, rfl, by decide +kernel, rfl, by decide +kernel, by decide +kernel⟩
/-- how Ratio's __init__ stands -/
structure MkR (P : Program) (w : World) (K : PySem.W.Frag) (mg : Str → Option Value) (base : Heap) (C Z : Addr) (fI : Addr) (fdI : FuncData) (ds : List Value) : Prop where
  cm : Mk K C fI
  fn : FnOk P w K mg base (L2.CX P w) 41 fI fdI ["self", "n", "d"] (spInit C Z)
  b2 : Binds K fdI ["self", "n", "d"] []
  b1 : Binds K fdI ["self", "n", "d"] ds
  v1 : Vals [V.int 1] ds
theorem ok_zero {f fI : Addr} {fd fdI : FuncData} {ds : List Value} (F : Fun K "zero" "zero" sZero f fd) (R : TxR K mg C Z) (M : MkR P w K mg base C Z fI fdI ds) : FnOk P w K mg base CX0 43 f fd [] (spMk C 0 1) := by
  refine F.ok scZ (fun vs H Q E h => ?_) (fun cdv A outer s H vs Q E hr h => ?_)
  · obtain ⟨rfl, _⟩ := h
    rfl
  · obtain ⟨rfl, k⟩ := h
    refine ⟨_, pss_one (ps_ret (pe_make M.cm M.fn hr (by rfl) R.mgC M.b1 M.v1 passL (pa_cons pe_int pa_nil))), ?_⟩
    have e := n_one 0
    refine mk_ok (n := 0) (d := 1) (by decide) fun p H' r s n => k p H' ?_ s n
    rw [e.1, e.2] at r
    exact r
theorem ok_one {f fI : Addr} {fd fdI : FuncData} {ds : List Value} (F : Fun K "one" "one" sOne f fd) (R : TxR K mg C Z) (M : MkR P w K mg base C Z fI fdI ds) : FnOk P w K mg base CX0 43 f fd [] (spMk C 1 1) := by
  refine F.ok scO (fun vs H Q E h => ?_) (fun cdv A outer s H vs Q E hr h => ?_)
  · obtain ⟨rfl, _⟩ := h
    rfl
  · obtain ⟨rfl, k⟩ := h
    refine ⟨_, pss_one (ps_ret (pe_make M.cm M.fn hr (by rfl) R.mgC M.b1 M.v1 passL (pa_cons pe_int pa_nil))), ?_⟩
    have e := n_one 1
    refine mk_ok (n := 1) (d := 1) (by decide) fun p H' r s n => k p H' ?_ s n
    rw [e.1, e.2] at r
    exact r
theorem scNum : FnScope ["script", "at", "row"] ["script", "at"] (defScope sNum) := ⟨rfl, rfl, rfl, by decide +kernel, rfl, by decide +kernel, by decide +kernel⟩
theorem ok_num {f fC fD : Addr} {fd fdC fdD : FuncData} (F : Fun K "_law_number" "_law_number" sNum f fd) (T : TxL K mg) (FC : Fun K "_law_cell" "_law_cell" sCell fC fdC) (bC : Binds K fdC ["script", "k"] []) (gC : mg "_law_cell" = some (.ref fC))
    (FD : Fun K "_law_draws" "_law_draws" sDraws fD fdD) (bD : Binds K fdD ["script", "at", "count", "bound"] []) (gD : mg "_law_draws" = some (.ref fD)) : FnOk P w K mg base CX0 3 f fd ["script", "at"] (spNum K) := by
  have GC : FnOk P w K mg base CX0 1 fC fdC ["script", "k"] (spCellI K) := ok_cell FC T
  have GD : FnOk P w K mg base CX0 2 fD fdD ["script", "at", "count", "bound"] (spDraws K) := ok_draws FD T FC bC gC
  refine F.ok scNum (fun vs H Q E h => ?_) (fun cdv A outer s H vs Q E hr h => ?_)
  · obtain ⟨a, ns, k, rfl, _⟩ := h
    rfl
  · obtain ⟨a, ns, k, rfl, hS, hk, q⟩ := h
    refine ⟨_, pss_cons (ps_set (i := 2) scNum.nd rfl (Or.inl rfl) (pe_call GD hr (by rfl) gD FD.kp bD .nil pass0 (pa_cons (pv 0) (pa_cons (pv 1) (pa_cons pe_int (pa_cons pe_int pa_nil))))))
      (pss_cons (ps_if (pt_cmpR op_eq (pe_op op_modN (pe_ix ix_list (pv 2) pe_int fun _ _ => rfl) pe_int) pe_int (nomark _)) (pss_one (ps_ret (pe_call GC (hr.mono (by decide)) (by rfl) gC FC.kp bC .nil pass0 (pa_cons (pv 0) (pa_cons (pv 1) pa_nil))))) pss_nil)
      (pss_one (ps_ret (pe_op op_mul (pe_op op_sub (pe_ix ix_list (pv 2) pe_int fun _ _ => rfl) pe_int) (pe_op op_add (pe_op op_modN (pe_ix ix_list (pv 2) pe_int fun _ _ => rfl) pe_int) pe_int))))), ?_⟩
    refine ⟨_, rfl, _, rfl, a, ns, k, 3, 121, rfl, hS.1, hk, by decide, by decide, by decide, fun ds H1 l hR s1 hl hL => ?_⟩
    obtain ⟨x, y, z, rfl⟩ : ∃ x y z, ds = [x, y, z] := by
      have := hR.1
      match ds, this with
      | [x, y, z], _ => exact ⟨x, y, z, rfl⟩
    have hy := hR.2 y (by simp)
    refine ⟨_, rfl, l, _, _, _, rfl, rfl, SqL.of hL, atI_of (k := 0) rfl, _, _, rfl, rfl, (by show (3 : Int) ≠ 0; decide), rfl, _, rfl, ite2 (fun _ => ?_) (fun _ => ?_)⟩
    · exact ⟨_, rfl, _, rfl, a, ns, k, rfl, (hS.same s1).1, q _ H1 (hS.cell k) s1⟩
    · have hm := fmod_in (x := z) (b := 40) (by decide)
      refine ⟨_, rfl, l, _, _, _, rfl, rfl, SqL.of hL, atI_of (k := 1) rfl, _, _, rfl, rfl, _, rfl, l, _, _, _, rfl, rfl, SqL.of hL, atI_of (k := 2) rfl, _, _, rfl, rfl, (by show (40 : Int) ≠ 0; decide), _, _, rfl, rfl, _, _, rfl, rfl, .inl ⟨by omega, by omega⟩, ?_⟩
      refine q _ H1 ?_ s1
      have b1 : intBits (y - 60) ≤ 64 := PySem.intBits_le_iff.mpr (by omega)
      have b2 : intBits (z.fmod 40 + 1) ≤ 64 := PySem.intBits_le_iff.mpr (by omega)
      exact Nat.le_trans (PySem.intBits_mul_le b1 b2) (by decide)
end
end Ind

set_option Elab.async false
set_option linter.all false
set_option maxRecDepth 100000
set_option maxHeartbeats 4000000
namespace Ind
open PySem PySem.Spec PyProof.Rows L2
open Builtin.Int (intBits)
abbrev sRef : Stmt := top 23
/-! ### isinstance of the error that a suite holds -/
def rIsG (K : PySem.W.Frag) (cls : Value) (d : Option Addr) (a : Addr) : List V → Hp → VK → Prop := fun xs H Q => ∃ D : Addr, cls = .ref D ∧ d = none ∧ ExcC K D ∧ rIsE K D a xs H Q
theorem call_isG {X : Cx} {a : Addr} {oe : Obj} {cls : Value} {d : Option Addr} {pn : List (Addr × Obj)} (hz : Zc cls d oe) (hf : ∃ vs, oe.data = .fields vs) : CallR (X.suite a ((a, oe) :: pn)) (.builtin "isinstance") (rIsG X.K cls d a) := by
  intro pins s σ H xs us Q I r h
  obtain ⟨D, rfl, rfl, C, q⟩ := h
  exact call_isE C hz hf pins s σ H xs us Q I r q
def rIsGT (K : PySem.W.Frag) (cls : Value) (d : Option Addr) (a : Addr) : List V → Hp → VK → Prop := fun xs H Q => ∃ (D tp : Addr) (cs : List V) (us : List Value) (b : Bool), cls = .ref D ∧ d = none ∧ ExcC K D ∧ xs = [.ref a, .ref tp] ∧ H tp = some (.tup cs) ∧ Paired ClsV cs us ∧
  PySem.W.kitAny K (.ref D) us = some b ∧ Q (.bl b) H
theorem call_isGT {X : Cx} {a : Addr} {oe : Obj} {cls : Value} {d : Option Addr} {pn : List (Addr × Obj)} (hz : Zc cls d oe) (hf : ∃ vs, oe.data = .fields vs) : CallR (X.suite a ((a, oe) :: pn)) (.builtin "isinstance") (rIsGT X.K cls d a) := by
  intro pins s σ H xs us Q I r h
  obtain ⟨D, tp, cs, ws, b, rfl, rfl, C, rfl, hT, k, e, q⟩ := h
  obtain ⟨u1, u2, rfl, r1, r2⟩ := vals2 r
  cases (show u1 = Value.ref a from r1)
  cases (show u2 = Value.ref tp from r2)
  obtain ⟨hget, _⟩ := I.pin (a, oe) (List.mem_append.mpr (.inl List.mem_cons_self))
  obtain ⟨vs, hv⟩ := hf
  have J : PySem.W.InstAt s.heap a oe D none := by
    obtain ⟨oc, od, oda, osl⟩ := oe
    obtain ⟨h1, h2⟩ := hz
    dsimp only at h1 h2 hv
    subst h1 h2 hv
    exact ⟨hget, rfl, rfl, trivial⟩
  obtain ⟨_, its, rv, o, h1, h2, n, h3⟩ := (show ObjOk X.prog X.w H s.heap tp (.tup cs) from I.hok tp _ hT)
  have e3 := ClsV.all k rv
  subst e3
  obtain ⟨oc, od, dt, sl⟩ := o
  simp only at h2 h3
  subst h2 h3
  exact PySem.W.kia_tup (PySem.W.handS_kitx_exc C.hg C.hk C.hs C.hd C.ha C.hn C.ht C.hm) I.kIn J h1 e (fun z => nomatch z) fun tk => ⟨.bl b, H, I.tok tk, rfl, q⟩
/-- what is let out reaches the clause, whatever the slots hold -/
def EW (W : WX) (n : Nat) : XK := fun cls d H => ∀ σ : L2.St, σ.length = n → W cls d σ H
theorem passW {X : Cx} {W : WX} {n : Nat} (tk : Takes X W) (hn : X.N.length = n) : Passes (L2.CX X.prog X.w) X (EW W n) :=
  fun _ σ _ _ e s' I c => tk e s' (XE.of_call I (fun _ _ _ h => h σ (I.len.trans hn)) c)
/-- what the top says of the error classes -/
structure TxE (K : PySem.W.Frag) (mg : Str → Option Value) (Z Fa Ma Nt Rf : Addr) : Prop where
  gF : mg "Fault" = some (.ref Fa)
  gM : mg "Malformed" = some (.ref Ma)
  gN : mg "NoText" = some (.ref Nt)
  gR : mg "Refused" = some (.ref Rf)
  gV : mg "ValueError" = none
  ex : PySem.W.exmOne K (.ref Z) (.ref Fa) = some true
  c : ExcC K Z
  kZ : PySem.W.kitOne K (.ref Z) (.ref Z) = some true
  kV : PySem.W.kitOne K (.ref Z) (.type "ValueError") = some true
  kA : PySem.W.kitAny K (.ref Z) [.ref Ma, .ref Nt, .ref Rf] = some false
def spRef : Sp := fun vs H Q _ => ∃ n : Int, vs = [.int n] ∧ ∀ H' : Hp, Same H H' → Q (.bl true) H'
theorem three {σ : L2.St} (h : σ.length = 3) : ∃ x y z, σ = [x, y, z] := by
  match σ, h with
  | [x, y, z], _ => exact ⟨x, y, z, rfl⟩
section
variable {P : Program} {w : World} {K : PySem.W.Frag} {mg : Str → Option Value} {base : Heap} {C Z Fa Ma Nt Rf : Addr}
theorem scRef : FnScope ["n", "told", "e"] ["n"] (defScope sRef) := ⟨rfl, rfl, rfl, by decide +kernel, rfl, by decide +kernel, by decide +kernel⟩
theorem ok_ref {f fI : Addr} {fd fdI : FuncData} {ds : List Value} (F : Fun K "_law_refused" "_law_refused" sRef f fd) (T : TxL K mg) (R : TxR K mg C Z) (M : MkR P w K mg base C Z fI fdI ds) (E0' : TxE K mg Z Fa Ma Nt Rf) : FnOk P w K mg base CX0 43 f fd ["n"] spRef := by
  refine F.ok scRef (fun vs H Q E h => ?_) (fun cdv A outer s H vs Q E hr h => ?_)
  · obtain ⟨n, rfl, _⟩ := h
    rfl
  · obtain ⟨n, rfl, k⟩ := h
    refine ⟨_, pss_cons (ps_set (i := 1) scRef.nd rfl (Or.inl rfl) pe_str)
      (pss_cons (ps_try_as (i := 2) (c := .ref Fa) (Wout := fun _ _ _ _ => False) rfl rfl scRef.nd rfl rfl ⟨rfl, by decide, .inl E0'.gF⟩ takes0
        (fun W pn xe tk _ => pss_one (ps_expr (pe_make (E := EW W 3) M.cm M.fn hr (by rfl) R.mgC M.b2 .nil (passW tk rfl) (pa_cons (pv 0) (pa_cons pe_int pa_nil)))))
        (fun a oe cls d pn hz hf => pss_cons (ps_set (i := 1) scRef.nd rfl (Or.inl rfl) pe_str)
          (pss_cons (ps_if (PW.pt (pw_or (pt_not (pt_val (pe_callB (call_isG hz hf) (by rfl) T.isinstance (by decide +kernel) (pa_cons (pv 2) (pa_cons (pe_glob (v := .ref Z) rfl R.gZ rfl) pa_nil)))))
              (pw_or1 (pt_not (pt_val (pe_callB (call_isG hz hf) (by rfl) T.isinstance (by decide +kernel) (pa_cons (pv 2) (pa_cons (pe_bltn (v := .ty "ValueError") (by rfl) E0'.gV (by decide +kernel) rfl) pa_nil))))))))
            (pss_one (ps_set (i := 1) scRef.nd rfl (Or.inl rfl) pe_str)) pss_nil)
          (pss_one (ps_if (pt_val (pe_callB (call_isGT hz hf) (by rfl) T.isinstance (by decide +kernel) (pa_cons (pv 2) (pa_cons (pe_tup (pa_cons (pe_glob (v := .ref Ma) rfl E0'.gM rfl) (pa_cons (pe_glob (v := .ref Nt) rfl E0'.gN rfl) (pa_cons (pe_glob (v := .ref Rf) rfl E0'.gR rfl) pa_nil)))) pa_nil))))
            (pss_one (ps_set (i := 1) scRef.nd rfl (Or.inl rfl) pe_str)) pss_nil)))))
      (pss_one (ps_ret (pe_cmpR op_eq (pv 1) pe_str (nomark _))))), ?_⟩
    refine ⟨_, rfl, fun x dx nx ndx nex => ⟨x, dx, n, 0, rfl, upd_same, fun _ σ hσ => ?_, fun z => absurd rfl z⟩⟩
    obtain ⟨v0, v1, v2, rfl⟩ := three hσ
    have s1 : Same H (upd (upd H dx (.own x)) x (.ins C dx [])) := fun b o e => by
      rw [upd_ne (ne_of_none e nx), upd_ne (ne_of_none e ndx)]
      exact e
    refine ⟨true, E0'.ex, fun _ a ha => ?_, fun z => Bool.noConfusion z⟩
    refine ⟨_, rfl, Z, rfl, rfl, E0'.c, .ref Z, _, true, rfl, fun u hu => hu, E0'.kZ, true, rfl, ?_⟩
    refine iteF ⟨_, rfl, Z, rfl, rfl, E0'.c, .ty "ValueError", _, true, rfl, fun u hu => hu, E0'.kV, true, rfl, iteF ?_⟩
    refine ⟨_, rfl, (by show 3 ≤ sizeLine; decide), fun t ht => ?_⟩
    refine ⟨Z, t, _, _, false, rfl, rfl, E0'.c, rfl, upd_same, .cons (.own Ma) (.cons (.own Nt) (.cons (.own Rf) .nil)), E0'.kA, false, rfl, iteF ?_⟩
    refine ⟨_, rfl, rfl, ?_⟩
    exact k _ (s1.trans (same_upd ht))
end
end Ind

set_option Elab.async false
set_option linter.all false
set_option maxRecDepth 100000
set_option maxHeartbeats 4000000
namespace Ind
open PySem PySem.Spec PyProof.Rows L2
open Builtin.Int (intBits)
abbrev sLaw : Stmt := top 24
/-- what == of a number asks of things of other classes -/
structure TxQ (K : PySem.W.Frag) (C : Addr) : Prop where
  ne : PySem.W.findIn K (.ref C) "__ne__" = some (some (.builtin "object.__ne__"))
  nT : PySem.W.notFirst K C (.type "tuple") = true
  kT : PySem.W.kitOne K (.type "tuple") (.ref C) = some false
  nI : PySem.W.notFirst K C (.type "int") = true
  kI : PySem.W.kitOne K (.type "int") (.ref C) = some false
  nN : PySem.W.notFirst K C (.type "NoneType") = true
  kN : PySem.W.kitOne K (.type "NoneType") (.ref C) = some false
def spLaw (K : PySem.W.Frag) : Sp := fun vs H Q _ => ∃ (a : Addr) (ns : List Int), vs = [.ref a] ∧ Scr K H a ns ∧ ∀ H', Q (.bl true) H'
theorem ne_pair {K : PySem.W.Frag} {H : Hp} {t u : Addr} {a b : Int} {Q : VK} (ht : H t = some (.tup [.int a, .int b])) (hu : H u = some (.tup [.int a, .int b])) (q : Q (.bl false) H) : rNeD K (.ref t) (.ref u) H Q := by
  refine ⟨.tuple [.int a, .int b], .tuple [.int a, .int b], .tup (SqT.of ht) (.cons (.int a) (.cons (.int b) .nil)), .tup (SqT.of hu) (.cons (.int a) (.cons (.int b) .nil)), rfl, rfl, ?_⟩
  have e : PyData.eqv (.tuple [.int a, .int b]) (.tuple [.int a, .int b]) = true := by simp [PyData.eqv, PyData.eqvAll]
  rw [e]
  exact q
theorem rEqO_rat {K : PySem.W.Frag} {mg : Str → Option Value} {C Z : Addr} {neg : Bool} {H : Hp} {p q : Addr} {a b c d : Int} {Q : VK} {E : XK} (R : TxR K mg C Z) (I : TxI K C) (hp : RatAt C H p a b) (hq : RatAt C H q c d)
    (k : Q (.bl (if neg then !decide (a = c ∧ b = d) else decide (a = c ∧ b = d))) H) : rEqO K C neg (spEqR K C) E (.ref p) (.ref q) H Q := by
  obtain ⟨dx, e1⟩ := id hp
  obtain ⟨dy, e2⟩ := id hq
  exact ⟨p, dx, _, .ref C, rfl, e1, .base (.ins e2 R.cl I.ha I.hn I.ht I.hm), by simp [PySem.W.notFirst], .inl ⟨p, q, a, b, c, d, rfl, hp, hq, _, rfl, k⟩⟩
theorem rEqO_other {K : PySem.W.Frag} {C : Addr} {neg : Bool} {H : Hp} {p : Addr} {a b : Int} {y : V} {t : Value} {Q : VK} {E : XK} (hp : RatAt C H p a b) (ty : TyX K H y t) (hn : PySem.W.notFirst K C t = true) (hk : PySem.W.kitOne K t (.ref C) = some false)
    (k : Q (.bl (if neg then !false else false)) H) : rEqO K C neg (spEqR K C) E (.ref p) y H Q := by
  obtain ⟨dx, e1⟩ := id hp
  exact ⟨p, dx, _, t, rfl, e1, ty, hn, .inr ⟨p, a, b, y, t, rfl, hp, ty, hk, _, rfl, k⟩⟩
section
variable {P : Program} {w : World} {K : PySem.W.Frag} {mg : Str → Option Value} {base : Heap} {C Z Fa Ma Nt Rf : Addr}
theorem scL : FnScope ["script", "n", "d", "times", "told"] ["script"] (defScope sLaw) := ⟨rfl, rfl, rfl, by decide +kernel, rfl, by decide +kernel, by decide +kernel⟩
theorem ok_law {f fI fE fC fD fG fS fP fN fF fZ fO : Addr} {fd fdI fdE fdC fdD fdG fdS fdP fdN fdF fdZ fdO : FuncData} {ds : List Value} (F : Fun K "law" "law" sLaw f fd) (T : TxL K mg) (R : TxR K mg C Z) (I : TxI K C) (M : MkR P w K mg base C Z fI fdI ds) (E0' : TxE K mg Z Fa Ma Nt Rf) (TQ : TxQ K C)
    (FE : Fun K "__eq__" "Ratio.__eq__" sEq fE fdE) (bE : Binds K fdE ["self", "other"] []) (aE : PySem.W.findIn K (.ref C) "__eq__" = some (some (.ref fE))) (iE : PySem.W.isFn K (.ref fE) = true)
    (FC : Fun K "_law_cell" "_law_cell" sCell fC fdC) (bC : Binds K fdC ["script", "k"] []) (gC : mg "_law_cell" = some (.ref fC))
    (FD : Fun K "_law_draws" "_law_draws" sDraws fD fdD) (bD : Binds K fdD ["script", "at", "count", "bound"] []) (gD : mg "_law_draws" = some (.ref fD))
    (FG : Fun K "_law_gcd" "_law_gcd" sGcd fG fdG) (bG : Binds K fdG ["a", "b"] []) (gG : mg "_law_gcd" = some (.ref fG))
    (FS : Fun K "_law_is_integer" "_law_is_integer" sIsI fS fdS) (bS : Binds K fdS ["value"] []) (gS : mg "_law_is_integer" = some (.ref fS))
    (FP : Fun K "_law_pair" "_law_pair" sPair fP fdP) (bP : Binds K fdP ["value"] []) (gP : mg "_law_pair" = some (.ref fP))
    (FN : Fun K "_law_number" "_law_number" sNum fN fdN) (bN : Binds K fdN ["script", "at"] []) (gN : mg "_law_number" = some (.ref fN))
    (FF : Fun K "_law_refused" "_law_refused" sRef fF fdF) (bF : Binds K fdF ["n"] []) (gF : mg "_law_refused" = some (.ref fF))
    (FZ : Fun K "zero" "zero" sZero fZ fdZ) (bZ : Binds K fdZ [] []) (gZ : mg "zero" = some (.ref fZ))
    (FO : Fun K "one" "one" sOne fO fdO) (bO : Binds K fdO [] []) (gO : mg "one" = some (.ref fO)) : FnOk P w K mg base CX0 60 f fd ["script"] (spLaw K) := by
  have GC : FnOk P w K mg base CX0 1 fC fdC ["script", "k"] (spCellI K) := ok_cell FC T
  have GD : FnOk P w K mg base CX0 2 fD fdD ["script", "at", "count", "bound"] (spDraws K) := ok_draws FD T FC bC gC
  have GN : FnOk P w K mg base CX0 3 fN fdN ["script", "at"] (spNum K) := ok_num FN T FC bC gC FD bD gD
  have GP : FnOk P w K mg base CX0 2 fP fdP ["value"] (spPair C) := ok_pair FP T R I FS bS gS FG bG gG
  have GF : FnOk P w K mg base CX0 43 fF fdF ["n"] spRef := ok_ref FF T R M E0'
  have GZ : FnOk P w K mg base CX0 43 fZ fdZ [] (spMk C 0 1) := ok_zero FZ R M
  have GO : FnOk P w K mg base CX0 43 fO fdO [] (spMk C 1 1) := ok_one FO R M
  have GE : FnOk P w K mg base CX0 1 fE fdE ["self", "other"] (spEqR K C) := ok_eq FE T R I
  refine F.ok scL (fun vs H Q E h => ?_) (fun cdv A outer s H vs Q E hr h => ?_)
  · obtain ⟨a, ns, rfl, _⟩ := h
    rfl
  · obtain ⟨a, ns, rfl, hS, k⟩ := h
    have hrM : Room 42 _ := hr.mono (by decide)
    have hr43 : Room 43 _ := hr.mono (by decide)
    have hr3 : Room 3 _ := hr.mono (by decide)
    have hr2 : Room 2 _ := hr.mono (by decide)
    have hr1 : Room 1 _ := hr.mono (by decide)
    have qe : EqC (cxOf CX0 P w K mg base ["script", "n", "d", "times", "told"] "law" (defScope sLaw) f cdv A outer s H E).nox CX0 1 C fE fdE ["self", "other"] (spEqR K C) E0 := ⟨GE, aE, iE, bE, pass0⟩
    have eqO := op_eqO qe hr1
    have neO := op_neO qe hr2 TQ.ne I.hm
    refine ⟨_, (pss_cons (ps_set (i := 1) scL.nd rfl (Or.inl rfl) (pe_call GN hr3 (by rfl) gN FN.kp bN .nil pass0 (pa_cons (pv 0) (pa_cons pe_int pa_nil))))
      (pss_cons (ps_set (i := 2) scL.nd rfl (Or.inl rfl) (pe_call GN hr3 (by rfl) gN FN.kp bN .nil pass0 (pa_cons (pv 0) (pa_cons pe_int pa_nil))))
      (pss_cons (ps_set (i := 3) scL.nd rfl (Or.inl rfl) (pe_op op_sub (pe_ix ix_list (pe_call GD hr2 (by rfl) gD FD.kp bD .nil pass0 (pa_cons (pv 0) (pa_cons pe_int (pa_cons pe_int (pa_cons pe_int pa_nil))))) pe_int fun _ _ => rfl) pe_int))
      (C8.pss_cut (ps_if (pt_cmpR op_eq (pe_op op_modN (pe_callTy call_int1 (by rfl) T.int (by decide +kernel) (pa_cons (pe_call GC hr1 (by rfl) gC FC.kp bC .nil pass0 (pa_cons (pv 0) (pa_cons pe_int pa_nil))) pa_nil)) pe_int) pe_int (nomark _)) (pss_one (ps_set (i := 2) scL.nd rfl (Or.inl rfl) pe_int)) pss_nil)
      (pss_cons (ps_if (pt_not (pt_val (pe_call GF hr43 (by rfl) gF FF.kp bF .nil pass0 (pa_cons (pv 1) pa_nil)))) (pss_one (ps_ret pe_bl)) pss_nil)
      (pss_cons (ps_if (PW.pt (pw_or (pt_cmpR (op_neD hr.units) (pe_call GP hr2 (by rfl) gP FP.kp bP .nil pass0 (pa_cons (pe_call0 GZ hr43 (by rfl) gZ FZ.kp bZ .nil pass0) pa_nil)) (pe_tup (pa_cons pe_int (pa_cons pe_int pa_nil))) (nomark _)) (pw_or (pt_cmpR (op_neD hr.units) (pe_call GP hr2 (by rfl) gP FP.kp bP .nil pass0 (pa_cons (pe_call0 GO hr43 (by rfl) gO FO.kp bO .nil pass0) pa_nil)) (pe_tup (pa_cons pe_int (pa_cons pe_int pa_nil))) (nomark _)) (pw_or1 (pt_cmpR (op_neD hr.units) (pe_call GP hr2 (by rfl) gP FP.kp bP .nil pass0 (pa_cons (pe_make M.cm M.fn hrM (by rfl) R.mgC M.b1 M.v1 passL (pa_cons (pv 1) pa_nil)) pa_nil)) (pe_tup (pa_cons (pv 1) (pa_cons pe_int pa_nil))) (nomark _)))))) (pss_one (ps_ret pe_bl)) pss_nil)
      (pss_cons (ps_if (pt_cmpR op_eq (pv 2) pe_int (nomark _)) (pss_one (ps_ret pe_bl)) pss_nil)
      (pss_cons (ps_set (i := 4) scL.nd rfl (Or.inl rfl) (pe_call GP hr2 (by rfl) gP FP.kp bP .nil pass0 (pa_cons (pe_make M.cm M.fn hrM (by rfl) R.mgC M.b2 .nil passL (pa_cons (pv 1) (pa_cons (pv 2) pa_nil))) pa_nil)))
      (pss_cons (ps_if (PW.pt (pw_or (pt_cmpR op_isN (pv 4) pe_non (nomark _)) (pw_or1 (pt_cmpR op_ne (pe_op op_mulB (pe_ix ix_tup (pv 4) pe_int fun _ _ => rfl) (pv 2)) (pe_op op_mulB (pv 1) (pe_ix ix_tup (pv 4) pe_int fun _ _ => rfl)) (nomark _))))) (pss_one (ps_ret pe_bl)) pss_nil)
      (C8.pss_cut (ps_if (pt_cmpR op_eq (pv 3) pe_int (nomark _)) (pss_one (ps_set (i := 3) scL.nd rfl (Or.inl rfl) pe_int)) pss_nil)
      (pss_cons (ps_if (PW.pt (pw_or (pt_cmpR neO (pe_make M.cm M.fn hrM (by rfl) R.mgC M.b2 .nil passL (pa_cons (pv 1) (pa_cons (pv 2) pa_nil))) (pe_make M.cm M.fn hrM (by rfl) R.mgC M.b2 .nil passL (pa_cons (pe_op op_mulB (pv 1) (pv 3)) (pa_cons (pe_op op_mulB (pv 2) (pv 3)) pa_nil))) (nomark _)) (pw_or1 (pt_not (pt_cmpR eqO (pe_make M.cm M.fn hrM (by rfl) R.mgC M.b2 .nil passL (pa_cons (pv 1) (pa_cons (pv 2) pa_nil))) (pe_make M.cm M.fn hrM (by rfl) R.mgC M.b2 .nil passL (pa_cons (pe_un un_neg (pv 1)) (pa_cons (pe_un un_neg (pv 2)) pa_nil))) (nomark _)))))) (pss_one (ps_ret pe_bl)) pss_nil)
      (pss_cons (ps_if (PW.pt (pw_and (pt_cmpR eqO (pe_make M.cm M.fn hrM (by rfl) R.mgC M.b2 .nil passL (pa_cons (pv 1) (pa_cons (pv 2) pa_nil))) (pe_make M.cm M.fn hrM (by rfl) R.mgC M.b2 .nil passL (pa_cons (pe_op op_add (pe_op op_mulB (pv 1) (pv 3)) (pv 2)) (pa_cons (pe_op op_mulB (pv 2) (pv 3)) pa_nil))) (nomark _)) (pw_and1 (pt_cmpR op_ne (pe_op op_mulB (pe_op op_mulB (pv 2) (pv 3)) (pv 1)) (pe_op op_mulB (pv 2) (pe_op op_add (pe_op op_mulB (pv 1) (pv 3)) (pv 2))) (nomark _))))) (pss_one (ps_ret pe_bl)) pss_nil)
      (pss_one (ps_ret (pe_and (pe_cmpR neO (pe_make M.cm M.fn hrM (by rfl) R.mgC M.b2 .nil passL (pa_cons (pv 1) (pa_cons (pv 2) pa_nil))) (pv 4) (nomark _)) (pe_and (pe_cmpR neO (pe_make M.cm M.fn hrM (by rfl) R.mgC M.b2 .nil passL (pa_cons (pv 1) (pa_cons pe_int pa_nil))) (pv 1) (nomark _)) (pe_one (pe_not (pe_cmpR eqO (pe_make M.cm M.fn hrM (by rfl) R.mgC M.b2 .nil passL (pa_cons (pv 1) (pa_cons (pv 2) pa_nil))) pe_non (nomark _)))))))))))))))))))), ?_⟩
    refine ⟨_, rfl, a, ns, 0, rfl, hS, by decide, fun n H1 bn s1 => ?_⟩
    refine ⟨_, rfl, a, ns, 1, rfl, hS.same s1, by decide, fun d0 H2 bd0 s2 => ?_⟩
    have S2 : Scr K H2 a ns := (hS.same s1).same s2
    refine ⟨_, rfl, a, ns, 2, 1, 18, rfl, S2.1, by decide, by decide, by decide, by decide, fun ds3 H3 l hR s3 hl hL => ?_⟩
    obtain ⟨z, rfl⟩ : ∃ z, ds3 = [z] := by
      have := hR.1
      match ds3, this with
      | [z], _ => exact ⟨z, rfl⟩
    have hz := hR.2 z (by simp)
    refine ⟨l, _, _, _, rfl, rfl, SqL.of hL, atI_of (k := 0) rfl, _, _, rfl, rfl, ?_⟩
    refine ⟨fun σ' H' => ∃ d : Int, σ' = [some (.ref a), some (.int n), some (.int d), some (.int (z - 9)), none] ∧ intBits d ≤ 1048576, ?_, ?_⟩
    · exact ⟨_, rfl, a, ns, 2, rfl, (S2.same s3).1, .inl ⟨_, rfl, _, _, rfl, rfl, (by show (9 : Int) ≠ 0; decide), rfl, _, rfl, ite2 (fun _ => ⟨0, rfl, Nat.zero_le _⟩) (fun _ => ⟨d0, rfl, bd0⟩)⟩⟩
    rintro σ' H3' ⟨d, rfl, bd⟩
    refine ⟨_, rfl, n, rfl, fun H4 s4 => ⟨true, rfl, iteF ?_⟩⟩
    refine ⟨rfl, fun p H5 r s5 np => ⟨p, 0, 1, rfl, r, by decide, by decide, fun H6 t s6 nt ht => ⟨(by show 2 ≤ sizeLine; decide), fun u nu => ne_pair (same_upd nu _ _ ht) upd_same ⟨_, rfl, iteF ?_⟩⟩⟩⟩
    refine ⟨rfl, fun p H7 r s7 np => ⟨p, 1, 1, rfl, r, by decide, by decide, fun H8 t s8 nt ht => ⟨(by show 2 ≤ sizeLine; decide), fun u nu => ne_pair (same_upd nu _ _ ht) upd_same ⟨_, rfl, iteF ?_⟩⟩⟩⟩
    refine ⟨_, rfl, ?_⟩
    refine fun p dxp np ndp nep => ⟨p, dxp, _, _, rfl, upd_same, fun zz => absurd zz (by decide), fun _ H9 r kk => ⟨rfl, ?_⟩⟩
    have s9 := Same.made np ndp kk
    refine ⟨p, n, 1, rfl, by rw [(n_one n).1, (n_one n).2] at r; exact r, by decide, Nat.gcd_one_right _, fun H10 t s10 nt ht => ⟨_, rfl, (by show 2 ≤ sizeLine; decide), fun u nu => ne_pair (same_upd nu _ _ ht) upd_same ⟨_, rfl, iteF ?_⟩⟩⟩
    refine ⟨_, rfl, rfl, _, rfl, ite2 (fun _ => k _) (fun c => ?_)⟩
    have hd : d ≠ 0 := by simpa using c
    refine ⟨_, rfl, _, rfl, ?_⟩
    refine fun p dxp np ndp nep => ⟨p, dxp, _, _, rfl, upd_same, fun zz => absurd zz hd, fun _ H11 r kk => ⟨rfl, ?_⟩⟩
    have s11 := Same.made np ndp kk
    refine ⟨p, _, _, rfl, r, nD_pos hd, n_gcd hd, fun H12 t s12 nt ht => ?_⟩
    have bp : intBits (nN n d) ≤ 1048576 := bits_nN bn
    have bq : intBits (nD n d) ≤ 1048576 := bits_nD bd
    refine ⟨_, rfl, rfl, _, rfl, iteF ?_⟩
    refine ⟨_, rfl, t, _, _, _, rfl, rfl, SqT.of ht, atI_of (k := 0) rfl, _, rfl, _, _, rfl, rfl, (by show intBits (nN n d) + intBits d ≤ 134217728; omega), _, rfl, _, rfl, t, _, _, _, rfl, rfl, SqT.of ht, atI_of (k := 1) rfl, _, _, rfl, rfl, (by show intBits n + intBits (nD n d) ≤ 134217728; omega), rfl, _, rfl, ite2 (fun c => absurd (n_cross (n := n) hd) (by simpa using c)) (fun _ => ?_)⟩
    refine ⟨fun σ' H' => ∃ m : Int, σ' = [some (.ref a), some (.int n), some (.int d), some (.int m), some (.ref t)] ∧ m ≠ 0 ∧ intBits m ≤ 64 ∧ H' t = some (.tup [.int (nN n d), .int (nD n d)]), ?_, ?_⟩
    · exact ⟨_, rfl, rfl, _, rfl, ite2 (fun _ => ⟨7, rfl, by decide, by decide, ht⟩) (fun c => ⟨z - 9, rfl, by simpa using c, PySem.intBits_le_iff.mpr (by omega), ht⟩)⟩
    rintro σ' K0 ⟨m, rfl, hm, bm, ht⟩
    have hdm : d * m ≠ 0 := Int.mul_ne_zero hd hm
    have b1 : intBits (n * m) ≤ 1048640 := PySem.intBits_mul_le bn bm
    have b2 : intBits (d * m) ≤ 1048640 := PySem.intBits_mul_le bd bm
    have b3 : intBits (n * m + d) ≤ 1048641 := PySem.intBits_add_le b1 bd
    have w1 : intBits n + intBits m ≤ 134217728 := by omega
    have w2 : intBits d + intBits m ≤ 134217728 := by omega
    have e1 := n_uniq (a := n) (b := d) (c := n * m) (d := d * m) hd hdm (by ac_rfl)
    have e2 := n_uniq (a := n) (b := d) (c := -n) (d := -d) hd (by omega) (by rw [Int.mul_neg, Int.neg_mul])
    have tc : d * m * n = d * (n * m + d) ∨ ¬ (nN n d = nN (n * m + d) (d * m) ∧ nD n d = nD (n * m + d) (d * m)) := by
      by_cases e : nN n d = nN (n * m + d) (d * m) ∧ nD n d = nD (n * m + d) (d * m)
      · refine .inl ?_
        have q := n_same hd hdm e.1 e.2
        rw [Int.mul_comm d (n * m + d), ← q, Int.mul_comm]
      · exact .inr e
    -- Ratio(n, d) != Ratio(n * m, d * m) or not Ratio(n, d) == Ratio(-n, -d)
    refine ⟨_, rfl, _, rfl, ?_⟩
    refine fun p1 dxp1 n1 ndp1 nep1 => ⟨p1, dxp1, _, _, rfl, upd_same, fun zz => absurd zz hd, fun _ K1 r1 kk => ⟨rfl, ?_⟩⟩
    have t1 := Same.made n1 ndp1 kk
    refine ⟨_, rfl, _, rfl, _, _, rfl, rfl, w1, _, rfl, _, rfl, _, _, rfl, rfl, w2, ?_⟩
    refine fun p2 dxp2 n2 ndp2 nep2 => ⟨p2, dxp2, _, _, rfl, upd_same, fun zz => absurd zz hdm, fun _ K2 r2 kk => ⟨rfl, ?_⟩⟩
    have t2 := Same.made n2 ndp2 kk
    refine rEqO_rat R I (r1.same t2) r2 ⟨_, rfl, ?_⟩
    rw [decide_eq_true e1]
    refine iteF ⟨_, rfl, _, rfl, ?_⟩
    refine fun p3 dxp3 n3 ndp3 nep3 => ⟨p3, dxp3, _, _, rfl, upd_same, fun zz => absurd zz hd, fun _ K3 r3 kk => ⟨rfl, ?_⟩⟩
    have t3 := Same.made n3 ndp3 kk
    refine ⟨_, rfl, _, rfl, _, rfl, _, rfl, ?_⟩
    refine fun p4 dxp4 n4 ndp4 nep4 => ⟨p4, dxp4, _, _, rfl, upd_same, fun zz => absurd zz (by omega), fun _ K4 r4 kk => ⟨rfl, ?_⟩⟩
    have t4 := Same.made n4 ndp4 kk
    refine rEqO_rat R I (r3.same t4) r4 ⟨_, rfl, ?_⟩
    rw [decide_eq_true e2]
    refine iteF ?_
    -- Ratio(n, d) == Ratio(n * m + d, d * m) and d * m * n != d * (n * m + d)
    refine ⟨_, rfl, _, rfl, ?_⟩
    refine fun p5 dxp5 n5 ndp5 nep5 => ⟨p5, dxp5, _, _, rfl, upd_same, fun zz => absurd zz hd, fun _ K5 r5 kk => ⟨rfl, ?_⟩⟩
    have t5 := Same.made n5 ndp5 kk
    refine ⟨_, rfl, _, rfl, _, _, rfl, rfl, w1, _, rfl, _, _, rfl, rfl, _, rfl, _, rfl, _, _, rfl, rfl, w2, ?_⟩
    refine fun p6 dxp6 n6 ndp6 nep6 => ⟨p6, dxp6, _, _, rfl, upd_same, fun zz => absurd zz hdm, fun _ K6 r6 kk => ⟨rfl, ?_⟩⟩
    have t6 := Same.made n6 ndp6 kk
    refine rEqO_rat R I (r5.same t6) r6 ⟨_, rfl, ?_⟩
    have skip : (nN n d = nN (n * m + d) (d * m) ∧ nD n d = nD (n * m + d) (d * m)) → d * m * n = d * (n * m + d) := fun c => tc.resolve_right fun z => z c
    refine ite2 (fun c => ⟨_, rfl, _, rfl, _, _, rfl, rfl, w2, _, rfl, _, _, rfl, rfl, (by show intBits (d * m) + intBits n ≤ 134217728; omega), _, rfl, _, rfl, _, rfl, _, _, rfl, rfl, w1, _, rfl, _, _, rfl, rfl, _, _, rfl, rfl, (by show intBits d + intBits (n * m + d) ≤ 134217728; omega), rfl, _, rfl,
      ite2 (fun c2 => absurd (skip (of_decide_eq_true c)) (by simpa using c2)) (fun _ => ?_)⟩) (fun _ => ?_)
    all_goals
      -- Ratio(n, d) != told and Ratio(n, 1) != n and not Ratio(n, d) == None
      refine ⟨_, rfl, _, rfl, ?_⟩
      refine fun p7 dxp7 n7 ndp7 nep7 => ⟨p7, dxp7, _, _, rfl, upd_same, fun zz => absurd zz hd, fun _ K7 r7 kk => ⟨rfl, ?_⟩⟩
      have t7 := Same.made n7 ndp7 kk
      refine ⟨_, rfl, rEqO_other r7 (.base (.tup (t7 _ _ (t6 _ _ (t5 _ _ (t4 _ _ (t3 _ _ (t2 _ _ (t1 _ _ ht))))))))) TQ.nT TQ.kT ⟨_, rfl, iteT ?_⟩⟩
      refine ⟨_, rfl, ?_⟩
      refine fun p8 dxp8 n8 ndp8 nep8 => ⟨p8, dxp8, _, _, rfl, upd_same, fun zz => absurd zz (by decide), fun _ K8 r8 kk => ⟨rfl, ?_⟩⟩
      have t8 := Same.made n8 ndp8 kk
      refine ⟨_, rfl, rEqO_other r8 (.base (.int n)) TQ.nI TQ.kI ⟨_, rfl, iteT ?_⟩⟩
      refine ⟨_, rfl, _, rfl, ?_⟩
      refine fun p9 dxp9 n9 ndp9 nep9 => ⟨p9, dxp9, _, _, rfl, upd_same, fun zz => absurd zz hd, fun _ K9 r9 kk => ⟨rfl, ?_⟩⟩
      have t9 := Same.made n9 ndp9 kk
      have q9 : rEqO K C false (spEqR K C) E0 (V.ref p9) V.non K9 (fun x H1 => ∃ c, x = V.bl c ∧ Q (V.bl !c) H1) := rEqO_other r9 (.base .non) TQ.nN TQ.kN ⟨_, rfl, k _⟩
      exact q9
end
end Ind

set_option Elab.async false
set_option linter.all false
set_option maxRecDepth 100000
set_option maxHeartbeats 4000000
namespace Ind
open PySem PySem.Spec PyProof.Rows L2
open Builtin.Int (intBits)
/-! ### the end of a law's row, where the base is known to let a long division run -/
section
variable {K L : PySem.W.Frag} {h base : Heap}
theorem look_app (K L : PySem.W.Frag) (a : Addr) : (K ++ L).lookup a = (K.lookup a).or (L.lookup a) := List.lookup_append
theorem ext_in (X : K.In h) (hL : ∀ p ∈ L, h.get? p.1 = some p.2) : PySem.W.Frag.In (K ++ L) h := fun a o e => by
  rw [look_app] at e
  cases q : K.lookup a with
  | some u =>
    rw [q] at e
    have e1 : u = o := Option.some.inj e
    exact X a o (e1 ▸ q)
  | none =>
    rw [q] at e
    have e2 : L.lookup a = some o := e
    obtain ⟨l1, l2, e3, _⟩ := List.lookup_eq_some_iff.mp e2
    exact hL (a, o) (by rw [e3]; simp)
theorem ext_at (X : K.In h) (hL : ∀ p ∈ L, h.get? p.1 = some p.2) (B : PySem.W.Frag.In (K ++ L) base) {a : Addr} {o : Obj} (hp : (a, o) ∈ L) : base.get? a = some o := by
  cases q : List.lookup a (K ++ L) with
  | none =>
    rw [look_app] at q
    have q2 : L.lookup a = none := by
      cases z : K.lookup a with
      | some u => rw [z] at q; cases q
      | none => rw [z] at q; exact q
    have := List.lookup_eq_none_iff.mp q2 (a, o) hp
    simp at this
  | some u =>
    have h1 : h.get? a = some u := ext_in X hL a u q
    have h2 := hL (a, o) hp
    rw [h1] at h2
    cases h2
    exact B a o q
theorem app_in (B : PySem.W.Frag.In (K ++ L) base) : K.In base := fun a o e => B a o (by rw [look_app, e]; rfl)
end
/-- the objects that a long division asks for -/
structure Seen (h : Heap) (L : PySem.W.Frag) : Prop where
  at_ : ∀ p ∈ L, h.get? p.1 = some p.2
  no : ∀ p ∈ L, p.2.cls ≠ .type "list" ∨ ∃ es ep, p.2.data = .dict es ep
  far : ∀ base : Heap, (∀ a o, (a, o) ∈ L → base.get? a = some o) → base.NoSeer
theorem seen_of {h : Heap} (x : h.NoSeer) : ∃ L, Seen h L := by
  obtain ⟨⟨m1, ⟨o1, e1, p1, g1, d1, r1⟩, s1, s2⟩, ⟨m2, ⟨o2, e2, p2, g2, d2, r2⟩, s3⟩, ⟨m3, ⟨o3, e3, p3, g3, d3, r3⟩, s4⟩, ⟨m4, bm, ob, ⟨o4, e4, p4, g4, d4, r4⟩, s5, g5, c5, s6⟩⟩ := x
  refine ⟨[(cStatics, o1), (sysModules, o2), (builtinsNs, o3), (mainGlobals, o4), (bm, ob)], ⟨fun p hp => ?_, fun p hp => ?_, fun base k => ?_⟩⟩
  · simp only [List.mem_cons, List.not_mem_nil, or_false] at hp
    rcases hp with rfl | rfl | rfl | rfl | rfl <;> assumption
  · simp only [List.mem_cons, List.not_mem_nil, or_false] at hp
    rcases hp with rfl | rfl | rfl | rfl | rfl
    · exact .inr ⟨_, _, d1⟩
    · exact .inr ⟨_, _, d2⟩
    · exact .inr ⟨_, _, d3⟩
    · exact .inr ⟨_, _, d4⟩
    · exact .inl (by show ob.cls ≠ _; rw [c5]; intro z; exact absurd (Value.type.inj z) (by decide))
  · exact ⟨⟨m1, ⟨o1, e1, p1, k _ _ (by simp), d1, r1⟩, s1, s2⟩, ⟨m2, ⟨o2, e2, p2, k _ _ (by simp), d2, r2⟩, s3⟩, ⟨m3, ⟨o3, e3, p3, k _ _ (by simp), d3, r3⟩, s4⟩, ⟨m4, bm, ob, ⟨o4, e4, p4, k _ _ (by simp), d4, r4⟩, s5, k _ _ (by simp), c5, s6⟩⟩
theorem sql_app {K L : PySem.W.Frag} {h : Heap} (S : Seen h L) {H : Hp} {a : Addr} {xs : List V} (q : SqL (K ++ L) H a xs) : SqL K H a xs := by
  rcases q with q | ⟨o, its, n, lk, c, d, dt, r⟩
  · exact .inl q
  · rw [look_app] at lk
    cases z : K.lookup a with
    | some u =>
      rw [z] at lk
      cases lk
      exact .inr ⟨o, its, n, z, c, d, dt, r⟩
    | none =>
      rw [z] at lk
      have lk2 : L.lookup a = some o := lk
      obtain ⟨l1, l2, e3, _⟩ := List.lookup_eq_some_iff.mp lk2
      rcases S.no (a, o) (by rw [e3]; simp) with w | ⟨es, ep, w⟩
      · exact absurd c w
      · rw [show o.data = _ from w] at dt
        cases dt
/-- a def's promise over a larger written part -/
theorem lift_fn {P : Program} {w : World} {K K' : PySem.W.Frag} {mg : Str → Option Value} {base : Heap} {CX : CXT} {k : Nat} {f : Addr} {fd : FuncData} {ps : List Str} {sp : Sp} (kin : K.In base) (F : FnOk P w K mg base CX k f fd ps sp) : FnOk P w K' mg base CX k f fd ps sp :=
  ⟨F.len, fun A outer s H args us vs Q E hr e0 => F.run A outer s H args us vs Q E hr ⟨e0.frames, ⟨kin, e0.mod.glob, e0.mod.blt, e0.mod.nolimit⟩, e0.bs, e0.bsz, e0.funs, e0.frf, e0.hok, e0.bare⟩⟩
theorem walk_far {l : PySem.W.OpenLaw} {n k : Nat} {q : Program} {loose : List Str} {XP : (Str → Option Value) → Heap → Prop} {YP : World → Heap → Prop} {d : DefRec} {K : Params → PySem.W.Frag} {sp : World → Sp} {x : Str}
    (hn : l.most = some n) (hn2 : n ≤ sizeLine) (hdf : d.params.defaults = []) (hr : Room k callerA) (hi : importsNone q = true)
    (hY : ∀ (w : World) (h : Heap), YP w h → (K w.params).In h)
    (F : ∀ (w : World) (mg : Str → Option Value) (fa : Addr) (h : Heap), (K w.params).In h → h.Ns mainGlobals mg → mg d.name = some (.ref fa) →
      ∃ fd : FuncData, (∀ (s : Shared) (u : Value), BindsTo s fd ⟨[u], []⟩ [(x, u)]) ∧
        ∀ base : Heap, (K w.params).In base → base.Ns mainGlobals mg → base.NoSeer → FnOk l.prog w (K w.params) mg base CX0 k fa fd [x] (sp w))
    (hsp : ∀ (w : World) (H : Hp) (a : Addr) (ns : List Int), ns.length ≤ n → (∀ z ∈ ns, intBits z ≤ 1048576) → SqL (K w.params) H a (ns.map V.int) → sp w [.ref a] H (fun v _ => v = .bl true) fun _ _ _ => False) :
    PySem.W.WalkO q loose XP YP l.row.toRowW d [] (fun f vs => PySem.call f vs) := by
  refine Att.attach_callB hn hdf fun w s₀ s₁ mg mb fa o pm cd doc a vs ns G Y ho hd hcd hmg hobj hints hlen hbits hg => ?_
  have KX := hY w _ Y
  obtain ⟨L, S⟩ := seen_of (G.T.seer hi)
  obtain ⟨fd, hb, hF⟩ := F w mg fa _ KX G.T.g hmg
  refine law_call (K := K w.params ++ L) (CX := CX0) (ext_in KX S.at_) G.T.g G.T.b G.T.builtins G.T.nolimit hg hobj hints (Nat.le_trans hlen hn2) hr (fun base B g => lift_fn (app_in B) (hF base (app_in B) g (S.far base fun a o hp => ext_at KX S.at_ B hp))) hb (fun H _ hS => hsp w H a ns hlen hbits (sql_app S hS)) fun _ _ _ z => z
end Ind

set_option Elab.async false
set_option linter.all false
set_option maxRecDepth 100000
set_option maxHeartbeats 4000000
namespace Ind
open PySem PySem.Spec PyProof.Rows L2
open Builtin.Int (intBits)
theorem all_mk {P : Program} {w : World} {K : PySem.W.Frag} {h : Heap} {mg : Str → Option Value} {fa C Z Fa Ma Nt Rf fE fC fD fG fS fP fN fF fZ fO fL : Addr} (hT : P.given.tree = none) (X : K.In h) (G : h.Ns mainGlobals mg) (hfa : mg "law" = some (.ref fa))
    {ocE kVE dcE pmE cdE ctE : Value} {odE anE : Option Addr} {slE : Array (Option Value)}
    {ocC kVC dcC pmC cdC ctC : Value} {odC anC : Option Addr} {slC : Array (Option Value)}
    {ocD kVD dcD pmD cdD ctD : Value} {odD anD : Option Addr} {slD : Array (Option Value)}
    {ocG kVG dcG pmG cdG ctG : Value} {odG anG : Option Addr} {slG : Array (Option Value)}
    {ocS kVS dcS pmS cdS ctS : Value} {odS anS : Option Addr} {slS : Array (Option Value)}
    {ocP kVP dcP pmP cdP ctP : Value} {odP anP : Option Addr} {slP : Array (Option Value)}
    {ocN kVN dcN pmN cdN ctN : Value} {odN anN : Option Addr} {slN : Array (Option Value)}
    {ocF kVF dcF pmF cdF ctF : Value} {odF anF : Option Addr} {slF : Array (Option Value)}
    {ocZ kVZ dcZ pmZ cdZ ctZ : Value} {odZ anZ : Option Addr} {slZ : Array (Option Value)}
    {ocO kVO dcO pmO cdO ctO : Value} {odO anO : Option Addr} {slO : Array (Option Value)}
    {ocL kVL dcL pmL cdL ctL : Value} {odL anL : Option Addr} {slL : Array (Option Value)}
    {ocI kVI dcI pmI cdI ctI cT : Value} {odI anI ddT : Option Addr} {slI slT : Array (Option Value)} {tT : Tok} {nT : Nat} {fI T' : Addr}
    (aE : PySem.W.findIn K (.ref C) "__eq__" = some (some (.ref fE)))
    (iE : PySem.W.isFn K (.ref fE) = true)
    (lE : K.lookup fE = some ⟨ocE, odE, .func (PySem.W.fnOf "__eq__" "Ratio.__eq__" (defArgs sEq) (defBody sEq) (defScope sEq) .none kVE dcE pmE anE cdE ctE), slE⟩)
    (cE : PySem.W.codeIn K cdE "Ratio.__eq__" = true)
    (kE : PySem.W.keepIn K (.ref fE) = true)
    (aC : PySem.W.nsIn K mainGlobals "_law_cell" = some (some (.ref fC)))
    (lC : K.lookup fC = some ⟨ocC, odC, .func (PySem.W.fnOf "_law_cell" "_law_cell" (defArgs sCell) (defBody sCell) (defScope sCell) .none kVC dcC pmC anC cdC ctC), slC⟩)
    (cC : PySem.W.codeIn K cdC "_law_cell" = true)
    (kC : PySem.W.keepIn K (.ref fC) = true)
    (aD : PySem.W.nsIn K mainGlobals "_law_draws" = some (some (.ref fD)))
    (lD : K.lookup fD = some ⟨ocD, odD, .func (PySem.W.fnOf "_law_draws" "_law_draws" (defArgs sDraws) (defBody sDraws) (defScope sDraws) .none kVD dcD pmD anD cdD ctD), slD⟩)
    (cD : PySem.W.codeIn K cdD "_law_draws" = true)
    (kD : PySem.W.keepIn K (.ref fD) = true)
    (aG : PySem.W.nsIn K mainGlobals "_law_gcd" = some (some (.ref fG)))
    (lG : K.lookup fG = some ⟨ocG, odG, .func (PySem.W.fnOf "_law_gcd" "_law_gcd" (defArgs sGcd) (defBody sGcd) (defScope sGcd) .none kVG dcG pmG anG cdG ctG), slG⟩)
    (cG : PySem.W.codeIn K cdG "_law_gcd" = true)
    (kG : PySem.W.keepIn K (.ref fG) = true)
    (aS : PySem.W.nsIn K mainGlobals "_law_is_integer" = some (some (.ref fS)))
    (lS : K.lookup fS = some ⟨ocS, odS, .func (PySem.W.fnOf "_law_is_integer" "_law_is_integer" (defArgs sIsI) (defBody sIsI) (defScope sIsI) .none kVS dcS pmS anS cdS ctS), slS⟩)
    (cS : PySem.W.codeIn K cdS "_law_is_integer" = true)
    (kS : PySem.W.keepIn K (.ref fS) = true)
    (aP : PySem.W.nsIn K mainGlobals "_law_pair" = some (some (.ref fP)))
    (lP : K.lookup fP = some ⟨ocP, odP, .func (PySem.W.fnOf "_law_pair" "_law_pair" (defArgs sPair) (defBody sPair) (defScope sPair) .none kVP dcP pmP anP cdP ctP), slP⟩)
    (cP : PySem.W.codeIn K cdP "_law_pair" = true)
    (kP : PySem.W.keepIn K (.ref fP) = true)
    (aN : PySem.W.nsIn K mainGlobals "_law_number" = some (some (.ref fN)))
    (lN : K.lookup fN = some ⟨ocN, odN, .func (PySem.W.fnOf "_law_number" "_law_number" (defArgs sNum) (defBody sNum) (defScope sNum) .none kVN dcN pmN anN cdN ctN), slN⟩)
    (cN : PySem.W.codeIn K cdN "_law_number" = true)
    (kN : PySem.W.keepIn K (.ref fN) = true)
    (aF : PySem.W.nsIn K mainGlobals "_law_refused" = some (some (.ref fF)))
    (lF : K.lookup fF = some ⟨ocF, odF, .func (PySem.W.fnOf "_law_refused" "_law_refused" (defArgs sRef) (defBody sRef) (defScope sRef) .none kVF dcF pmF anF cdF ctF), slF⟩)
    (cF : PySem.W.codeIn K cdF "_law_refused" = true)
    (kF : PySem.W.keepIn K (.ref fF) = true)
    (aZ : PySem.W.nsIn K mainGlobals "zero" = some (some (.ref fZ)))
    (lZ : K.lookup fZ = some ⟨ocZ, odZ, .func (PySem.W.fnOf "zero" "zero" (defArgs sZero) (defBody sZero) (defScope sZero) .none kVZ dcZ pmZ anZ cdZ ctZ), slZ⟩)
    (cZ : PySem.W.codeIn K cdZ "zero" = true)
    (kZ : PySem.W.keepIn K (.ref fZ) = true)
    (aO : PySem.W.nsIn K mainGlobals "one" = some (some (.ref fO)))
    (lO : K.lookup fO = some ⟨ocO, odO, .func (PySem.W.fnOf "one" "one" (defArgs sOne) (defBody sOne) (defScope sOne) .none kVO dcO pmO anO cdO ctO), slO⟩)
    (cO : PySem.W.codeIn K cdO "one" = true)
    (kO : PySem.W.keepIn K (.ref fO) = true)
    (aL : PySem.W.nsIn K mainGlobals "law" = some (some (.ref fL)))
    (lL : K.lookup fL = some ⟨ocL, odL, .func (PySem.W.fnOf "law" "law" (defArgs sLaw) (defBody sLaw) (defScope sLaw) .none kVL dcL pmL anL cdL ctL), slL⟩)
    (cL : PySem.W.codeIn K cdL "law" = true)
    (kL : PySem.W.keepIn K (.ref fL) = true)
    (aI : PySem.W.findIn K (.ref C) "__init__" = some (some (.ref fI)))
    (iI : PySem.W.isFn K (.ref fI) = true)
    (lI : K.lookup fI = some ⟨ocI, odI, .func (PySem.W.fnOf "__init__" "Ratio.__init__" (defArgs sInit) (defBody sInit) (defScope sInit) (.ref T') kVI dcI pmI anI cdI ctI), slI⟩)
    (lT : K.lookup T' = some ⟨cT, ddT, .seq #[.int 1 tT] nT, slT⟩)
    (cI : PySem.W.codeIn K cdI "Ratio.__init__" = true)
    (kI : PySem.W.keepIn K (.ref fI) = true)
    (gC : PySem.W.nsIn K mainGlobals "Ratio" = some (some (.ref C)))
    (pg : PySem.W.plainGet K C Str.empty = true)
    (hd : PySem.W.hasDictIn K C = true)
    (po : PySem.W.plainOver K C = true)
    (sa : PySem.W.findIn K (.ref C) "__setattr__" = some (some (.builtin "object.__setattr__")))
    (mk : PySem.W.makesIn K C = true)
    (kpC : PySem.W.keepIn K (.ref C) = true)
    (nN : PySem.W.findIn K (.ref C) "n" = some none)
    (nD : PySem.W.findIn K (.ref C) "d" = some none)
    (gG : PySem.W.nsIn K mainGlobals "gcd" = some (some (.builtin "math.gcd")))
    (xZ : PySem.W.excIn K Z [.type "ValueError", .type "Exception", .type "BaseException", .type "object"] "ValueError.__new__" = true)
    (gZ : PySem.W.nsIn K mainGlobals "ZeroDivisor" = some (some (.ref Z)))
    (kpZ : PySem.W.keepIn K (.ref Z) = true)
    (bZ : PySem.W.subIn K (.ref Z) (.type "BaseException") = some true)
    (tZ : PySem.W.typeIn K (.ref Z) = some (.type "type"))
    (zlen : PySem.W.nsIn K mainGlobals "len" = some none)
    (zrange : PySem.W.nsIn K mainGlobals "range" = some none)
    (zint : PySem.W.nsIn K mainGlobals "int" = some none)
    (zabs : PySem.W.nsIn K mainGlobals "abs" = some none)
    (zisi : PySem.W.nsIn K mainGlobals "isinstance" = some none)
    (zbool : PySem.W.nsIn K mainGlobals "bool" = some none)
    (zV : PySem.W.nsIn K mainGlobals "ValueError" = some none)
    (ca : PySem.W.findIn K (.ref C) "__class__" = some (some (.builtin "object.__class__")))
    (cn : PySem.W.specialIn K (.builtin "object.__class__") "__get__" = some (some (.builtin "getset_descriptor.__get__")))
    (ct : PySem.W.takesIn K (.builtin "object.__class__") = some true)
    (cm : PySem.W.mroIn K C (.type "object") = some true)
    (ck : PySem.W.kitOne K (.ref C) (.ref C) = some true)
    (gFa : PySem.W.nsIn K mainGlobals "Fault" = some (some (.ref Fa)))
    (gMa : PySem.W.nsIn K mainGlobals "Malformed" = some (some (.ref Ma)))
    (gNt : PySem.W.nsIn K mainGlobals "NoText" = some (some (.ref Nt)))
    (gRf : PySem.W.nsIn K mainGlobals "Refused" = some (some (.ref Rf)))
    (bFa : PySem.W.subIn K (.ref Fa) (.type "BaseException") = some true)
    (hFa : PySem.W.hasDictIn K Fa = true)
    (tFa : PySem.W.typeIn K (.ref Fa) = some (.type "type"))
    (sZF : PySem.W.subIn K (.ref Z) (.ref Fa) = some true)
    (eg : PySem.W.findIn K (.ref Z) "__getattribute__" = some (some (.builtin "BaseException.__getattribute__")))
    (ek : PySem.W.findIn K (.ref Z) "__getattr__" = some none)
    (ed : PySem.W.hasDictIn K Z = true)
    (ea : PySem.W.findIn K (.ref Z) "__class__" = some (some (.builtin "object.__class__")))
    (em : PySem.W.mroIn K Z (.type "object") = some true)
    (q1 : PySem.W.kitOne K (.ref Z) (.ref Z) = some true)
    (q2 : PySem.W.kitOne K (.ref Z) (.type "ValueError") = some true)
    (q3 : PySem.W.kitAny K (.ref Z) [.ref Ma, .ref Nt, .ref Rf] = some false)
    (ne : PySem.W.findIn K (.ref C) "__ne__" = some (some (.builtin "object.__ne__")))
    (r1 : PySem.W.notFirst K C (.type "tuple") = true)
    (r2 : PySem.W.kitOne K (.type "tuple") (.ref C) = some false)
    (r3 : PySem.W.notFirst K C (.type "int") = true)
    (r4 : PySem.W.kitOne K (.type "int") (.ref C) = some false)
    (r5 : PySem.W.notFirst K C (.type "NoneType") = true)
    (r6 : PySem.W.kitOne K (.type "NoneType") (.ref C) = some false) :
    ∃ fd : FuncData, (∀ (s : Shared) (v : Value), BindsTo s fd ⟨[v], []⟩ [("script", v)]) ∧ ∀ base : Heap, K.In base → base.Ns mainGlobals mg → base.NoSeer → FnOk P w K mg base CX0 60 fa fd ["script"] (spLaw K) := by
  have e := hfa.symm.trans (PySem.W.mg_of X G aL)
  cases e
  have T : TxL K mg := ⟨PySem.W.mg_none_of X G zlen, PySem.W.mg_none_of X G zrange, PySem.W.mg_none_of X G zint, PySem.W.mg_none_of X G zabs, PySem.W.mg_none_of X G zisi, PySem.W.mg_none_of X G zbool⟩
  have R : TxR K mg C Z := ⟨⟨pg, hd, po, sa⟩, nN, nD, PySem.W.mg_of X G gC, PySem.W.mg_of X G gG, xZ, PySem.W.mg_of X G gZ, kpZ, bZ, tZ⟩
  have I : TxI K C := ⟨ca, cn, ct, cm, ck⟩
  have E : TxE K mg Z Fa Ma Nt Rf := ⟨PySem.W.mg_of X G gFa, PySem.W.mg_of X G gMa, PySem.W.mg_of X G gNt, PySem.W.mg_of X G gRf, PySem.W.mg_none_of X G zV, PySem.W.exm_ref bFa hFa tFa sZF, ⟨eg, ek, bZ, ed, ea, cn, ct, em⟩, q1, q2, q3⟩
  have TQ : TxQ K C := ⟨ne, r1, r2, r3, r4, r5, r6⟩
  have FE := fun_mk (st := sEq) lE cE kE
  have bE := FE.binds (ps := ["self", "other"]) fun _ _ _ _ _ _ us hl => match us, hl with | [_, _], _ => rfl
  have FC := fun_mk (st := sCell) lC cC kC
  have bC := FC.binds (ps := ["script", "k"]) fun _ _ _ _ _ _ us hl => match us, hl with | [_, _], _ => rfl
  have FD := fun_mk (st := sDraws) lD cD kD
  have bD := FD.binds (ps := ["script", "at", "count", "bound"]) fun _ _ _ _ _ _ us hl => match us, hl with | [_, _, _, _], _ => rfl
  have FG := fun_mk (st := sGcd) lG cG kG
  have bG := FG.binds (ps := ["a", "b"]) fun _ _ _ _ _ _ us hl => match us, hl with | [_, _], _ => rfl
  have FS := fun_mk (st := sIsI) lS cS kS
  have bS := FS.binds (ps := ["value"]) fun _ _ _ _ _ _ us hl => match us, hl with | [_], _ => rfl
  have FP := fun_mk (st := sPair) lP cP kP
  have bP := FP.binds (ps := ["value"]) fun _ _ _ _ _ _ us hl => match us, hl with | [_], _ => rfl
  have FN := fun_mk (st := sNum) lN cN kN
  have bN := FN.binds (ps := ["script", "at"]) fun _ _ _ _ _ _ us hl => match us, hl with | [_, _], _ => rfl
  have FF := fun_mk (st := sRef) lF cF kF
  have bF := FF.binds (ps := ["n"]) fun _ _ _ _ _ _ us hl => match us, hl with | [_], _ => rfl
  have FZ := fun_mk (st := sZero) lZ cZ kZ
  have bZ' := FZ.binds (ps := []) fun _ _ _ _ _ _ us hl => match us, hl with | [], _ => rfl
  have FO := fun_mk (st := sOne) lO cO kO
  have bO := FO.binds (ps := []) fun _ _ _ _ _ _ us hl => match us, hl with | [], _ => rfl
  have FL := fun_mk (st := sLaw) lL cL kL
  have FI : FunD K "__init__" "Ratio.__init__" (defArgs sInit) (defBody sInit) (defScope sInit) [.int 1] [] fI (PySem.W.fnOf "__init__" "Ratio.__init__" (defArgs sInit) (defBody sInit) (defScope sInit) (.ref T') kVI dcI pmI anI cdI ctI) :=
    ⟨⟨_, _, _, _, _, _, _, _, _, _, rfl, lI, cI, .inr ⟨(by simp), _, _, [.int 1 tT], nT, rfl, lT, rfl, .cons ⟨tT, rfl⟩ .nil⟩, .inl rfl⟩, kI⟩
  obtain ⟨ds2, v2, b2⟩ := FI.binds1 (ps := ["self", "n", "d"]) 3 1 (by simp) rfl (fun T kV doc pm an cdv ct us its h1 h2 => match us, its, h1, h2 with | [_, _, _], [_], _, _ => ⟨_, rfl, rfl⟩)
  obtain ⟨ds1, v1, b1⟩ := FI.binds1 (ps := ["self", "n", "d"]) 2 0 (by simp) rfl (fun T kV doc pm an cdv ct us its h1 h2 => match us, its, h1, h2 with | [_, _], [_], _, _ => ⟨_, rfl, rfl⟩)
  cases v2
  refine ⟨(PySem.W.fnOf "law" "law" (defArgs sLaw) (defBody sLaw) (defScope sLaw) .none kVL dcL pmL anL cdL ctL), fun s v => .of_eq rfl, fun base _ _ hN => ?_⟩
  have M : MkR P w K mg base C Z fI _ ds1 := ⟨⟨mk, aI, iI, kpC⟩, ok_init hN hT FI R, b2, b1, v1⟩
  exact ok_law FL T R I M E TQ FE bE aE iE FC bC (PySem.W.mg_of X G aC) FD bD (PySem.W.mg_of X G aD) FG bG (PySem.W.mg_of X G aG) FS bS (PySem.W.mg_of X G aS) FP bP (PySem.W.mg_of X G aP) FN bN (PySem.W.mg_of X G aN) FF bF (PySem.W.mg_of X G aF) FZ bZ' (PySem.W.mg_of X G aZ) FO bO (PySem.W.mg_of X G aO)
theorem walk {l : PySem.W.OpenLaw} {q : Program} {loose : List Str} {XP : (Str → Option Value) → Heap → Prop} {YP : World → Heap → Prop} {d : DefRec} {K : Params → PySem.W.Frag} (hn : l.most = some 63) (hdf : d.params.defaults = []) (hi : importsNone q = true)
    (hY : ∀ (w : World) (h : Heap), YP w h → (K w.params).In h)
    (F : ∀ (w : World) (mg : Str → Option Value) (fa : Addr) (h : Heap), (K w.params).In h → h.Ns mainGlobals mg → mg d.name = some (.ref fa) →
      ∃ fd : FuncData, (∀ (s : Shared) (u : Value), BindsTo s fd ⟨[u], []⟩ [("script", u)]) ∧ ∀ base : Heap, (K w.params).In base → base.Ns mainGlobals mg → base.NoSeer → FnOk l.prog w (K w.params) mg base CX0 60 fa fd ["script"] (spLaw (K w.params))) :
    PySem.W.WalkO q loose XP YP l.row.toRowW d [] (fun f vs => PySem.call f vs) :=
  walk_far (n := 63) (k := 60) (x := "script") (sp := fun w => spLaw (K w.params)) hn (by decide) hdf ⟨rfl, by decide, by decide⟩ hi hY F fun _ _ a ns _ hb hS => ⟨a, ns, rfl, ⟨hS, hb⟩, fun _ => rfl⟩
end Ind
open PySem PySem.W PyProof.Rows in
set_option maxRecDepth 100000 in
set_option maxHeartbeats 0 in
theorem PySem.Challenge.cw_indicial_k00_lowest_terms_holds : PySem.Challenge.rw_indicial_k00_lowest_terms.Holds := by
  w_on; o_law; k_head; (case hw => w_witness2)
  k_fill
  refine Ind.walk (l := PySem.Challenge.rw_indicial_k00_lowest_terms) rfl rfl (by decide +kernel) (fun w h Y => PySem.W.kIn_of Y) ?F
  case F =>
    intro w mg fa h KX G hmg
    refine' Ind.all_mk rfl KX G hmg ?aE ?iE ?lE ?cE ?kE ?aC ?lC ?cC ?kC ?aD ?lD ?cD ?kD ?aG ?lG ?cG ?kG ?aS ?lS ?cS ?kS ?aP ?lP ?cP ?kP ?aN ?lN ?cN ?kN ?aF ?lF ?cF ?kF ?aZ ?lZ ?cZ ?kZ ?aO ?lO ?cO ?kO ?aL ?lL ?cL ?kL ?aI ?iI ?lI ?lT ?cI ?kI ?gC ?pg ?hd ?po ?sa ?mk ?kpC ?nN ?nD ?gG ?xZ ?gZ ?kpZ ?bZ ?tZ ?zlen ?zrange ?zint ?zabs ?zisi ?zbool ?zV ?ca ?cn ?ct ?cm ?ck ?gFa ?gMa ?gNt ?gRf ?bFa ?hFa ?tFa ?sZF ?eg ?ek ?ed ?ea ?em ?q1 ?q2 ?q3 ?ne ?r1 ?r2 ?r3 ?r4 ?r5 ?r6
    (case gC => k_is)
    (case gZ => k_is)
    (case gFa => k_is)
    (case gMa => k_is)
    (case gNt => k_is)
    (case gRf => k_is)
    (case aE => k_is)
    (case iE => k_is)
    (case lE => k_is)
    (case cE => k_is)
    (case kE => k_is)
    (case aC => k_is)
    (case lC => k_is)
    (case cC => k_is)
    (case kC => k_is)
    (case aD => k_is)
    (case lD => k_is)
    (case cD => k_is)
    (case kD => k_is)
    (case aG => k_is)
    (case lG => k_is)
    (case cG => k_is)
    (case kG => k_is)
    (case aS => k_is)
    (case lS => k_is)
    (case cS => k_is)
    (case kS => k_is)
    (case aP => k_is)
    (case lP => k_is)
    (case cP => k_is)
    (case kP => k_is)
    (case aN => k_is)
    (case lN => k_is)
    (case cN => k_is)
    (case kN => k_is)
    (case aF => k_is)
    (case lF => k_is)
    (case cF => k_is)
    (case kF => k_is)
    (case aZ => k_is)
    (case lZ => k_is)
    (case cZ => k_is)
    (case kZ => k_is)
    (case aO => k_is)
    (case lO => k_is)
    (case cO => k_is)
    (case kO => k_is)
    (case aL => k_is)
    (case lL => k_is)
    (case cL => k_is)
    (case kL => k_is)
    (case aI => k_is)
    (case iI => k_is)
    (case lI => k_is)
    (case lT => k_is)
    (case cI => k_is)
    (case kI => k_is)
    (case pg => k_is)
    (case hd => k_is)
    (case po => k_is)
    (case sa => k_is)
    (case mk => k_is)
    (case kpC => k_is)
    (case nN => k_is)
    (case nD => k_is)
    (case gG => k_is)
    (case xZ => k_exc)
    (case kpZ => k_is)
    (case bZ => k_is)
    (case tZ => k_is)
    (case zlen => k_is)
    (case zrange => k_is)
    (case zint => k_is)
    (case zabs => k_is)
    (case zisi => k_is)
    (case zbool => k_is)
    (case zV => k_is)
    (case ca => k_is)
    (case cn => k_is)
    (case ct => k_is)
    (case cm => k_is)
    (case ck => kit_is)
    (case bFa => k_is)
    (case hFa => k_is)
    (case tFa => k_is)
    (case sZF => k_is)
    (case eg => k_is)
    (case ek => k_is)
    (case ed => k_is)
    (case ea => k_is)
    (case em => k_is)
    (case q1 => kit_is)
    (case q2 => kit_is)
    (case q3 => kit_is)
    (case ne => k_is)
    (case r1 => k_is)
    (case r2 => kit_is)
    (case r3 => k_is)
    (case r4 => kit_is)
    (case r5 => k_is)
    (case r6 => kit_is)
#print axioms PySem.Challenge.cw_indicial_k00_lowest_terms_holds
