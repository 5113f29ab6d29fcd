import PyProof.Rows.All
import Wide.All
import OpenK.AllK
import Wide.FinOn
import HandS.ForMost
import HandS.ForExc
import HandS.EndBits
import HandS.Gcd
import HandS.IsInst
import HandS.ExcIs
import HandS.OwnEq
import HandS.Defaults
import HandS.Wide
import HandS.Property
import KE.IntBitsLaws
import HandS.Iter
import HandS.Walk
import HandS.Codes
import HandS.NamedTupSort
import HandS.TupAny
import HandS.Conv
import HandS.Zip
import KE.GoesZip
import KE.GoesMore
import KE.KOpsOwn
import HandS.TryOnly
import HandS.ExcOwn
import HandS.Deep
import HandS.Style
import KE.RegKIsAll
import PySem.Challenge.RW_indicial_k16_resultants
set_option Elab.async false
set_option linter.all false
set_option maxRecDepth 100000
set_option maxHeartbeats 4000000
namespace Ind
open PySem PySem.Spec PyProof.Rows L2
open Builtin.Int (intBits)

/-! ### operators over ints of any size -/
/-- what a body must show for // of any size -/
structure Far (X : Cx) : Prop where
  seer : X.base.NoSeer
  tree : X.prog.given.tree = none
  stk : X.stack = X.env :: X.outer
  gen : X.env.scope.isGenerator = false
  co : X.env.scope.isCoroutine = false
  room : Room 40 X.A
theorem op_fdivB {X : Cx} (f : Far X) : OpR X (binaryOp .FloorDiv) (rI (fun _ j => j ≠ 0) fun i j => .int (i.fdiv j)) := by
  intro pins s σ H x y v u Q I rx ry h
  obtain ⟨i, j, rfl, rfl, hc, q⟩ := h
  obtain ⟨t, rfl⟩ := rx
  obtain ⟨t', rfl⟩ := ry
  refine floordiv_int hc ⟨.int (i.fdiv j), H, I.tok _, ⟨_, rfl⟩, q⟩ (.inr (PylongRoom.of I.nolimit ?_ (SeerAt.of (env := X.env) (l := X.outer) (f.seer.keeps I.bk) f.tree ?_ f.gen f.co I.ok.blt I.ok.glob)))
  · have h1 := f.room.dp
    have h2 : Builtin.pylongFrames = 100 := rfl
    omega
  · rw [I.ok.frames, f.stk]
theorem op_mulB {X : Cx} : OpR X (binaryOp .Mult) (rI (fun i j => intBits i + intBits j ≤ 134217728) fun i j => .int (i * j)) :=
  opI fun i j _ _ _ _ _ hc q => mul_int q (IntMulOk.of_le (Nat.le_refl _) (Nat.le_refl _) hc)

/-- tracked objects stay -/
theorem same_rfl {H : Hp} : Same H H := fun _ _ e => e
end Ind

set_option Elab.async false
set_option linter.all false
set_option maxRecDepth 100000
set_option maxHeartbeats 4000000
namespace Ind
open PySem PySem.Spec PyProof.Rows L2
open Builtin.Int (intBits)
def top (i : Nat) : Stmt := PySem.Challenge.pw_indicial_k16_resultants.main.body.getD i (.Pass ⟨0, 0, 0, 0⟩)
abbrev sInit : Stmt := inClass (top 18) 0
/-! ### the divisor with the denominator's sign; lowest terms -/
def cg (n d : Int) : Int := if d < 0 then -((Nat.gcd n.natAbs d.natAbs : Nat) : Int) else ((Nat.gcd n.natAbs d.natAbs : Nat) : Int)
def nN (n d : Int) : Int := n.fdiv (cg n d)
def nD (n d : Int) : Int := d.fdiv (cg n d)
theorem cg_ne {n d : Int} (h : d ≠ 0) : cg n d ≠ 0 := by
  have h1 : 0 < Nat.gcd n.natAbs d.natAbs := Nat.gcd_pos_of_pos_right _ (by omega)
  unfold cg
  split <;> omega
/-! ### a number's fields -/
theorem nd_ : ¬ (("n" : Str) = "d") := by decide +kernel
theorem dn_ : ¬ (("d" : Str) = "n") := by decide +kernel
def rf (a b : Int) : List (Str × V) := putF "d" (.int b) (putF "n" (.int a) [])
theorem rf_eq (a b : Int) : rf a b = ([("n", V.int a), ("d", V.int b)] : List (Str × V)) := by
  show (if ("n" : Str) = "d" then [(("n" : Str), V.int b)] else (("n" : Str), V.int a) :: putF "d" (V.int b) []) = ([("n", V.int a), ("d", V.int b)] : List (Str × V))
  rw [if_neg nd_]
  all_goals rfl
theorem rf_n (a b : Int) : (rf a b).lookup ("n" : Str) = some (.int a) := by
  unfold rf
  rw [lookup_putF, if_neg nd_, lookup_putF, if_pos rfl]
theorem rf_d (a b : Int) : (rf a b).lookup ("d" : Str) = some (.int b) := by
  unfold rf
  rw [lookup_putF, if_pos rfl]
theorem rf_no (a b : Int) {m : Str} (h1 : ¬ m = "d") (h2 : ¬ m = "n") : (rf a b).lookup m = none := by
  unfold rf
  rw [lookup_putF, if_neg h1, lookup_putF, if_neg h2]
  all_goals rfl
def RatAt (C : Addr) (H : Hp) (p : Addr) (a b : Int) : Prop := ∃ dx, H p = some (.ins C dx (rf a b))
theorem RatAt.same {C : Addr} {H H' : Hp} {p : Addr} {a b : Int} (r : RatAt C H p a b) (s : Same H H') : RatAt C H' p a b := let ⟨dx, e⟩ := r; ⟨dx, s _ _ e⟩
/-- what the top says of Ratio and of ZeroDivisor -/
structure TxR (K : PySem.W.Frag) (mg : Str → Option Value) (C Z : Addr) : Prop where
  cl : Cls K C
  nN : NoAttr K C "n"
  nD : NoAttr K C "d"
  mgC : mg "Ratio" = some (.ref C)
  gcd : mg "gcd" = some (.builtin "math.gcd")
  xZ : PySem.W.excIn K Z [.type "ValueError", .type "Exception", .type "BaseException", .type "object"] "ValueError.__new__" = true
  gZ : mg "ZeroDivisor" = some (.ref Z)
  kZ : PySem.W.keepIn K (.ref Z) = true
  bZ : PySem.W.subIn K (.ref Z) (.type "BaseException") = some true
  tZ : PySem.W.typeIn K (.ref Z) = some (.type "type")
def spInit (C Z : Addr) : Sp := fun vs H Q E => ∃ (p dx : Addr) (n d : Int), vs = [.ref p, .int n, .int d] ∧ H p = some (.ins C dx []) ∧ (d = 0 → E (.ref Z) none H) ∧
  (d ≠ 0 → ∀ H' : Hp, RatAt C H' p (nN n d) (nD n d) → (∀ b o, H b = some o → b ≠ p → H' b = some o) → Q .non H')
section
variable {P : Program} {w : World} {K : PySem.W.Frag} {mg : Str → Option Value} {base : Heap} {C Z : Addr}
theorem scI : FnScope ["self", "n", "d", "common"] ["self", "n", "d"] (defScope sInit) := ⟨rfl, rfl, rfl, by decide +kernel, rfl, by decide +kernel, by decide +kernel⟩
theorem ok_init {f : Addr} {fd : FuncData} (hN : base.NoSeer) (hT : P.given.tree = none) (F : FunD K "__init__" "Ratio.__init__" (defArgs sInit) (defBody sInit) (defScope sInit) [.int 1] [] f fd) (T : TxR K mg C Z) :
    FnOk P w K mg base (L2.CX P w) 41 f fd ["self", "n", "d"] (spInit C Z) := by
  refine F.ok (CX := L2.CX P w) (k := 40) scI (fun vs H Q E h => ?_) (fun cdv A outer s H vs Q E hr h => ?_)
  · obtain ⟨p, dx, n, d, rfl, _⟩ := h
    rfl
  · obtain ⟨p, dx, n, d, rfl, hp, kz, k⟩ := h
    have far : Far (cxOf (L2.CX P w) P w K mg base ["self", "n", "d", "common"] "Ratio.__init__" (defScope sInit) f cdv A outer s H E) := ⟨hN, hT, rfl, rfl, rfl, hr⟩
    refine ⟨_, pss_cons (ps_if (pt_cmpR op_eq (pv 2) pe_int (nomark _)) (pss_one (ps_raise rfl (takes_of rfl rfl rfl rfl) (pmk_own PySem.F.excBase_ValueError T.xZ T.gZ T.kZ (raises_own T.bZ T.tZ) rfl))) pss_nil)
      (pss_cons (ps_set (i := 3) scI.nd rfl (Or.inl rfl) (pe_callBfun cr_gcd (by rfl) T.gcd (pa_cons (pv 1) (pa_cons (pv 2) pa_nil))))
      (pss_cons (ps_if (pt_cmpR op_lt (pv 2) pe_int (nomark _)) (pss_one (ps_set (i := 3) scI.nd rfl (Or.inl rfl) (pe_un un_neg (pv 3)))) pss_nil)
      (pss_cons (ps_fld (pv 0) (pe_op (op_fdivB far) (pv 1) (pv 3)) rfl)
      (pss_one (ps_fld (pv 0) (pe_op (op_fdivB far) (pv 2) (pv 3)) rfl))))), ?_⟩
    refine ⟨_, rfl, rfl, _, rfl, ite2 (fun c => ?_) (fun c => ?_)⟩
    · exact kz (by simpa using c)
    · have hd : d ≠ 0 := by simpa using c
      refine ⟨_, rfl, _, rfl, _, _, rfl, ?_⟩
      have put : putF "d" (V.int (d.fdiv (cg n d))) (putF "n" (V.int (n.fdiv (cg n d))) []) = rf (nN n d) (nD n d) := rfl
      have fin : ∀ b o, H b = some o → b ≠ p → (upd (upd H p (.ins C dx (putF "n" (.int (nN n d)) []))) p (.ins C dx (rf (nN n d) (nD n d)))) b = some o := fun b o e hb => by
        rw [upd_ne hb, upd_ne hb]
        exact e
      refine ⟨_, rfl, _, _, rfl, rfl, _, rfl, ite2 (fun c2 => ?_) (fun c2 => ?_)⟩
      · have hneg : d < 0 := by simpa using c2
        have ec : -((Nat.gcd n.natAbs d.natAbs : Nat) : Int) = cg n d := by unfold cg; rw [if_pos hneg]
        refine ⟨_, rfl, _, rfl, _, rfl, _, rfl, _, _, rfl, rfl, by rw [ec]; exact cg_ne hd, _, rfl, p, C, dx, [], rfl, hp, T.cl, T.nN, by decide, ?_⟩
        refine ⟨_, rfl, _, rfl, _, _, rfl, rfl, by rw [ec]; exact cg_ne hd, _, rfl, p, C, dx, _, rfl, upd_same, T.cl, T.nD, (by show 1 < 1000; decide), ?_⟩
        rw [ec]
        exact k hd _ ⟨dx, upd_same⟩ fin
      · have hneg : ¬ d < 0 := by simpa using c2
        have ec : ((Nat.gcd n.natAbs d.natAbs : Nat) : Int) = cg n d := by unfold cg; rw [if_neg hneg]
        refine ⟨_, rfl, _, rfl, _, _, rfl, rfl, by rw [ec]; exact cg_ne hd, _, rfl, p, C, dx, [], rfl, hp, T.cl, T.nN, by decide, ?_⟩
        refine ⟨_, rfl, _, rfl, _, _, rfl, rfl, by rw [ec]; exact cg_ne hd, _, rfl, p, C, dx, _, rfl, upd_same, T.cl, T.nD, (by show 1 < 1000; decide), ?_⟩
        rw [ec]
        exact k hd _ ⟨dx, upd_same⟩ fin
end
end Ind

set_option Elab.async false
set_option linter.all false
set_option maxRecDepth 100000
set_option maxHeartbeats 4000000
namespace Ind
open PySem PySem.Spec PyProof.Rows L2
open Builtin.Int (intBits)
abbrev sCell : Stmt := top 32
abbrev sDraws : Stmt := top 33
abbrev sGcd : Stmt := top 34
abbrev sIsI : Stmt := top 38
abbrev sPair : Stmt := top 39
/-! ### the law's helpers: what each promises -/
def cell (ns : List Int) (k : Nat) : Int := ns.getD k 0
theorem atI_of {α : Type} {xs : List α} {k : Nat} {x : α} (h : xs[k]? = some x) : atI xs ((k : Nat) : Int) = some x := by
  have hk : k < xs.length := (List.getElem?_eq_some_iff.mp h).1
  have h1 : ixN xs.length ((k : Nat) : Int) = some k := by
    unfold ixN
    rw [if_pos (by omega), if_pos (by omega)]
    all_goals rfl
  unfold atI
  rw [h1]
  exact h
def spCellI (K : PySem.W.Frag) : Sp := fun vs H Q _ => ∃ (a : Addr) (ns : List Int) (k : Nat), vs = [.ref a, .int k] ∧ SqL K H a (ns.map V.int) ∧ Q (.int (cell ns k)) H
/-- draws in their range -/
def InR (ds : List Int) (n : Nat) (b : Int) : Prop := ds.length = n ∧ ∀ d ∈ ds, 0 ≤ d ∧ d < b
def spDraws (K : PySem.W.Frag) : Sp := fun vs H Q _ => ∃ (a : Addr) (ns : List Int) (k n : Nat) (b : Int), vs = [.ref a, .int k, .int n, .int b] ∧ SqL K H a (ns.map V.int) ∧ k ≤ 1000 ∧ n ≤ 1000 ∧ 0 < b ∧ b < 1000000 ∧
  ∀ (ds : List Int) (H' : Hp) (p : Addr), InR ds n b → Same H H' → H p = none → H' p = some (.lst (ds.map V.int)) → Q (.ref p) H'
def spGcdI : Sp := fun vs H Q _ => ∃ a b : Int, vs = [.int a, .int b] ∧ Q (.int ((Nat.gcd a.natAbs b.natAbs : Nat) : Int)) H
def spIsI : Sp := fun vs H Q _ => ∃ a : Int, vs = [.int a] ∧ Q (.bl true) H
def spPair (C : Addr) : Sp := fun vs H Q _ => ∃ (p : Addr) (a b : Int), vs = [.ref p] ∧ RatAt C H p a b ∧ 0 < b ∧ Nat.gcd a.natAbs b.natAbs = 1 ∧
  ∀ (H' : Hp) (t : Addr), Same H H' → H t = none → H' t = some (.tup [.int a, .int b]) → Q (.ref t) H'
/-- what the top says of built-ins that the helpers name -/
structure TxL (K : PySem.W.Frag) (mg : Str → Option Value) : Prop where
  len : mg "len" = none
  range : mg "range" = none
  int : mg "int" = none
  abs : mg "abs" = none
  isinstance : mg "isinstance" = none
  bool : mg "bool" = none
theorem same_upd {H : Hp} {p : Addr} {o : HO} (h : H p = none) : Same H (upd H p o) := fun b u e => by
  rw [upd_ne (ne_of_none e h)]
  exact e
section
variable {P : Program} {w : World} {K : PySem.W.Frag} {mg : Str → Option Value} {base : Heap} {C Z : Addr}
theorem scCell : FnScope ["script", "k"] ["script", "k"] (defScope sCell) := ⟨rfl, rfl, rfl, by decide +kernel, rfl, by decide +kernel, by decide +kernel⟩
theorem ok_cell {f : Addr} {fd : FuncData} (F : Fun K "_law_cell" "_law_cell" sCell f fd) (T : TxL K mg) : FnOk P w K mg base CX0 1 f fd ["script", "k"] (spCellI K) := by
  refine F.ok scCell (fun vs H Q E h => ?_) (fun cdv A outer s H vs Q E hr h => ?_)
  · obtain ⟨a, ns, k, rfl, _⟩ := h
    rfl
  · obtain ⟨a, ns, k, rfl, hS, q⟩ := h
    refine ⟨_, pss_cons (ps_if (pt_cmpR op_lt (pv 1) (pe_callB call_len_seq (by rfl) T.len PySem.boot_len (pa_cons (pv 0) pa_nil)) (nomark _)) (pss_one (ps_ret (pe_ix ix_list (pv 0) (pv 1) fun _ _ => rfl))) pss_nil)
      (pss_one (ps_ret pe_int)), ?_⟩
    refine ⟨_, rfl, _, rfl, a, _, rfl, .inl hS, _, _, rfl, rfl, _, rfl, ite2 (fun c => ?_) (fun c => ?_)⟩
    · have hk : k < ns.length := by simpa using c
      refine ⟨_, rfl, _, rfl, a, _, _, _, rfl, rfl, hS, atI_of (x := V.int (cell ns k)) ?_, q⟩
      rw [List.getElem?_map, List.getElem?_eq_getElem hk]
      simp [cell, hk]
    · have hk : ¬ k < ns.length := by simpa using c
      have e : cell ns k = 0 := by
        unfold cell
        rw [List.getD_eq_getElem?_getD, List.getElem?_eq_none (by omega)]
        rfl
      show Q (.int 0) H
      rw [← e]
      exact q
theorem scGcd : FnScope ["a", "b", "one_v", "two", "rest"] ["a", "b"] (defScope sGcd) := ⟨rfl, rfl, rfl, by decide +kernel, rfl, by decide +kernel, by decide +kernel⟩
theorem abs_nat (i : Int) : (if i < 0 then -i else i) = ((i.natAbs : Nat) : Int) := by split <;> omega
theorem ok_gcd {f : Addr} {fd : FuncData} (F : Fun K "_law_gcd" "_law_gcd" sGcd f fd) (T : TxL K mg) : FnOk P w K mg base CX0 1 f fd ["a", "b"] spGcdI := by
  refine F.ok scGcd (fun vs H Q E h => ?_) (fun cdv A outer s H vs Q E hr h => ?_)
  · obtain ⟨a, b, rfl, _⟩ := h
    rfl
  · obtain ⟨a, b, rfl, q⟩ := h
    refine ⟨_, pss_cons (ps_set (i := 2) scGcd.nd rfl (Or.inl rfl) (pe_callB call_abs (by rfl) T.abs (by decide +kernel) (pa_cons (pv 0) pa_nil)))
      (pss_cons (ps_set (i := 3) scGcd.nd rfl (Or.inl rfl) (pe_callB call_abs (by rfl) T.abs (by decide +kernel) (pa_cons (pv 1) pa_nil)))
      (pss_cons (ps_while PassesOwn.never (pt_cmpR op_ne (pv 3) pe_int (nomark _))
        (pss_cons (ps_set (i := 4) scGcd.nd rfl (Or.inl rfl) (pe_op op_modN (pe_callTy call_int1 (by rfl) T.int (by decide +kernel) (pa_cons (pv 2) pa_nil)) (pv 3)))
        (pss_cons (ps_set (i := 2) scGcd.nd rfl (Or.inl rfl) (pv 3)) (pss_one (ps_set (i := 3) scGcd.nd rfl (Or.inl rfl) (pv 4))))))
      (pss_one (ps_ret (pv 2))))), ?_⟩
    refine ⟨_, rfl, _, rfl, _, rfl, _, rfl, ?_⟩
    rw [abs_nat, abs_nat]
    refine while_by (fun σ H' => H' = H ∧ ∃ (x y : Nat) (v : Option V), σ = [some (.int a), some (.int b), some (.int (x : Int)), some (.int (y : Int)), v] ∧ Nat.gcd x y = Nat.gcd a.natAbs b.natAbs)
      (fun σ _ => match σ[3]? with | some (some (V.int y)) => y.natAbs | _ => 0) ⟨rfl, _, _, none, rfl, rfl⟩ ?_ ?_
    · rintro σ H' ⟨rfl, x, y, v, rfl, hg⟩
      refine ⟨_, rfl, rfl, _, rfl, ite2 (fun c => ?_) (fun c => ?_)⟩
      · have hy : y ≠ 0 := by
          intro z
          subst z
          simp at c
        have em : ((x : Int)).fmod (y : Int) = ((x % y : Nat) : Int) := by
          rw [Int.fmod_eq_emod_of_nonneg _ (by omega)]
          rfl
        refine ⟨_, rfl, .inl ⟨_, rfl, _, rfl, _, _, rfl, rfl, (by show ((y : Nat) : Int) ≠ 0; omega), ?_⟩⟩
        refine ⟨_, rfl, _, rfl, ⟨rfl, y, x % y, some (.int (((x % y : Nat) : Int))), ?_, ?_⟩, ?_⟩
        · rw [← em]
          rfl
        · rw [← hg, Nat.gcd_comm x y, Nat.gcd_rec y x, Nat.gcd_comm]
        · show (((x : Int)).fmod (y : Int)).natAbs < ((y : Nat) : Int).natAbs
          rw [em]
          have := Nat.mod_lt x (Nat.pos_of_ne_zero hy)
          omega
      · have hy : y = 0 := by
          have z : ¬ ¬ (V.int (y : Int) = V.int 0) := by simpa using c
          have z2 : V.int (y : Int) = V.int 0 := Classical.not_not.mp z
          injection z2 with z3
          omega
        subst hy
        rw [Nat.gcd_zero_right] at hg
        refine ⟨_, rfl, ?_⟩
        rw [hg]
        exact q
    · rintro σ H' R R' hR ⟨v, e1, e2, b1, e3, h3⟩
      exact ⟨v, e1, e2, b1, e3, hR _ _ h3⟩
end
end Ind

set_option Elab.async false
set_option linter.all false
set_option maxRecDepth 100000
set_option maxHeartbeats 4000000
namespace Ind
open PySem PySem.Spec PyProof.Rows L2
open Builtin.Int (intBits)
/-- what isinstance asks of Ratio as the value's class -/
structure TxI (K : PySem.W.Frag) (C : Addr) : Prop where
  ha : PySem.W.findIn K (.ref C) "__class__" = some (some (.builtin "object.__class__"))
  hn : PySem.W.specialIn K (.builtin "object.__class__") "__get__" = some (some (.builtin "getset_descriptor.__get__"))
  ht : PySem.W.takesIn K (.builtin "object.__class__") = some true
  hm : PySem.W.mroIn K C (.type "object") = some true
  kC : PySem.W.kitOne K (.ref C) (.ref C) = some true
section
variable {P : Program} {w : World} {K : PySem.W.Frag} {mg : Str → Option Value} {base : Heap} {C Z : Addr}
theorem scIsI : FnScope ["value"] ["value"] (defScope sIsI) := ⟨rfl, rfl, rfl, by decide +kernel, rfl, by decide +kernel, by decide +kernel⟩
theorem ok_isI {f : Addr} {fd : FuncData} (F : Fun K "_law_is_integer" "_law_is_integer" sIsI f fd) (T : TxL K mg) : FnOk P w K mg base CX0 1 f fd ["value"] spIsI := by
  refine F.ok scIsI (fun vs H Q E h => ?_) (fun cdv A outer s H vs Q E hr h => ?_)
  · obtain ⟨a, rfl, _⟩ := h
    rfl
  · obtain ⟨a, rfl, q⟩ := h
    refine ⟨_, pss_one (ps_ret (pe_and (pe_callB call_isi (by rfl) T.isinstance (by decide +kernel) (pa_cons (pv 0) (pa_cons (pe_bltn (v := .ty "int") (by rfl) T.int (by decide +kernel) rfl) pa_nil)))
      (pe_one (pe_not (pe_callB call_isi (by rfl) T.isinstance (by decide +kernel) (pa_cons (pv 0) (pa_cons (pe_bltn (v := .ty "bool") (by rfl) T.bool (by decide +kernel) rfl) pa_nil))))))), ?_⟩
    refine ⟨_, rfl, _, _, _, _, true, rfl, ClsV.ty "int", .base (.int a), kit_ty (by decide +kernel), true, rfl, ?_⟩
    refine iteT ⟨_, rfl, _, _, _, _, false, rfl, ClsV.ty "bool", .base (.int a), kit_ty (by decide +kernel), false, rfl, q⟩
theorem scPair : FnScope ["value"] ["value"] (defScope sPair) := ⟨rfl, rfl, rfl, by decide +kernel, rfl, by decide +kernel, by decide +kernel⟩
theorem ok_pair {f fI fG : Addr} {fd fdI fdG : FuncData} (F : Fun K "_law_pair" "_law_pair" sPair f fd) (T : TxL K mg) (R : TxR K mg C Z) (I : TxI K C)
    (FI : Fun K "_law_is_integer" "_law_is_integer" sIsI fI fdI) (bI : Binds K fdI ["value"] []) (gI : mg "_law_is_integer" = some (.ref fI))
    (FG : Fun K "_law_gcd" "_law_gcd" sGcd fG fdG) (bG : Binds K fdG ["a", "b"] []) (gG : mg "_law_gcd" = some (.ref fG)) : FnOk P w K mg base CX0 2 f fd ["value"] (spPair C) := by
  have GI : FnOk P w K mg base CX0 1 fI fdI ["value"] spIsI := ok_isI FI T
  have GG : FnOk P w K mg base CX0 1 fG fdG ["a", "b"] spGcdI := ok_gcd FG T
  refine F.ok scPair (fun vs H Q E h => ?_) (fun cdv A outer s H vs Q E hr h => ?_)
  · obtain ⟨p, a, b, rfl, _⟩ := h
    rfl
  · obtain ⟨p, a, b, rfl, ⟨dx, hp⟩, hb, hg, k⟩ := h
    refine ⟨_, pss_cons (ps_if (PW.pt (pw_or (pt_not (pt_val (pe_callB call_isi (by rfl) T.isinstance (by decide +kernel) (pa_cons (pv 0) (pa_cons (pe_glob (v := .ref C) rfl R.mgC rfl) pa_nil)))))
        (pw_or (pt_not (pt_val (pe_call GI hr (by rfl) gI FI.kp bI .nil pass0 (pa_cons (pe_fld (pv 0) rfl) pa_nil))))
        (pw_or1 (pt_not (pt_val (pe_call GI hr (by rfl) gI FI.kp bI .nil pass0 (pa_cons (pe_fld (pv 0) rfl) pa_nil)))))))) (pss_one (ps_ret pe_non)) pss_nil)
      (pss_cons (ps_if (PW.pt (pw_or (pt_cmpR op_lt (pe_fld (pv 0) rfl) pe_int (nomark _)) (pw_or1 (pt_cmpR op_ne (pe_call GG hr (by rfl) gG FG.kp bG .nil pass0 (pa_cons (pe_fld (pv 0) rfl) (pa_cons (pe_fld (pv 0) rfl) pa_nil))) pe_int (nomark _)))))
        (pss_one (ps_ret pe_non)) pss_nil)
      (pss_one (ps_ret (pe_tup (pa_cons (pe_fld (pv 0) rfl) (pa_cons (pe_fld (pv 0) rfl) pa_nil)))))), ?_⟩
    have hne : ¬ b < 1 := by omega
    refine ⟨_, rfl, _, _, _, _, true, rfl, ClsV.own C, .base (.ins hp R.cl I.ha I.hn I.ht I.hm), I.kC, true, rfl, ?_⟩
    refine iteF ⟨_, rfl, p, C, dx, _, _, rfl, hp, R.cl, R.nN, rf_n _ _, a, rfl, true, rfl, ?_⟩
    refine iteF ⟨_, rfl, p, C, dx, _, _, rfl, hp, R.cl, R.nD, rf_d _ _, b, rfl, true, rfl, iteF ?_⟩
    refine ⟨_, rfl, p, C, dx, _, _, rfl, hp, R.cl, R.nD, rf_d _ _, _, _, rfl, rfl, _, rfl, ite2 (fun c => absurd (of_decide_eq_true c) hne) (fun c => ?_)⟩
    refine ⟨_, rfl, p, C, dx, _, _, rfl, hp, R.cl, R.nN, rf_n _ _, _, rfl, p, C, dx, _, _, rfl, hp, R.cl, R.nD, rf_d _ _, a, b, rfl, rfl, _, rfl, ?_⟩
    rw [hg]
    refine iteF ⟨_, rfl, p, C, dx, _, _, rfl, hp, R.cl, R.nN, rf_n _ _, _, rfl, p, C, dx, _, _, rfl, hp, R.cl, R.nD, rf_d _ _, (by show 2 ≤ sizeLine; decide), fun t ht => ?_⟩
    exact k _ t (same_upd ht) ht upd_same
end
end Ind

set_option Elab.async false
set_option linter.all false
set_option maxRecDepth 100000
set_option maxHeartbeats 4000000
namespace Ind
open PySem PySem.Spec PyProof.Rows L2
open Builtin.Int (intBits)
structure DrSt (H H' : Hp) (l : Addr) (ds : List Int) (i : Nat) (b : Int) : Prop where
  s : Same H H'
  n : H l = none
  at_ : H' l = some (.lst (ds.map V.int))
  r : InR ds i b
theorem DrSt.push {H H' : Hp} {l : Addr} {ds : List Int} {i : Nat} {b z : Int} (x : DrSt H H' l ds i b) (h0 : 0 ≤ z) (h1 : z < b) : DrSt H (upd H' l (.lst (ds.map V.int ++ [.int z]))) l (ds ++ [z]) (i + 1) b where
  s := fun c o e => by
    have hc : c ≠ l := ne_of_none e x.n
    rw [upd_ne hc]
    exact x.s c o e
  n := x.n
  at_ := by
    rw [upd_same, List.map_append]
    rfl
  r := by
    refine ⟨by rw [List.length_append, x.r.1]; rfl, fun d hd => ?_⟩
    rcases List.mem_append.mp hd with h | h
    · exact x.r.2 d h
    · have e : d = z := by simpa using h
      subst e
      exact ⟨h0, h1⟩
theorem fmod_in {x b : Int} (h : 0 < b) : 0 ≤ x.fmod b ∧ x.fmod b < b := ⟨Int.fmod_nonneg_of_pos x h, Int.fmod_lt_of_pos x h⟩
section
variable {P : Program} {w : World} {K : PySem.W.Frag} {mg : Str → Option Value} {base : Heap} {C Z : Addr}
theorem scDr : FnScope ["script", "at", "count", "bound", "cell", "out", "k", "number", "mixed"] ["script", "at", "count", "bound"] (defScope sDraws) := ⟨rfl, rfl, rfl, by decide +kernel, rfl, by decide +kernel, by decide +kernel⟩
theorem ok_draws {f fC : Addr} {fd fdC : FuncData} (F : Fun K "_law_draws" "_law_draws" sDraws f fd) (T : TxL K mg) (FC : Fun K "_law_cell" "_law_cell" sCell fC fdC) (bC : Binds K fdC ["script", "k"] []) (gC : mg "_law_cell" = some (.ref fC)) :
    FnOk P w K mg base CX0 2 f fd ["script", "at", "count", "bound"] (spDraws K) := by
  have GC : FnOk P w K mg base CX0 1 fC fdC ["script", "k"] (spCellI K) := ok_cell FC T
  refine F.ok scDr (fun vs H Q E h => ?_) (fun cdv A outer s H vs Q E hr h => ?_)
  · obtain ⟨a, ns, k, n, b, rfl, _⟩ := h
    rfl
  · obtain ⟨a, ns, k, n, b, rfl, hS, hk, hn, hb, hb2, q⟩ := h
    refine ⟨_, pss_cons (ps_set (i := 4) scDr.nd rfl (Or.inl rfl) (pe_call GC hr (by rfl) gC FC.kp bC .nil pass0 (pa_cons (pv 0) (pa_cons (pv 1) pa_nil))))
      (pss_cons (ps_set (i := 5) scDr.nd rfl (Or.inl rfl) (pe_lst pa_nil))
      (pss_cons (ps_if (pt_cmpR op_ge (pv 4) (pe_op op_pow pe_int pe_int) (nomark _))
        (pss_cons (ps_for PassesOwn.never rfl (pi_range1 (by rfl) T.range (pa_cons (pv 2) pa_nil)) (pg_name (i := 6) scDr.nd rfl (Or.inl rfl))
          (pss_cons (ps_expr (pe_bm PySem.F.plainAttrs_list PySem.F.slot_list_append PySem.F.type_list_append mt_append (pv 5) (pa_cons (pe_op op_modN (pe_callTy call_int1 (by rfl) T.int (by decide +kernel) (pa_cons (pv 4) pa_nil)) (pv 3)) pa_nil)))
          (pss_one (ps_set (i := 4) scDr.nd rfl (Or.inl rfl) (pe_op op_fdivN (pe_callTy call_int1 (by rfl) T.int (by decide +kernel) (pa_cons (pv 4) pa_nil)) (pv 3))))))
        (pss_one (ps_ret (pv 5)))) pss_nil)
      (pss_cons (ps_set (i := 7) scDr.nd rfl (Or.inl rfl) (pe_op op_add (pe_op op_add (pe_op op_modN (pe_callTy call_int1 (by rfl) T.int (by decide +kernel) (pa_cons (pv 4) pa_nil)) pe_int) (pe_op op_mul pe_int (pv 1))) pe_int))
      (pss_cons (ps_for PassesOwn.never rfl (pi_range1 (by rfl) T.range (pa_cons (pv 2) pa_nil)) (pg_name (i := 6) scDr.nd rfl (Or.inl rfl))
          (pss_cons (ps_set (i := 7) scDr.nd rfl (Or.inl rfl) (pe_op op_modN (pe_callTy call_int1 (by rfl) T.int (by decide +kernel) (pa_cons (pe_op op_add (pe_op op_add (pe_op op_mul (pv 7) pe_int) (pe_op op_mul pe_int (pv 6))) (pv 1)) pa_nil)) pe_int))
          (pss_cons (ps_set (i := 8) scDr.nd rfl (Or.inl rfl) (pe_op op_modN (pe_callTy call_int1 (by rfl) T.int (by decide +kernel) (pa_cons (pe_op op_add (pe_op op_add (pe_op op_mul (pv 7) pe_int) (pe_op op_mul pe_int (pv 6))) pe_int) pa_nil)) pe_int))
          (pss_one (ps_expr (pe_bm PySem.F.plainAttrs_list PySem.F.slot_list_append PySem.F.type_list_append mt_append (pv 5) (pa_cons (pe_op op_modN (pe_callTy call_int1 (by rfl) T.int (by decide +kernel) (pa_cons (pv 8) pa_nil)) (pv 3)) pa_nil)))))))
      (pss_one (ps_ret (pv 5))))))), ?_⟩
    refine ⟨_, rfl, _, rfl, a, ns, k, rfl, hS, Nat.zero_le _, fun l hl => ?_⟩
    have d0 : DrSt H (upd H l (.lst [])) l [] 0 b := ⟨same_upd hl, hl, upd_same, rfl, fun d hd => nomatch hd⟩
    have hlen : ∀ {ds : List Int} {i : Nat}, InR ds i b → i < n → (ds.map V.int).length < sizeLine := fun {ds i} r hi => by
      rw [List.length_map, r.1]
      exact Nat.lt_of_lt_of_le (Nat.lt_of_lt_of_le hi hn) (by decide)
    have bnd : b ≠ 0 ∧ b.natAbs < 1073741824 := ⟨by omega, by omega⟩
    refine ⟨_, rfl, _, _, rfl, rfl, ⟨by decide, by decide, by decide⟩, _, _, rfl, rfl, _, rfl, ite2 (fun _ => ?_) (fun _ => ?_)⟩
    · refine ⟨_, rfl, (n : Int), rfl, by omega, by omega, for_range (lo := 0) (n := n) (fun i σ H' => ∃ (c : Int) (ds : List Int) (kv : Option V), σ = [some (.ref a), some (.int k), some (.int n), some (.int b), some (.int c), some (.ref l), kv, none, none] ∧ DrSt H H' l ds i b)
        ⟨_, [], none, rfl, d0⟩ ?_ ?_⟩
      · rintro i σ H' hi ⟨c, ds, kv, rfl, D⟩
        have hm := fmod_in (x := c) hb
        refine ⟨_, rfl, .inl ⟨rfl, _, SqL.of D.at_⟩, _, rfl, .inl ⟨_, rfl, _, rfl, _, _, rfl, rfl, bnd.1, l, _, _, rfl, rfl, D.at_, hlen D.r hi, ?_⟩⟩
        refine ⟨_, rfl, .inl ⟨_, rfl, _, rfl, _, _, rfl, rfl, bnd, ?_⟩⟩
        exact ⟨_, _, _, rfl, D.push hm.1 hm.2⟩
      · rintro σ H' ⟨c, ds, kv, rfl, D⟩
        exact ⟨_, rfl, q ds H' l D.r D.s D.n D.at_⟩
    · have r31 : ∀ x : Int, 0 ≤ x.fmod 2147483647 ∧ x.fmod 2147483647 < 2147483647 := fun x => fmod_in (by decide)
      have hz := r31 (cell ns k)
      refine ⟨_, rfl, .inl ⟨_, rfl, _, _, rfl, rfl, (by show (2147483647 : Int) ≠ 0; decide), _, rfl, _, _, rfl, rfl, .inl ⟨by decide, by decide⟩, _, _, rfl, rfl, _, _, rfl, rfl, ?_⟩⟩
      refine ⟨_, rfl, (n : Int), rfl, by omega, by omega, for_range (lo := 0) (n := n) (fun i σ H' => ∃ (z : Int) (ds : List Int) (kv mv : Option V), σ = [some (.ref a), some (.int k), some (.int n), some (.int b), some (.int (cell ns k)), some (.ref l), kv, some (.int z), mv] ∧ (0 ≤ z ∧ z < 2 ^ 40) ∧ DrSt H H' l ds i b)
        ⟨_, [], none, none, rfl, ⟨by omega, by omega⟩, d0⟩ ?_ ?_⟩
      · rintro i σ H' hi ⟨z, ds, kv, mv, rfl, hz, D⟩
        have hm : ∀ x : Int, _ := fun x => fmod_in (x := x) hb
        refine ⟨_, rfl, _, _, rfl, rfl, .inr ⟨by decide, by decide⟩, _, rfl, _, _, rfl, rfl, .inl ⟨by decide, by decide⟩, _, _, rfl, rfl, _, rfl, _, _, rfl, rfl, .inl ⟨_, rfl, _, _, rfl, rfl, (by show (2147483647 : Int) ≠ 0; decide), ?_⟩⟩
        refine ⟨_, rfl, _, _, rfl, rfl, .inr ⟨by decide, by decide⟩, _, rfl, _, _, rfl, rfl, .inl ⟨by decide, by decide⟩, _, _, rfl, rfl, _, _, rfl, rfl, .inl ⟨_, rfl, _, _, rfl, rfl, (by show (2147483629 : Int) ≠ 0; decide), ?_⟩⟩
        refine ⟨_, rfl, .inl ⟨rfl, _, SqL.of D.at_⟩, _, rfl, .inl ⟨_, rfl, _, rfl, _, _, rfl, rfl, bnd.1, l, _, _, rfl, rfl, D.at_, hlen D.r hi, ?_⟩⟩
        have hw := r31 (z * 48271 + 11 * (0 + (i : Int)) + (k : Int))
        exact ⟨_, _, _, _, rfl, ⟨hw.1, by omega⟩, D.push (hm _).1 (hm _).2⟩
      · rintro σ H' ⟨z, ds, kv, mv, rfl, hz, D⟩
        exact ⟨_, rfl, q ds H' l D.r D.s D.n D.at_⟩
end
end Ind

set_option Elab.async false
namespace Ind
open PySem.Builtin.Int (intBits)
theorem cg_natAbs (n d : Int) : (cg n d).natAbs = Nat.gcd n.natAbs d.natAbs := by
  unfold cg
  split <;> omega
theorem fdiv_of_mul {a b q : Int} (hb : b ≠ 0) (h : a = q * b) : a.fdiv b = q := by
  rw [h]
  exact Int.mul_fdiv_cancel _ hb
theorem cg_dvd_n (n d : Int) : cg n d ∣ n := by
  have h : (cg n d).natAbs ∣ n.natAbs := by rw [cg_natAbs]; exact Nat.gcd_dvd_left _ _
  exact Int.natAbs_dvd_natAbs.mp h
theorem cg_dvd_d (n d : Int) : cg n d ∣ d := by
  have h : (cg n d).natAbs ∣ d.natAbs := by rw [cg_natAbs]; exact Nat.gcd_dvd_right _ _
  exact Int.natAbs_dvd_natAbs.mp h
theorem nN_mul {n d : Int} (h : d ≠ 0) : n = nN n d * cg n d := by
  obtain ⟨q, e⟩ := cg_dvd_n n d
  have e2 : nN n d = q := fdiv_of_mul (cg_ne h) (e.trans (Int.mul_comm _ _))
  rw [e2, Int.mul_comm]
  exact e
theorem nD_mul {n d : Int} (h : d ≠ 0) : d = nD n d * cg n d := by
  obtain ⟨q, e⟩ := cg_dvd_d n d
  have e2 : nD n d = q := fdiv_of_mul (cg_ne h) (e.trans (Int.mul_comm _ _))
  rw [e2, Int.mul_comm]
  exact e
theorem nD_pos {n d : Int} (h : d ≠ 0) : 0 < nD n d := by
  have e := nD_mul (n := n) h
  have g := cg_natAbs n d
  have gp : 0 < Nat.gcd n.natAbs d.natAbs := Nat.gcd_pos_of_pos_right _ (by omega)
  by_cases hd : d < 0
  · have hc : cg n d < 0 := by
      unfold cg
      rw [if_pos hd]
      omega
    by_cases hq : 0 < nD n d
    · exact hq
    · have : 0 ≤ nD n d * cg n d := Int.mul_nonneg_of_nonpos_of_nonpos (by omega) (by omega)
      omega
  · have hc : 0 < cg n d := by
      unfold cg
      rw [if_neg hd]
      omega
    by_cases hq : 0 < nD n d
    · exact hq
    · have : nD n d * cg n d ≤ 0 := Int.mul_nonpos_of_nonpos_of_nonneg (by omega) (by omega)
      omega
theorem n_gcd {n d : Int} (h : d ≠ 0) : Nat.gcd (nN n d).natAbs (nD n d).natAbs = 1 := by
  have e1 : n.natAbs = (nN n d).natAbs * (cg n d).natAbs := by
    rw [← Int.natAbs_mul, ← nN_mul h]
  have e2 : d.natAbs = (nD n d).natAbs * (cg n d).natAbs := by
    rw [← Int.natAbs_mul, ← nD_mul h]
  have g := cg_natAbs n d
  have hg : 0 < (cg n d).natAbs := by
    have := cg_ne (n := n) h
    omega
  have e3 : Nat.gcd n.natAbs d.natAbs = Nat.gcd (nN n d).natAbs (nD n d).natAbs * (cg n d).natAbs := by
    conv => lhs; rw [e1, e2]
    rw [Nat.gcd_mul_right]
  rw [← g] at e3
  have e4 : 1 * (cg n d).natAbs = Nat.gcd (nN n d).natAbs (nD n d).natAbs * (cg n d).natAbs := by rw [Nat.one_mul]; exact e3
  exact (Nat.eq_of_mul_eq_mul_right hg e4).symm
theorem n_cross {n d : Int} (h : d ≠ 0) : nN n d * d = n * nD n d := by
  have e1 := nN_mul (n := n) h
  have e2 := nD_mul (n := n) h
  calc nN n d * d = nN n d * (nD n d * cg n d) := by rw [← e2]
    _ = (nN n d * cg n d) * nD n d := by rw [Int.mul_comm (nD n d), Int.mul_assoc]
    _ = n * nD n d := by rw [← e1]
/-- two fractions in lowest terms of one value are one -/
theorem low_uniq {p q r s : Int} (hq : 0 < q) (hs : 0 < s) (g1 : Nat.gcd p.natAbs q.natAbs = 1) (g2 : Nat.gcd r.natAbs s.natAbs = 1) (e : p * s = r * q) : p = r ∧ q = s := by
  have en : p.natAbs * s.natAbs = r.natAbs * q.natAbs := by rw [← Int.natAbs_mul, ← Int.natAbs_mul, e]
  have d1 : q.natAbs ∣ s.natAbs := Nat.Coprime.dvd_of_dvd_mul_left (Nat.Coprime.symm g1) ⟨r.natAbs, by rw [en, Nat.mul_comm]⟩
  have d2 : s.natAbs ∣ q.natAbs := Nat.Coprime.dvd_of_dvd_mul_left (Nat.Coprime.symm g2) ⟨p.natAbs, by rw [← en, Nat.mul_comm]⟩
  have e1 : q.natAbs = s.natAbs := Nat.dvd_antisymm d1 d2
  have e2 : q = s := by omega
  subst e2
  exact ⟨Int.eq_of_mul_eq_mul_right (by omega) e, rfl⟩
theorem n_uniq {a b c d : Int} (hb : b ≠ 0) (hd : d ≠ 0) (e : a * d = c * b) : nN a b = nN c d ∧ nD a b = nD c d := by
  refine low_uniq (nD_pos hb) (nD_pos hd) (n_gcd hb) (n_gcd hd) ?_
  have e1 := n_cross (n := a) hb
  have e2 := n_cross (n := c) hd
  have z : (nN a b * nD c d) * (b * d) = (nN c d * nD a b) * (b * d) := by
    calc (nN a b * nD c d) * (b * d) = (nN a b * b) * (nD c d * d) := by ac_rfl
      _ = (a * nD a b) * (nD c d * d) := by rw [e1]
      _ = (a * d) * (nD a b * nD c d) := by ac_rfl
      _ = (c * b) * (nD a b * nD c d) := by rw [e]
      _ = (c * nD c d) * (nD a b * b) := by ac_rfl
      _ = (nN c d * d) * (nD a b * b) := by rw [e2]
      _ = (nN c d * nD a b) * (b * d) := by ac_rfl
  exact Int.eq_of_mul_eq_mul_right (Int.mul_ne_zero hb hd) z
theorem n_same {a b c d : Int} (hb : b ≠ 0) (hd : d ≠ 0) (h1 : nN a b = nN c d) (h2 : nD a b = nD c d) : a * d = c * b := by
  have e1 := n_cross (n := a) hb
  have e2 := n_cross (n := c) hd
  have hp := nD_pos (n := a) hb
  have z : (a * d) * nD a b = (c * b) * nD a b := by
    calc (a * d) * nD a b = (a * nD a b) * d := by ac_rfl
      _ = (nN a b * b) * d := by rw [e1]
      _ = (nN c d * d) * b := by rw [h1]; ac_rfl
      _ = (c * nD c d) * b := by rw [e2]
      _ = (c * b) * nD a b := by rw [h2]; ac_rfl
  exact Int.eq_of_mul_eq_mul_right (by omega) z
theorem n_one (n : Int) : nN n 1 = n ∧ nD n 1 = 1 := by
  have e : cg n 1 = 1 := by
    unfold cg
    rw [if_neg (by decide)]
    simp
  unfold nN nD
  rw [e]
  simp
theorem bits_nN {n d : Int} {m : Nat} (h : intBits n ≤ m) : intBits (nN n d) ≤ m := PySem.intBits_fdiv_le h
theorem bits_nD {n d : Int} {m : Nat} (h : intBits d ≤ m) : intBits (nD n d) ≤ m := PySem.intBits_fdiv_le h
end Ind

set_option Elab.async false
namespace Ind
/-! ### rows over fractions: sums, annihilators, spans -/
abbrev Fr := Nat → Rat
def sumTo : Nat → Fr → Rat
  | 0, _ => 0
  | n + 1, f => sumTo n f + f n
theorem sumTo_congr : ∀ {n : Nat} {f g : Fr}, (∀ j, j < n → f j = g j) → sumTo n f = sumTo n g
  | 0, _, _, _ => rfl
  | n + 1, f, g, h => by
    unfold sumTo
    rw [sumTo_congr fun j hj => h j (Nat.lt_succ_of_lt hj), h n (Nat.lt_succ_self n)]
theorem sumTo_zero : ∀ n : Nat, sumTo n (fun _ => 0) = 0
  | 0 => rfl
  | n + 1 => by
    unfold sumTo
    rw [sumTo_zero n]
    grind
theorem sumTo_lin (a b : Rat) : ∀ (n : Nat) (f g : Fr), sumTo n (fun j => a * f j + b * g j) = a * sumTo n f + b * sumTo n g
  | 0, _, _ => by unfold sumTo; grind
  | n + 1, f, g => by
    unfold sumTo
    rw [sumTo_lin a b n f g]
    grind
theorem sumTo_one (r : Fr) (c : Rat) {p : Nat} : ∀ {n : Nat}, p < n → sumTo n (fun i => r i * (if i = p then c else 0)) = r p * c
  | n + 1, h => by
    unfold sumTo
    by_cases e : p = n
    · subst e
      have z : sumTo p (fun i => r i * (if i = p then c else 0)) = 0 := by
        rw [sumTo_congr (g := fun _ => 0) fun j hj => by rw [if_neg (by omega)]; grind]
        exact sumTo_zero p
      rw [z]
      show 0 + r p * (if p = p then c else 0) = r p * c
      rw [if_pos rfl]
      grind
    · rw [sumTo_one r c (by omega)]
      show r p * c + r n * (if n = p then c else 0) = r p * c
      rw [if_neg (by omega)]
      grind
/-- the sum of a row's items times a vector's -/
def dt (w : Nat) (r z : Fr) : Rat := sumTo w fun j => r j * z j
theorem dt_lin (w : Nat) (a b : Rat) (r t z : Fr) : dt w (fun j => a * r j + b * t j) z = a * dt w r z + b * dt w t z := by
  unfold dt
  rw [← sumTo_lin]
  exact sumTo_congr fun j _ => by grind
theorem dt_congr {w : Nat} {r t z : Fr} (h : ∀ j, j < w → r j = t j) : dt w r z = dt w t z := sumTo_congr fun j hj => by rw [h j hj]
theorem dt_lin2 (w : Nat) (a b : Rat) (r z y : Fr) : dt w r (fun j => a * z j + b * y j) = a * dt w r z + b * dt w r y := by
  unfold dt
  rw [← sumTo_lin]
  exact sumTo_congr fun j _ => by grind
theorem dt_one (r : Fr) (c : Rat) {w p : Nat} (h : p < w) : dt w r (fun i => if i = p then c else 0) = r p * c := sumTo_one r c h
def Ann (w : Nat) (R : List Fr) (z : Fr) : Prop := ∀ r ∈ R, dt w r z = 0
/-- r is a combination of R's rows -/
inductive Spn (R : List Fr) : Fr → Prop where
  | mem {r : Fr} : r ∈ R → Spn R r
  | zero : Spn R fun _ => 0
  | lin (a b : Rat) {r t s : Fr} : Spn R r → Spn R t → (∀ j, s j = a * r j + b * t j) → Spn R s
theorem Spn.ann {R : List Fr} {r z : Fr} {w : Nat} (h : Spn R r) (hz : Ann w R z) : dt w r z = 0 := by
  induction h with
  | mem h => exact hz _ h
  | zero =>
    unfold dt
    rw [sumTo_congr (g := fun _ => 0) fun j _ => by grind]
    exact sumTo_zero w
  | lin a b _ _ e ih1 ih2 =>
    rw [dt_congr fun j _ => e j, dt_lin, ih1, ih2]
    grind
theorem Spn.trans {R S : List Fr} {r : Fr} (h : Spn S r) (hs : ∀ s ∈ S, Spn R s) : Spn R r := by
  induction h with
  | mem h => exact hs _ h
  | zero => exact .zero
  | lin a b _ _ e ih1 ih2 => exact .lin a b ih1 ih2 e
/-- .. with its weights -/
theorem Spn.weights {R : List Fr} {r : Fr} (h : Spn R r) : ∃ u : Fr, ∀ j, r j = sumTo R.length fun i => u i * (R.getD i fun _ => 0) j := by
  induction h with
  | @mem r h =>
    obtain ⟨k, hk, e⟩ := List.getElem_of_mem h
    refine ⟨fun i => if i = k then 1 else 0, fun j => ?_⟩
    have := sumTo_one (fun i => (R.getD i fun _ => 0) j) 1 hk
    rw [sumTo_congr (g := fun i => (R.getD i fun _ => 0) j * (if i = k then 1 else 0)) fun i _ => by grind, this]
    have e2 : R.getD k (fun _ => 0) = r := by
      rw [List.getD_eq_getElem?_getD, List.getElem?_eq_getElem hk]
      exact e
    rw [e2]
    grind
  | zero =>
    refine ⟨fun _ => 0, fun j => ?_⟩
    rw [sumTo_congr (g := fun _ => 0) fun i _ => by grind, sumTo_zero]
  | lin a b _ _ e ih1 ih2 =>
    obtain ⟨u, hu⟩ := ih1
    obtain ⟨v, hv⟩ := ih2
    refine ⟨fun i => a * u i + b * v i, fun j => ?_⟩
    rw [e j, hu j, hv j, ← sumTo_lin]
    exact sumTo_congr fun i _ => by grind
/-! ### one step of the elimination -/
/-- r, with top's multiple taken off so that column c is zero -/
def Canc (c : Nat) (top r s : Fr) : Prop := (∃ a b : Rat, a ≠ 0 ∧ ∀ j, s j = a * r j + b * top j) ∧ s c = 0
def Scal (r s : Fr) : Prop := ∃ a : Rat, a ≠ 0 ∧ ∀ j, s j = a * r j
/-- pivots and rows, the pivot's place with its row -/
structure Elim (w c : Nat) (G : List Fr) (L : List (Nat × Fr)) (T : List Fr) : Prop where
  ann : ∀ z, Ann w (L.map (·.2) ++ T) z → Ann w G z
  spn : ∀ r ∈ L.map (·.2) ++ T, Spn G r
  inc : L.Pairwise fun x y => x.1 < y.1
  lt : ∀ x ∈ L, x.1 < c
  piv : ∀ x ∈ L, x.2 x.1 ≠ 0
  off : ∀ x ∈ L, ∀ y ∈ L, x.1 ≠ y.1 → x.2 y.1 = 0
  led : ∀ x ∈ L, ∀ j, j < x.1 → x.2 j = 0
  low : ∀ t ∈ T, ∀ j, j < c → t j = 0
theorem Elim.skip {w c : Nat} {G : List Fr} {L : List (Nat × Fr)} {T : List Fr} (h : Elim w c G L T) (h0 : ∀ t ∈ T, t c = 0) : Elim w (c + 1) G L T :=
  ⟨h.ann, h.spn, h.inc, fun x hx => Nat.lt_succ_of_lt (h.lt x hx), h.piv, h.off, h.led, fun t ht j hj => by
    by_cases e : j = c
    · subst e
      exact h0 t ht
    · exact h.low t ht j (by omega)⟩
/-- every row cancelled by top, top behind the chosen ones -/
theorem Elim.step {w c : Nat} {G : List Fr} {L L' : List (Nat × Fr)} {T T' : List Fr} {top : Fr} (h : Elim w c G L T) (hm : top ∈ T) (ht : top c ≠ 0)
    (hL : ∀ y ∈ L', ∃ x ∈ L, y.1 = x.1 ∧ Canc c top x.2 y.2) (hLb : ∀ x ∈ L, ∃ y ∈ L', y.1 = x.1 ∧ Canc c top x.2 y.2) (hp : L'.map (·.1) = L.map (·.1))
    (hT : ∀ s ∈ T', ∃ t ∈ T, Canc c top t s) (hTb : ∀ t ∈ T, t = top ∨ ∃ s ∈ T', Canc c top t s) : Elim w (c + 1) G (L' ++ [(c, top)]) T' := by
  have tl := h.low top hm
  have own : ∀ y ∈ L' ++ [(c, top)], y = (c, top) ∨ ∃ x ∈ L, y.1 = x.1 ∧ Canc c top x.2 y.2 := fun y hy => by
    rcases List.mem_append.mp hy with z | z
    · exact .inr (hL y z)
    · exact .inl (List.mem_singleton.mp z)
  refine ⟨fun z hz => ?_, fun r hr => ?_, ?_, fun y hy => ?_, fun y hy => ?_, fun y hy y2 hy2 ne => ?_, fun y hy j hj => ?_, fun s hs j hj => ?_⟩
  · have zt : dt w top z = 0 := hz top (by simp)
    have back : ∀ {r s : Fr}, Canc c top r s → dt w s z = 0 → dt w r z = 0 := fun {r s} hc h0 => by
      obtain ⟨⟨a, b, ha, e⟩, _⟩ := hc
      rw [dt_congr fun j _ => e j, dt_lin, zt] at h0
      have : a * dt w r z = 0 := by grind
      grind
    refine h.ann z fun r hr => ?_
    rcases List.mem_append.mp hr with q | q
    · obtain ⟨x, hx, rfl⟩ := List.mem_map.mp q
      obtain ⟨y, hy, _, hc⟩ := hLb x hx
      exact back hc (hz y.2 (List.mem_append_left _ (List.mem_map_of_mem (f := (·.2)) (List.mem_append_left _ hy))))
    · rcases hTb r q with rfl | ⟨s, hs, hc⟩
      · exact zt
      · exact back hc (hz s (List.mem_append_right _ hs))
  · have st : Spn G top := h.spn top (List.mem_append_right _ hm)
    have to : ∀ {r s : Fr}, Canc c top r s → Spn G r → Spn G s := fun {r s} hc hr => by
      obtain ⟨⟨a, b, _, e⟩, _⟩ := hc
      exact .lin a b hr st e
    rcases List.mem_append.mp hr with q | q
    · obtain ⟨y, hy, rfl⟩ := List.mem_map.mp q
      rcases own y hy with rfl | ⟨x, hx, _, hc⟩
      · exact st
      · exact to hc (h.spn x.2 (List.mem_append_left _ (List.mem_map_of_mem (f := (·.2)) hx)))
    · obtain ⟨t, ht2, hc⟩ := hT r q
      exact to hc (h.spn t (List.mem_append_right _ ht2))
  · have h1 : (L'.map (·.1)).Pairwise (· < ·) := by
      rw [hp]
      exact List.pairwise_map.mpr h.inc
    refine List.pairwise_append.mpr ⟨List.pairwise_map.mp h1, List.pairwise_singleton _ _, fun y hy y2 hy2 => ?_⟩
    rw [List.mem_singleton.mp hy2]
    obtain ⟨x, hx, e, _⟩ := hL y hy
    rw [e]
    exact h.lt x hx
  · rcases own y hy with rfl | ⟨x, hx, e, _⟩
    · exact Nat.lt_succ_self c
    · rw [e]
      exact Nat.lt_succ_of_lt (h.lt x hx)
  · rcases own y hy with rfl | ⟨x, hx, e, ⟨a, b, ha, ej⟩, _⟩
    · exact ht
    · have := h.piv x hx
      rw [e, ej, tl x.1 (h.lt x hx)]
      grind
  · rcases own y hy with rfl | ⟨x, hx, e, ⟨a, b, ha, ej⟩, e0⟩
    · rcases own y2 hy2 with rfl | ⟨x2, hx2, e2, _⟩
      · exact absurd rfl ne
      · rw [e2]
        exact tl x2.1 (h.lt x2 hx2)
    · rcases own y2 hy2 with rfl | ⟨x2, hx2, e2, _⟩
      · exact e0
      · have := h.off x hx x2 hx2 (by rw [← e, ← e2]; exact ne)
        rw [e2, ej, this, tl x2.1 (h.lt x2 hx2)]
        grind
  · rcases own y hy with rfl | ⟨x, hx, e, ⟨a, b, ha, ej⟩, _⟩
    · exact tl j hj
    · rw [e] at hj
      have := h.led x hx j hj
      have := tl j (Nat.lt_trans hj (h.lt x hx))
      rw [ej]
      grind
  · obtain ⟨t, ht2, ⟨a, b, ha, ej⟩, e0⟩ := hT s hs
    by_cases e : j = c
    · subst e
      exact e0
    · rw [ej, h.low t ht2 j (by omega), tl j (by omega)]
      grind
end Ind

set_option Elab.async false
namespace Ind
/-! ### what the reduced rows tell -/
structure Red (w : Nat) (G : List Fr) (L : List (Nat × Fr)) : Prop where
  ann : ∀ z, Ann w (L.map (·.2)) z → Ann w G z
  spn : ∀ x ∈ L, Spn G x.2
  inc : L.Pairwise fun x y => x.1 < y.1
  lt : ∀ x ∈ L, x.1 < w
  one : ∀ x ∈ L, x.2 x.1 = 1
  off : ∀ x ∈ L, ∀ y ∈ L, x.1 ≠ y.1 → x.2 y.1 = 0
  led : ∀ x ∈ L, ∀ j, j < x.1 → x.2 j = 0
/-- before the first column -/
theorem Elim.start {w : Nat} {G T : List Fr} (h1 : ∀ g ∈ G, ∃ t ∈ T, Scal g t) (h2 : ∀ t ∈ T, ∃ g ∈ G, Scal g t) : Elim w 0 G [] T := by
  refine ⟨fun z hz g hg => ?_, fun r hr => ?_, List.Pairwise.nil, fun x hx => by simp at hx, fun x hx => by simp at hx, fun x hx => by simp at hx, fun x hx => by simp at hx, fun t _ j hj => by omega⟩
  · obtain ⟨t, ht, a, ha, e⟩ := h1 g hg
    have h0 := hz t (List.mem_append_right _ ht)
    rw [dt_congr (t := fun j => a * g j + 0 * g j) fun j _ => by rw [e]; grind, dt_lin] at h0
    grind
  · obtain ⟨g, hg, a, ha, e⟩ := h2 r (by simpa using hr)
    exact .lin a 0 (.mem hg) (.mem hg) fun j => by rw [e]; grind
/-- behind the last column, each row over its pivot -/
theorem Elim.red {w : Nat} {G : List Fr} {L L' : List (Nat × Fr)} {T : List Fr} (h : Elim w w G L T) (h1 : ∀ y ∈ L', ∃ x ∈ L, y.1 = x.1 ∧ ∀ j, y.2 j = x.2 j / x.2 x.1) (h2 : ∀ x ∈ L, ∃ y ∈ L', y.1 = x.1 ∧ ∀ j, y.2 j = x.2 j / x.2 x.1)
    (hp : L'.map (·.1) = L.map (·.1)) : Red w G L' := by
  refine ⟨fun z hz => h.ann z fun r hr => ?_, fun y hy => ?_, ?_, fun y hy => ?_, fun y hy => ?_, fun y hy y2 hy2 ne => ?_, fun y hy j hj => ?_⟩
  · rcases List.mem_append.mp hr with q | q
    · obtain ⟨x, hx, rfl⟩ := List.mem_map.mp q
      obtain ⟨y, hy, _, e⟩ := h2 x hx
      have h0 := hz y.2 (List.mem_map_of_mem (f := (·.2)) hy)
      have hx0 := h.piv x hx
      rw [dt_congr (t := fun j => (1 / x.2 x.1) * x.2 j + 0 * x.2 j) fun j _ => by rw [e]; grind, dt_lin] at h0
      have h3 : (1 / x.2 x.1) * dt w x.2 z = 0 := by grind
      have h4 : 1 / x.2 x.1 ≠ 0 := by grind
      grind
    · unfold dt
      rw [sumTo_congr (g := fun _ => 0) fun j hj => by rw [h.low r q j hj]; grind, sumTo_zero]
  · obtain ⟨x, hx, _, e⟩ := h1 y hy
    have hs := h.spn x.2 (List.mem_append_left _ (List.mem_map_of_mem (f := (·.2)) hx))
    exact .lin (1 / x.2 x.1) 0 hs hs fun j => by rw [e]; grind
  · have h3 : (L'.map (·.1)).Pairwise (· < ·) := by
      rw [hp]
      exact List.pairwise_map.mpr h.inc
    exact List.pairwise_map.mp h3
  · obtain ⟨x, hx, e, _⟩ := h1 y hy
    rw [e]
    exact h.lt x hx
  · obtain ⟨x, hx, e, ej⟩ := h1 y hy
    have := h.piv x hx
    rw [e, ej]
    grind
  · obtain ⟨x, hx, e, ej⟩ := h1 y hy
    obtain ⟨x2, hx2, e2, _⟩ := h1 y2 hy2
    have := h.off x hx x2 hx2 (by rw [← e, ← e2]; exact ne)
    rw [e2, ej, this]
    grind
  · obtain ⟨x, hx, e, ej⟩ := h1 y hy
    have := h.led x hx j (by rw [← e]; exact hj)
    rw [ej, this]
    grind
/-- the sum of r's items at the pivots times the rows -/
def comb : List (Nat × Fr) → Fr → Fr
  | [], _, _ => 0
  | x :: L, r, j => r x.1 * x.2 j + comb L r j
/-- the vector that tells column j by the pivots -/
def zL : List (Nat × Fr) → Nat → Fr
  | [], j, i => if i = j then 1 else 0
  | x :: L, j, i => 1 * zL L j i + (-1) * (if i = x.1 then x.2 j else 0)
theorem dt_zL {w j : Nat} (hj : j < w) (r : Fr) : ∀ {L : List (Nat × Fr)}, (∀ x ∈ L, x.1 < w) → dt w r (zL L j) = r j - comb L r j
  | [], _ => by
    have := dt_one r 1 hj
    show dt w r (fun i => if i = j then 1 else 0) = r j - 0
    rw [this]
    grind
  | x :: L, h => by
    show dt w r (fun i => 1 * zL L j i + (-1) * (if i = x.1 then x.2 j else 0)) = r j - (r x.1 * x.2 j + comb L r j)
    rw [dt_lin2, dt_zL hj r fun y hy => h y (List.mem_cons_of_mem _ hy), dt_one r (x.2 j) (h x (by simp))]
    grind
theorem comb_off {r : Fr} {j : Nat} : ∀ {L : List (Nat × Fr)}, (∀ y ∈ L, r y.1 = 0) → comb L r j = 0
  | [], _ => rfl
  | x :: L, h => by
    show r x.1 * x.2 j + comb L r j = 0
    rw [h x (by simp), comb_off fun y hy => h y (List.mem_cons_of_mem _ hy)]
    grind
theorem comb_self {L : List (Nat × Fr)} (inc : L.Pairwise fun x y => x.1 < y.1) (one : ∀ x ∈ L, x.2 x.1 = 1) (off : ∀ x ∈ L, ∀ y ∈ L, x.1 ≠ y.1 → x.2 y.1 = 0) : ∀ x ∈ L, ∀ j, comb L x.2 j = x.2 j := by
  induction L with
  | nil => intro x hx; simp at hx
  | cons a L ih =>
    intro x hx j
    obtain ⟨ia, il⟩ := List.pairwise_cons.mp inc
    show x.2 a.1 * a.2 j + comb L x.2 j = x.2 j
    rcases List.mem_cons.mp hx with rfl | h
    · rw [one x hx, comb_off fun y hy => off x hx y (List.mem_cons_of_mem _ hy) (Nat.ne_of_lt (ia y hy))]
      grind
    · rw [off x hx a (by simp) (Nat.ne_of_gt (ia x h)), ih il (fun y hy => one y (List.mem_cons_of_mem _ hy)) (fun y hy y2 hy2 => off y (List.mem_cons_of_mem _ hy) y2 (List.mem_cons_of_mem _ hy2)) x h j]
      grind
/-- each given row is the sum of the reduced ones by its items at the pivots -/
theorem Red.comb {w : Nat} {G : List Fr} {L : List (Nat × Fr)} (h : Red w G L) {g : Fr} (hg : g ∈ G) {j : Nat} (hj : j < w) : g j = comb L g j := by
  have a : Ann w (L.map (·.2)) (zL L j) := fun r hr => by
    obtain ⟨x, hx, rfl⟩ := List.mem_map.mp hr
    rw [dt_zL hj _ h.lt, comb_self h.inc h.one h.off x hx]
    grind
  have := h.ann _ a g hg
  rw [dt_zL hj _ h.lt] at this
  grind
/-- a solution of the system with the last column as right side: no pivot there -/
theorem Red.no_last {w : Nat} {G : List Fr} {L : List (Nat × Fr)} (h : Red (w + 1) G L) {y : Fr} (hy : ∀ g ∈ G, sumTo w (fun j => g j * y j) = g w) : ∀ x ∈ L, x.1 ≠ w := by
  intro x hx e
  have hz : Ann (w + 1) G (fun j => if j < w then y j else -1) := fun g hg => by
    show sumTo w _ + g w * (if w < w then y w else -1) = 0
    rw [if_neg (Nat.lt_irrefl w), sumTo_congr (g := fun j => g j * y j) fun j hj => by show g j * (if j < w then y j else -1) = _; rw [if_pos hj], hy g hg]
    grind
  have h1 := (h.spn x hx).ann hz
  have h2 : dt (w + 1) x.2 (fun j => if j < w then y j else -1) = -1 := by
    show sumTo w _ + x.2 w * (if w < w then y w else -1) = -1
    have o := h.one x hx
    rw [e] at o
    rw [if_neg (Nat.lt_irrefl w), o, sumTo_congr (g := fun _ => 0) fun j hj => by rw [h.led x hx j (by omega)]; grind, sumTo_zero]
    grind
  rw [h2] at h1
  grind
/-- what is read off the last column solves the system -/
theorem Red.solves {w : Nat} {G : List Fr} {L : List (Nat × Fr)} (h : Red (w + 1) G L) (hn : ∀ x ∈ L, x.1 ≠ w) {y : Fr} (hy : ∀ x ∈ L, y x.1 = x.2 w) (h0 : ∀ j, j < w → (∀ x ∈ L, x.1 ≠ j) → y j = 0) : ∀ g ∈ G, sumTo w (fun j => g j * y j) = g w := by
  have key : ∀ {M : List (Nat × Fr)} {z : Fr} (g : Fr), M.Pairwise (fun x y => x.1 < y.1) → (∀ x ∈ M, x.1 < w) → (∀ x ∈ M, z x.1 = x.2 w) → (∀ j, j < w → (∀ x ∈ M, x.1 ≠ j) → z j = 0) → sumTo w (fun j => g j * z j) = Ind.comb M g w := by
    intro M
    induction M with
    | nil =>
      intro z g _ _ _ hz
      rw [sumTo_congr (g := fun _ => 0) fun j hj => by rw [hz j hj (by simp)]; grind, sumTo_zero]
      rfl
    | cons a M ih =>
      intro z g inc lt hv hz
      obtain ⟨ia, il⟩ := List.pairwise_cons.mp inc
      have e := ih (z := fun j => if j = a.1 then 0 else z j) g il (fun x hx => lt x (List.mem_cons_of_mem _ hx))
        (fun x hx => by rw [if_neg (Nat.ne_of_gt (ia x hx))]; exact hv x (List.mem_cons_of_mem _ hx))
        (fun j hj hq => by
          by_cases c : j = a.1
          · rw [if_pos c]
          · rw [if_neg c]
            refine hz j hj fun x hx => ?_
            rcases List.mem_cons.mp hx with rfl | hx
            · exact fun z => c z.symm
            · exact hq x hx)
      have o := sumTo_one g (z a.1) (lt a (by simp))
      have s : sumTo w (fun j => g j * z j) = 1 * sumTo w (fun j => g j * (if j = a.1 then 0 else z j)) + 1 * sumTo w (fun j => g j * (if j = a.1 then z a.1 else 0)) := by
        rw [← sumTo_lin]
        refine sumTo_congr fun j _ => ?_
        by_cases c : j = a.1
        · rw [if_pos c, if_pos c, c]
          grind
        · rw [if_neg c, if_neg c]
          grind
      rw [s, e, o, hv a (by simp)]
      show 1 * Ind.comb M g w + 1 * (g a.1 * a.2 w) = g a.1 * a.2 w + Ind.comb M g w
      grind
  intro g hg
  rw [key g h.inc (fun x hx => by have := h.lt x hx; have := hn x hx; omega) hy h0, ← h.comb hg (Nat.lt_succ_self w)]
end Ind

set_option Elab.async false
set_option linter.all false
set_option maxRecDepth 100000
set_option maxHeartbeats 4000000
set_option exponentiation.threshold 9000
namespace Ind
open PySem PySem.Spec PyProof.Rows L2
open Builtin.Int (intBits)
theorem Paired.snocP {α β : Type} {F : α → β → Prop} : ∀ {xs : List α} {ys : List β} {x : α} {y : β}, Paired F xs ys → F x y → Paired F (xs ++ [x]) (ys ++ [y])
  | _, _, _, _, .nil, h => .cons h .nil
  | _, _, _, _, .cons r t, h => .cons r (Paired.snocP t h)
theorem Paired.lf {α β : Type} {F : α → β → Prop} : ∀ {xs : List α} {ys : List β}, Paired F xs ys → ∀ x ∈ xs, ∃ y ∈ ys, F x y
  | _, _, .cons r t, x, hx => by
    rcases List.mem_cons.mp hx with rfl | h
    · exact ⟨_, by simp, r⟩
    · obtain ⟨y, hy, z⟩ := Paired.lf t x h
      exact ⟨y, List.mem_cons_of_mem _ hy, z⟩
theorem Paired.rt {α β : Type} {F : α → β → Prop} : ∀ {xs : List α} {ys : List β}, Paired F xs ys → ∀ y ∈ ys, ∃ x ∈ xs, F x y
  | _, _, .cons r t, y, hy => by
    rcases List.mem_cons.mp hy with rfl | h
    · exact ⟨_, by simp, r⟩
    · obtain ⟨x, hx, z⟩ := Paired.rt t y h
      exact ⟨x, List.mem_cons_of_mem _ hx, z⟩
/-- // where the interpreter divides by itself -/
theorem op_fdivC {X : Cx} : OpR X (binaryOp .FloorDiv) (rI (fun _ j => j ≠ 0 ∧ intBits j ≤ 8000) fun i j => .int (i.fdiv j)) := by
  intro pins s σ H x y v u Q I rx ry h
  obtain ⟨i, j, rfl, rfl, ⟨hc, hb⟩, q⟩ := h
  obtain ⟨t, rfl⟩ := rx
  obtain ⟨t', rfl⟩ := ry
  refine floordiv_int hc ⟨.int (i.fdiv j), H, I.tok _, ⟨_, rfl⟩, q⟩ (.inl ?_)
  have h1 : j.natAbs.log2 < 8000 := by
    have h2 := PySem.intBits_le_iff.mp hb
    exact (Nat.log2_lt (by omega)).mpr h2
  unfold Builtin.divisionGoesByPylong
  have h3 : (if (j == 0) = true then 0 else j.natAbs.log2 / 30 + 1) ≤ 300 := by
    split <;> omega
  simp only [Bool.and_eq_false_iff, decide_eq_false_iff_not]
  exact .inl (by omega)
def fr (ns : List Int) : Fr := fun j => ((ns.getD j 0 : Int) : Rat)
end Ind

set_option Elab.async false
set_option linter.all false
set_option maxRecDepth 100000
set_option maxHeartbeats 4000000
namespace Ind
open PySem PySem.Spec PyProof.Rows L2
section
variable {prog : Program} {w : World} {A : Around} {E : Value → Shared → Prop} {s : Shared} {K : PySem.W.Frag} {x C f : Addr} {ox : Obj} {od : Option Obj} {b tb : Value}
/-- object.__ne__ over an own __eq__ -/
theorem entry_neK {Q : Fin → Shared → Prop} (hu : A.units < cLine) (X : K.In s.heap) (I : PySem.W.InstAt s.heap x ox C od) (he : PySem.W.findIn K (.ref C) "__eq__" = some (some (.ref f))) (hf : PySem.W.isFn K (.ref f) = true)
    (h : wpAny (model prog w) A (call (.ref f) [.ref x, b]) (fun v s' => ∃ r, v = .bool r ∧ Q (.done (.ret (.bool (!r)))) s') E s) :
    wpAny (model prog w) A (Builtin.«object.__ne__» ⟨[.ref x, b], []⟩) Q E s := by
  unfold Builtin.«object.__ne__»
  refine wpAny_bind (wpAny_of_eq (a := ((Value.ref x : Value), [b])) (by first | rfl | (simp only [slotArgs]; rfl)) ?_)
  dsimp only
  refine wpAny_bind (wpAny_cRoomFor hu ?_)
  refine wpAny_bind (m := callSpecialIfBound? (.ref x) (Str.ofString "__eq__") [b]) (PySem.W.ifBound_K X I he hf (wpAny_mono h (fun v s' hv => ?_) fun _ _ e => e))
  obtain ⟨r, rfl, q⟩ := hv
  dsimp only
  exact wpAny_bind (wpAny_truthy_bool (wpAny_pure q))
theorem cmp_neK {Q : Value → Shared → Prop} (hu : A.units + 1 < cLine) (X : K.In s.heap) (I : PySem.W.InstAt s.heap x ox C od) (hb : PySem.W.Looks (model prog w) s.heap (typeOf b) tb) (hn : PySem.W.notFirst K C tb = true)
    (hne : PySem.W.findIn K (.ref C) "__ne__" = some (some (.builtin "object.__ne__"))) (hm : PySem.W.mroIn K C (.type "object") = some true) (he : PySem.W.findIn K (.ref C) "__eq__" = some (some (.ref f))) (hf : PySem.W.isFn K (.ref f) = true)
    (h : wpAny (model prog w) A.in1 (call (.ref f) [.ref x, b]) (fun v s' => ∃ r, v = .bool r ∧ Q (.bool (!r)) s') E s) : wpAny (model prog w) A (richCompare .NotEq (.ref x) b) Q E s := by
  have one : wpAny (model prog w) A (tryCompare (.ref x) "__ne__" b) (fun r s' => ∃ v, r = some v ∧ Q v s') E s := by
    unfold tryCompare
    refine wpAny_bind (NtL.csib (s := s) (id := "object.__ne__") (I.type.andThen (PySem.W.looks_findIn X hne)) (F.cmp_object.ne.bind _) ?_)
    refine wpAny_call (codeAny_call_builtin F.cmp_object.ne.plain F.cmpEntry_ne (PySem.W.check_slot F.cmpKind_ne F.cmpSplit_ne (I.type.andThen (PySem.W.looks_mroIn X hm)) (F.cmpArgs_ne _ _) ?_))
    refine entry_neK (A := A.in1) hu X I he hf (wpAny_mono h (fun v s' hv => ?_) fun _ _ e => e)
    obtain ⟨r, rfl, q⟩ := hv
    exact ⟨r, rfl, wpAny_pure ⟨_, rfl, q⟩⟩
  unfold richCompare
  simp only [oneThing_ref]
  refine wpAny_holding (wpAny_bind (wpAny_cRoomFor (by omega) ?_))
  refine wpAny_bind (I.type.here (wpAny_bind (hb.here ?_)))
  split
  · rename_i q
    have e : PySem.W.subIn K tb (.ref C) = some false := by
      rcases Bool.or_eq_true_iff.mp hn with e | e
      · rw [beq_iff_eq.mp e] at q
        simp at q
      · exact beq_iff_eq.mp e
    refine wpAny_bind ((PySem.W.looks_subIn X e).here ?_)
    simp only [Bool.false_eq_true, if_false]
    refine wpAny_bind (wpAny_mono one (fun r s' z => ?_) fun _ _ e => e)
    obtain ⟨v, rfl, hq⟩ := z
    exact wpAny_pure hq
  · refine wpAny_bind (wpAny_pure ?_)
    simp only [Bool.false_eq_true, if_false]
    refine wpAny_bind (wpAny_mono one (fun r s' z => ?_) fun _ _ e => e)
    obtain ⟨v, rfl, hq⟩ := z
    exact wpAny_pure hq
end
/-! ### == and != of an own instance, over values -/
section
variable {X : Cx} {CX : CXT} {n : Nat} {C f : Addr} {fd : FuncData} {ps : List Str} {sp : Sp} {E : XK}
/-- x == y, x an instance of the class at C whose own == is at f and answers by True or False; y anything whose type is told -/
def rEqO (K : PySem.W.Frag) (C : Addr) (neg : Bool) (sp : Sp) (E : XK) : R2 := fun x y H Q => ∃ a dx fs t, x = .ref a ∧ H a = some (.ins C dx fs) ∧ TyX K H y t ∧ PySem.W.notFirst K C t = true ∧
  sp [x, y] H (fun z H' => ∃ r, z = .bl r ∧ Q (.bl (if neg then !r else r)) H') E
structure EqC (X : Cx) (CX : CXT) (n : Nat) (C f : Addr) (fd : FuncData) (ps : List Str) (sp : Sp) (E : XK) : Prop where
  fn : FnOk X.prog X.w X.K X.mg X.base CX n f fd ps sp
  eq : PySem.W.findIn X.K (.ref C) "__eq__" = some (some (.ref f))
  isf : PySem.W.isFn X.K (.ref f) = true
  b : Binds X.K fd ps []
  px : Passes CX X E
theorem run_eqO {pins : List (Addr × Obj)} {σ : L2.St} {H : Hp} {s : Shared} {A : Around} {a : Addr} {y : V} {v : Value} {R : Bool → Hp → Prop} (G : EqC X CX n C f fd ps sp E) (hr : Room n A) (hfr : A.frames = X.A.frames) (I : Inv X pins σ H s) (ry : RelV y v)
    (h : sp [.ref a, y] H (fun z H' => ∃ r, z = .bl r ∧ R r H') E) : wpAny (model X.prog X.w) A (call (.ref f) [.ref a, v]) (fun u s' => ∃ r, u = .bool r ∧ ∃ H', Inv X pins σ H' s' ∧ R r H') X.xe s := by
  have e0 : Env0 X.prog X.w X.K X.mg X.base A X.stack s H := by
    have e := I.env0
    exact ⟨by rw [hfr]; exact e.frames, e.mod, e.bs, e.bsz, e.funs, e.frf, e.hok, e.bare⟩
  have hl := G.fn.len _ _ _ _ h
  have r2 : Vals [V.ref a, y] [Value.ref a, v] := .cons rfl (.cons ry .nil)
  refine wpAny_call (codeAny_mono (G.fn.run A X.stack s H ⟨[.ref a, v], []⟩ [.ref a, v] [.ref a, y] _ E hr e0 (by
    have := G.b s [.ref a, v] I.kIn (by simpa using hl)
    simpa using this) r2 h) fun r s' hq => ?_)
  cases r with
  | error e => exact G.px pins σ H s e s' I hq
  | ok fl =>
    cases fl with
    | ret u =>
      obtain ⟨z, H', I', rz, r, ez, q⟩ := I.after hq
      subst ez
      cases rz
      exact ⟨r, rfl, H', I', q⟩
    | next => exact False.elim hq
    | brk => exact False.elim hq
    | cont => exact False.elim hq
theorem op_eqO (G : EqC X CX n C f fd ps sp E) (hr : Room n X.A) : OpR X (compareOp .Eq) (rEqO X.K C false sp E) := by
  intro pins s σ H x y v u Q I rx ry h
  obtain ⟨a, dx, fs, t, rfl, ha, ty, hn, q⟩ := h
  cases (show v = Value.ref a from rx)
  obtain ⟨mA, O, _⟩ := ins_get I.hok ha
  obtain ⟨od, J, _⟩ := O.look
  obtain ⟨P, Z, p, _⟩ := kit_of I ry ty
  obtain ⟨m, hF⟩ := I.fr
  show wpAny (model X.prog X.w) X.A (richCompare .Eq (.ref a) u) (EP X pins σ Q) X.xe s
  refine PySem.W.cmp_K (op := .Eq) (tb := t) hr.units0 hF I.ok.mod.kin J (Z.ty _ _ I.kIn p) hn G.eq G.isf ?_
  refine wpAny_mono (run_eqO G hr rfl I ry q) (fun w s' z => ?_) fun _ _ e => e
  obtain ⟨r, rfl, H', I', q'⟩ := z
  exact ⟨.bl r, H', I', rfl, q'⟩
theorem op_neO (G : EqC X CX n C f fd ps sp E) (hr : Room (n + 1) X.A) (hne : PySem.W.findIn X.K (.ref C) "__ne__" = some (some (.builtin "object.__ne__"))) (hm : PySem.W.mroIn X.K C (.type "object") = some true) :
    OpR X (compareOp .NotEq) (rEqO X.K C true sp E) := by
  intro pins s σ H x y v u Q I rx ry h
  obtain ⟨a, dx, fs, t, rfl, ha, ty, hn, q⟩ := h
  cases (show v = Value.ref a from rx)
  obtain ⟨mA, O, _⟩ := ins_get I.hok ha
  obtain ⟨od, J, _⟩ := O.look
  obtain ⟨P, Z, p, _⟩ := kit_of I ry ty
  show wpAny (model X.prog X.w) X.A (richCompare .NotEq (.ref a) u) (EP X pins σ Q) X.xe s
  refine cmp_neK (tb := t) (by have := hr.units; omega) I.kIn J (Z.ty _ _ I.kIn p) hn hne hm G.eq G.isf ?_
  refine wpAny_mono (run_eqO G hr.in1 rfl I ry q) (fun w s' z => ?_) fun _ _ e => e
  obtain ⟨r, rfl, H', I', q'⟩ := z
  exact ⟨r, rfl, .bl (!r), H', I', rfl, q'⟩
end
end Ind

set_option Elab.async false
set_option linter.all false
set_option maxRecDepth 100000
set_option maxHeartbeats 4000000
namespace Ind
open PySem PySem.Spec PyProof.Rows L2
open Builtin.Int (intBits)
abbrev sEq : Stmt := inClass (top 18) 5
abbrev sZero : Stmt := top 19
/-- behind Ratio(n, d) -/
theorem mk_ok {C Z : Addr} {H1 : Hp} {n d : Int} (hd : d ≠ 0) {Q : VK} {E : XK} (h : ∀ (p : Addr) (H' : Hp), RatAt C H' p (nN n d) (nD n d) → Same H1 H' → H1 p = none → Q (.ref p) H') :
    ∀ x dx, H1 x = none → H1 dx = none → dx ≠ x → spInit C Z [.ref x, .int n, .int d] (upd (upd H1 dx (.own x)) x (.ins C dx [])) (fun v H2 => v = .non ∧ Q (.ref x) H2) E := fun x dx nx nd ne =>
  ⟨x, dx, n, d, rfl, upd_same, fun z => absurd z hd, fun _ H' r k => ⟨rfl, h x H' r (Same.made nx nd k) nx⟩⟩
/-- a == b of a number: another one, or something of another class -/
def spEqR (K : PySem.W.Frag) (C : Addr) : Sp := fun vs H Q _ => (∃ (p q : Addr) (a b c d : Int), vs = [.ref p, .ref q] ∧ RatAt C H p a b ∧ RatAt C H q c d ∧ Q (.bl (decide (a = c ∧ b = d))) H) ∨
  ∃ (p : Addr) (a b : Int) (y : V) (t : Value), vs = [.ref p, y] ∧ RatAt C H p a b ∧ TyX K H y t ∧ PySem.W.kitOne K t (.ref C) = some false ∧ Q (.bl false) H
def spMk (C : Addr) (a b : Int) : Sp := fun vs H Q _ => vs = [] ∧ ∀ (p : Addr) (H' : Hp), RatAt C H' p a b → Same H H' → H p = none → Q (.ref p) H'
section
variable {P : Program} {w : World} {K : PySem.W.Frag} {mg : Str → Option Value} {base : Heap} {C Z : Addr}
theorem scEq : FnScope ["self", "other"] ["self", "other"] (defScope sEq) := ⟨rfl, rfl, rfl, by decide +kernel, rfl, by decide +kernel, by decide +kernel⟩
theorem ok_eq {f : Addr} {fd : FuncData} (F : Fun K "__eq__" "Ratio.__eq__" sEq f fd) (T : TxL K mg) (R : TxR K mg C Z) (I : TxI K C) : FnOk P w K mg base CX0 1 f fd ["self", "other"] (spEqR K C) := by
  refine F.ok scEq (fun vs H Q E h => ?_) (fun cdv A outer s H vs Q E hr h => ?_)
  · rcases h with ⟨p, q, a, b, c, d, rfl, _⟩ | ⟨p, a, b, y, t, rfl, _⟩ <;> rfl
  · refine ⟨_, pss_one (ps_ret (pe_and (pe_callB call_isi (by rfl) T.isinstance (by decide +kernel) (pa_cons (pv 1) (pa_cons (pe_glob (v := .ref C) rfl R.mgC rfl) pa_nil)))
      (pe_and (pe_cmpR op_eq (pe_fld (pv 0) rfl) (pe_fld (pv 1) rfl) (nomark _)) (pe_one (pe_cmpR op_eq (pe_fld (pv 0) rfl) (pe_fld (pv 1) rfl) (nomark _)))))), ?_⟩
    rcases h with ⟨p, q, a, b, c, d, rfl, ⟨dx, hp⟩, ⟨dy, hq⟩, k⟩ | ⟨p, a, b, y, t, rfl, ⟨dx, hp⟩, ty, hk, k⟩
    · refine ⟨_, rfl, _, _, _, _, true, rfl, ClsV.own C, .base (.ins hq R.cl I.ha I.hn I.ht I.hm), I.kC, true, rfl, iteT ?_⟩
      refine ⟨_, rfl, p, C, dx, _, _, rfl, hp, R.cl, R.nN, rf_n _ _, _, rfl, q, C, dy, _, _, rfl, hq, R.cl, R.nN, rf_n _ _, rfl, _, rfl, ?_⟩
      by_cases e1 : a = c
      · rw [show decide (V.int a = V.int c) = true from decide_eq_true (by rw [e1])]
        refine iteT ⟨_, rfl, p, C, dx, _, _, rfl, hp, R.cl, R.nD, rf_d _ _, _, rfl, q, C, dy, _, _, rfl, hq, R.cl, R.nD, rf_d _ _, rfl, ?_⟩
        have e2 : decide (V.int b = V.int d) = decide (a = c ∧ b = d) := by
          by_cases e : b = d
          · simp [e, e1]
          · simp [e, e1]
        rw [← e2] at k
        exact k
      · rw [show decide (V.int a = V.int c) = false from decide_eq_false (fun z => e1 (V.int.inj z))]
        have e2 : decide (a = c ∧ b = d) = false := decide_eq_false fun z => e1 z.1
        rw [e2] at k
        exact iteF k
    · exact ⟨_, rfl, _, _, _, _, false, rfl, ClsV.own C, ty, hk, false, rfl, iteF k⟩
theorem scZ : FnScope [] [] (defScope sZero) := ⟨rfl, rfl, rfl, by decide +kernel, rfl, by decide +kernel, by decide +kernel⟩
/-- how Ratio's __init__ stands -/
structure MkR (P : Program) (w : World) (K : PySem.W.Frag) (mg : Str → Option Value) (base : Heap) (C Z : Addr) (fI : Addr) (fdI : FuncData) (ds : List Value) : Prop where
  cm : Mk K C fI
  fn : FnOk P w K mg base (L2.CX P w) 41 fI fdI ["self", "n", "d"] (spInit C Z)
  b2 : Binds K fdI ["self", "n", "d"] []
  b1 : Binds K fdI ["self", "n", "d"] ds
  v1 : Vals [V.int 1] ds
theorem ok_zero {f fI : Addr} {fd fdI : FuncData} {ds : List Value} (F : Fun K "zero" "zero" sZero f fd) (R : TxR K mg C Z) (M : MkR P w K mg base C Z fI fdI ds) : FnOk P w K mg base CX0 43 f fd [] (spMk C 0 1) := by
  refine F.ok scZ (fun vs H Q E h => ?_) (fun cdv A outer s H vs Q E hr h => ?_)
  · obtain ⟨rfl, _⟩ := h
    rfl
  · obtain ⟨rfl, k⟩ := h
    refine ⟨_, pss_one (ps_ret (pe_make M.cm M.fn hr (by rfl) R.mgC M.b1 M.v1 passL (pa_cons pe_int pa_nil))), ?_⟩
    have e := n_one 0
    refine mk_ok (n := 0) (d := 1) (by decide) fun p H' r s n => k p H' ?_ s n
    rw [e.1, e.2] at r
    exact r
end
end Ind

set_option Elab.async false
set_option linter.all false
set_option maxRecDepth 100000
set_option maxHeartbeats 4000000
set_option exponentiation.threshold 9000
namespace Ind
open PySem PySem.Spec PyProof.Rows L2
open Builtin.Int (intBits)
/-! ### a number's two ints -/
abbrev Q2 := Int × Int
structure Lo (q : Q2) : Prop where
  pos : 0 < q.2
  low : Nat.gcd q.1.natAbs q.2.natAbs = 1
def rv (q : Q2) : Rat := ((q.1 : Int) : Rat) / ((q.2 : Int) : Rat)
def mkq (n d : Int) : Q2 := (nN n d, nD n d)
theorem lo_mk {n d : Int} (h : d ≠ 0) : Lo (mkq n d) := ⟨nD_pos h, n_gcd h⟩
theorem Lo.ne {q : Q2} (h : Lo q) : q.2 ≠ 0 := Int.ne_of_gt h.pos
theorem cst_ne {d : Int} (h : d ≠ 0) : ((d : Int) : Rat) ≠ 0 := fun z => h (by exact_mod_cast z)
theorem rv_mk {n d : Int} (h : d ≠ 0) : rv (mkq n d) = ((n : Int) : Rat) / ((d : Int) : Rat) := by
  have e := n_cross (n := n) h
  have hd := nD_pos (n := n) h
  have e2 : ((nN n d : Int) : Rat) * ((d : Int) : Rat) = ((n : Int) : Rat) * ((nD n d : Int) : Rat) := by rw [← Rat.intCast_mul, ← Rat.intCast_mul, e]
  have h1 := cst_ne h
  have h2 := cst_ne (Int.ne_of_gt hd)
  show ((nN n d : Int) : Rat) / ((nD n d : Int) : Rat) = _
  grind
theorem lo_eq {a b : Q2} (ha : Lo a) (hb : Lo b) (e : rv a = rv b) : a = b := by
  obtain ⟨p, q⟩ := a
  obtain ⟨r, s⟩ := b
  have h1 := cst_ne ha.ne
  have h2 := cst_ne hb.ne
  have e2 : ((p : Int) : Rat) * ((s : Int) : Rat) = ((r : Int) : Rat) * ((q : Int) : Rat) := by
    unfold rv at e
    grind
  have e3 : p * s = r * q := by
    rw [← Rat.intCast_mul, ← Rat.intCast_mul] at e2
    exact_mod_cast e2
  obtain ⟨u, v⟩ := low_uniq ha.pos hb.pos ha.low hb.low e3
  exact Prod.ext u v
def addq (a b : Q2) : Q2 := mkq (a.1 * b.2 + b.1 * a.2) (a.2 * b.2)
def mulq (a b : Q2) : Q2 := mkq (a.1 * b.1) (a.2 * b.2)
theorem lo_add {a b : Q2} (ha : a.2 ≠ 0) (hb : b.2 ≠ 0) : Lo (addq a b) := lo_mk (Int.mul_ne_zero ha hb)
theorem lo_mul {a b : Q2} (ha : a.2 ≠ 0) (hb : b.2 ≠ 0) : Lo (mulq a b) := lo_mk (Int.mul_ne_zero ha hb)
theorem rv_add {a b : Q2} (ha : a.2 ≠ 0) (hb : b.2 ≠ 0) : rv (addq a b) = rv a + rv b := by
  unfold addq
  rw [rv_mk (Int.mul_ne_zero ha hb), Rat.intCast_add, Rat.intCast_mul, Rat.intCast_mul, Rat.intCast_mul]
  have h1 := cst_ne ha
  have h2 := cst_ne hb
  unfold rv
  grind
theorem rv_mul {a b : Q2} (ha : a.2 ≠ 0) (hb : b.2 ≠ 0) : rv (mulq a b) = rv a * rv b := by
  unfold mulq
  rw [rv_mk (Int.mul_ne_zero ha hb), Rat.intCast_mul, Rat.intCast_mul]
  have h1 := cst_ne ha
  have h2 := cst_ne hb
  unfold rv
  grind
abbrev q0 : Q2 := (0, 1)
theorem lo_q0 : Lo q0 := ⟨by decide, by decide⟩
theorem rv_q0 : rv q0 = 0 := by
  unfold rv
  show ((0 : Int) : Rat) / ((1 : Int) : Rat) = 0
  grind
theorem rv_q1 : rv (1, 1) = 1 := by
  unfold rv
  show ((1 : Int) : Rat) / ((1 : Int) : Rat) = 1
  grind
/-- sizes -/
def Bq (m : Nat) (q : Q2) : Prop := intBits q.1 ≤ m ∧ intBits q.2 ≤ m
theorem Bq.mono {m n : Nat} {q : Q2} (h : Bq m q) (l : m ≤ n) : Bq n q := ⟨Nat.le_trans h.1 l, Nat.le_trans h.2 l⟩
theorem bq_mk {n d : Int} {m : Nat} (h1 : intBits n ≤ m) (h2 : intBits d ≤ m) : Bq m (mkq n d) := ⟨bits_nN h1, bits_nD h2⟩
theorem bq_add {a b : Q2} {m n : Nat} (ha : Bq m a) (hb : Bq n b) : Bq (m + n + 1) (addq a b) := by
  have h1 := PySem.intBits_mul_le ha.1 hb.2
  have h2 := PySem.intBits_mul_le hb.1 ha.2
  have h3 := PySem.intBits_mul_le ha.2 hb.2
  have h4 := PySem.intBits_add_le h1 h2
  exact bq_mk (by omega) (by omega)
theorem bq_mul {a b : Q2} {m n : Nat} (ha : Bq m a) (hb : Bq n b) : Bq (m + n) (mulq a b) := by
  have h1 := PySem.intBits_mul_le ha.1 hb.1
  have h3 := PySem.intBits_mul_le ha.2 hb.2
  exact bq_mk (by omega) (by omega)
/-! ### what stands in the heap -/
/-- all but the list at D stays, and every thing that is no list -/
def SX (D : Addr) (H H' : Hp) : Prop := ∀ b o, H b = some o → (b ≠ D ∨ ∀ xs, o ≠ .lst xs) → H' b = some o
abbrev FH (β : Type) := Hp → Addr → β → Prop
/-- it stays where lists change -/
def Stb {β : Type} (F : FH β) : Prop := ∀ H H' p b, (∀ b o, H b = some o → (∀ xs, o ≠ .lst xs) → H' b = some o) → F H p b → F H' p b
def StbX {β : Type} (D : Addr) (F : FH β) : Prop := ∀ H H' p b, SX D H H' → F H p b → F H' p b
theorem Stb.x {β : Type} {F : FH β} (h : Stb F) (D : Addr) : StbX D F := fun H H' p b s => h H H' p b fun c o e z => s c o e (.inr z)
theorem Stb.same {β : Type} {F : FH β} (h : Stb F) {H H' : Hp} {p : Addr} {b : β} (s : Same H H') (f : F H p b) : F H' p b := h H H' p b (fun c o e _ => s c o e) f
theorem StbX.same {β : Type} {F : FH β} {D : Addr} (h : StbX D F) {H H' : Hp} {p : Addr} {b : β} (s : Same H H') (f : F H p b) : F H' p b := h H H' p b (fun c o e _ => s c o e) f
theorem sx_upd {H : Hp} {D : Addr} {xs : List V} {o : HO} (h : H D = some (.lst xs)) : SX D H (upd H D o) := fun b u e z => by
  rcases z with n | n
  · rw [upd_ne n]
    exact e
  · rw [upd_ne]
    · exact e
    · intro q
      rw [q, h] at e
      exact n xs (Option.some.inj e).symm
theorem Paired.imp {α β : Type} {F G : α → β → Prop} (h : ∀ a b, F a b → G a b) : ∀ {xs : List α} {ys : List β}, Paired F xs ys → Paired G xs ys
  | _, _, .nil => .nil
  | _, _, .cons r t => .cons (h _ _ r) (Paired.imp h t)
theorem Paired.at {α β : Type} {F : α → β → Prop} : ∀ {xs : List α} {ys : List β} {i : Nat} {x : α}, Paired F xs ys → xs[i]? = some x → ∃ y, ys[i]? = some y ∧ F x y
  | _, _, 0, _, .cons a t, h => ⟨_, rfl, by
      have e := Option.some.inj h
      rw [← e]
      exact a⟩
  | _, _, i + 1, _, .cons a t, h => Paired.at (i := i) t h
  | _, _, _, _, .nil, h => by simp at h
theorem Paired.at2 {α β : Type} {F : α → β → Prop} : ∀ {xs : List α} {ys : List β} {i : Nat} {y : β}, Paired F xs ys → ys[i]? = some y → ∃ x, xs[i]? = some x ∧ F x y
  | _, _, 0, _, .cons a t, h => ⟨_, rfl, by
      have e := Option.some.inj h
      rw [← e]
      exact a⟩
  | _, _, i + 1, _, .cons a t, h => Paired.at2 (i := i) t h
  | _, _, _, _, .nil, h => by simp at h
/-- a tuple, a list of things -/
def Tp {β : Type} (F : FH β) : FH (List β) := fun H t bs => ∃ ps : List Addr, H t = some (.tup (ps.map V.ref)) ∧ Paired (F H) ps bs
def Ls {β : Type} (F : FH β) : FH (List β) := fun H t bs => ∃ ps : List Addr, H t = some (.lst (ps.map V.ref)) ∧ Paired (F H) ps bs
theorem Tp.stb {β : Type} {F : FH β} (h : Stb F) : Stb (Tp F) := fun H H' t bs s ⟨ps, e, q⟩ => ⟨ps, s _ _ e (by intro xs z; cases z), Paired.imp (fun a b f => h H H' a b s f) q⟩
theorem Ls.stbx {β : Type} {F : FH β} (h : Stb F) (D : Addr) : StbX D (fun H l bs => l ≠ D ∧ Ls F H l bs) := fun H H' l bs s ⟨n, ps, e, q⟩ => ⟨n, ps, s _ _ e (.inl n), Paired.imp (fun a b f => h.x D H H' a b s f) q⟩
theorem Ls.same {β : Type} {F : FH β} (h : Stb F) {H H' : Hp} {l : Addr} {bs : List β} (s : Same H H') (f : Ls F H l bs) : Ls F H' l bs := let ⟨ps, e, q⟩ := f; ⟨ps, s _ _ e, Paired.imp (fun a b f => h.same s f) q⟩
def RatQ (C : Addr) : FH Q2 := fun H p q => RatAt C H p q.1 q.2
def PairQ : FH Q2 := fun H p q => H p = some (.tup [.int q.1, .int q.2])
theorem RatQ.stb (C : Addr) : Stb (RatQ C) := fun H H' p q s ⟨dx, e⟩ => ⟨dx, s _ _ e (by intro xs z; cases z)⟩
theorem PairQ.stb : Stb PairQ := fun H H' p q s e => s _ _ e (by intro xs z; cases z)
theorem VecR.stb (C : Addr) : Stb (Tp (RatQ C)) := Tp.stb (RatQ.stb C)
theorem VecP.stb : Stb (Tp PairQ) := Tp.stb PairQ.stb
/-- an address among a tuple's or list's items -/
theorem item_of {as : List Addr} {i : Nat} {x : V} (hx : (as.map V.ref)[i]? = some x) : ∃ p, as[i]? = some p ∧ x = V.ref p := by
  rw [List.getElem?_map] at hx
  cases e : as[i]? with
  | none => rw [e] at hx; cases hx
  | some y => rw [e] at hx; exact ⟨y, rfl, (Option.some.inj hx).symm⟩
theorem ref_at {as : List Addr} {i : Nat} {p : Addr} (h : as[i]? = some p) : (as.map V.ref)[i]? = some (V.ref p) := by rw [List.getElem?_map, h]; rfl
theorem int_of {as : List Int} {i : Nat} {x : V} (hx : (as.map V.int)[i]? = some x) : ∃ n, as[i]? = some n ∧ x = V.int n := by
  rw [List.getElem?_map] at hx
  cases e : as[i]? with
  | none => rw [e] at hx; cases hx
  | some y => rw [e] at hx; exact ⟨y, rfl, (Option.some.inj hx).symm⟩
theorem len_small {n : Nat} (h : n ≤ 1000) : n < sizeLine := Nat.lt_of_le_of_lt h (by decide)
/-! ### what a comprehension has gathered -/
structure Col {β : Type} (F : FH β) (D : Addr) (H H2 : Hp) (bs : List β) : Prop where
  s : Same H H2
  at_ : Ls F H2 D bs
theorem Col.start {β : Type} {F : FH β} {D : Addr} {H : Hp} (h : H D = none) : Col F D H (upd H D (.lst [])) [] := ⟨same_upd h, [], upd_same, .nil⟩
theorem Col.push {β : Type} {F : FH β} {D p : Addr} {H H2 H3 : Hp} {bs : List β} {b : β} (x : Col F D H H2 bs) (hF : StbX D F) (hD : H D = none) (s : Same H2 H3) (hf : F H3 p b) (hl : bs.length ≤ 1000) :
    ∃ acc, H3 D = some (.lst acc) ∧ acc.length < sizeLine ∧ Col F D H (upd H3 D (.lst (acc ++ [V.ref p]))) (bs ++ [b]) := by
  obtain ⟨ps, e, q⟩ := x.at_
  have e3 := s _ _ e
  refine ⟨ps.map V.ref, e3, ?_, fun c o ec => ?_, ps ++ [p], ?_, ?_⟩
  · rw [List.length_map, q.length]
    exact len_small hl
  · rw [upd_ne (ne_of_none ec hD)]
    exact s _ _ (x.s c o ec)
  · rw [upd_same, List.map_append]
    rfl
  · exact Paired.snocP (Paired.imp (fun a b f => hF _ _ a b (sx_upd e3) (hF.same s f)) q) (hF _ _ _ _ (sx_upd e3) hf)
/-- .. of ints -/
structure ColI (D : Addr) (H H2 : Hp) (ns : List Int) : Prop where
  s : Same H H2
  at_ : H2 D = some (.lst (ns.map V.int))
theorem ColI.start {D : Addr} {H : Hp} (h : H D = none) : ColI D H (upd H D (.lst [])) [] := ⟨same_upd h, upd_same⟩
theorem ColI.push {D : Addr} {H H2 H3 : Hp} {ns : List Int} {n : Int} (x : ColI D H H2 ns) (hD : H D = none) (s : Same H2 H3) (hl : ns.length ≤ 1000) :
    ∃ acc, H3 D = some (.lst acc) ∧ acc.length < sizeLine ∧ ColI D H (upd H3 D (.lst (acc ++ [V.int n]))) (ns ++ [n]) := by
  refine ⟨ns.map V.int, s _ _ x.at_, ?_, fun c o ec => ?_, ?_⟩
  · rw [List.length_map]
    exact len_small hl
  · rw [upd_ne (ne_of_none ec hD)]
    exact s _ _ (x.s c o ec)
  · rw [upd_same, List.map_append]
    rfl
theorem take_snoc {α : Type} {xs : List α} {i : Nat} {x : α} (h : xs[i]? = some x) : xs.take (i + 1) = xs.take i ++ [x] := by
  rw [List.take_add_one, h]
  rfl
theorem map_take_snoc {α β : Type} {f : α → β} {xs : List α} {i : Nat} {x : α} (h : xs[i]? = some x) : (xs.take (i + 1)).map f = (xs.take i).map f ++ [f x] := by
  rw [take_snoc h, List.map_append]
  rfl
end Ind

set_option Elab.async false
set_option linter.all false
set_option maxRecDepth 100000
set_option maxHeartbeats 4000000
set_option exponentiation.threshold 9000
namespace Ind
open PySem PySem.Spec PyProof.Rows L2
open Builtin.Int (intBits)
abbrev sCF : Stmt := top 21
abbrev sDot : Stmt := top 99
/-! ### lcm of ints of some thousand bits -/
def rLcmC : List V → Hp → VK → Prop := fun vs H Q => ∃ a b : Int, vs = [.int a, .int b] ∧ a ≠ 0 ∧ b ≠ 0 ∧ intBits a ≤ 8000 ∧ intBits b ≤ 8000 ∧ Q (.int ((Nat.lcm a.natAbs b.natAbs : Nat) : Int)) H
theorem cr_lcmC {X : Cx} : CallR X (.builtin "math.lcm") rLcmC := by
  intro pins s σ H vs us Q I r h
  obtain ⟨a, b, rfl, ha, hb, la, lb, q⟩ := h
  obtain ⟨t, u, rfl⟩ := Vals.int2 r
  have e : Nat.lcm 1 a.natAbs = a.natAbs := Nat.lcm_one_left _
  have g1 : a.natAbs.log2 < 8000 := (Nat.log2_lt (by omega)).mpr (PySem.intBits_le_iff.mp la)
  have g2 : b.natAbs.log2 < 8000 := (Nat.log2_lt (by omega)).mpr (PySem.intBits_le_iff.mp lb)
  have m1 : (max 1 a.natAbs).log2 < 8000 := by
    rw [Nat.max_eq_right (by omega)]
    exact g1
  have m2 : (max a.natAbs b.natAbs).log2 < 8000 := by
    rcases Nat.le_total a.natAbs b.natAbs with c | c
    · rw [Nat.max_eq_right c]
      exact g2
    · rw [Nat.max_eq_left c]
      exact g1
  have hp : 0 < Nat.lcm a.natAbs b.natAbs := Nat.lcm_pos (by omega) (by omega)
  have hle : Nat.lcm a.natAbs b.natAbs ≤ a.natAbs * b.natAbs := Nat.lcm_le_mul (by omega) (by omega)
  have hsz : (((((Nat.lcm 1 a.natAbs).lcm b.natAbs : Nat) : Int)).natAbs).log2 < bitsLine := by
    rw [e]
    have h16 : intBits (a * b) ≤ 16000 := PySem.intBits_mul_le la lb
    have h17 := PySem.intBits_le_iff.mp h16
    rw [Int.natAbs_mul] at h17
    have h18 : (((Nat.lcm a.natAbs b.natAbs : Nat) : Int)).natAbs < 2 ^ 16000 := Nat.lt_of_le_of_lt hle h17
    have h19 : (((Nat.lcm a.natAbs b.natAbs : Nat) : Int)).natAbs.log2 < 16000 := (Nat.log2_lt (Nat.ne_of_gt hp)).mpr h18
    exact Nat.lt_of_lt_of_le h19 (by decide)
  refine call_function_meets PySem.W.MGF.kind_lcm PySem.W.MGF.plain_lcm PySem.W.MGF.entry_lcm (PySem.W.MGF.args_lcm _ _) (PySem.W.mg_run_lcm a t b u (by omega) (by omega) hsz).meets ?_
  rw [e]
  exact ⟨.int _, H, I.tok _, ⟨_, rfl⟩, q⟩
/-! ### common_form -/
def partsOf (B : Int) (qs : List Q2) : List Int := qs.map fun q => q.1 * B.fdiv q.2
def spCF (K : PySem.W.Frag) (C : Addr) : Sp := fun vs H Q _ => ∃ (l : Addr) (qs : List Q2) (b m : Nat) (M : Int), vs = [.ref l] ∧ Tp (RatQ C) H l qs ∧ (∀ q ∈ qs, 0 < q.2 ∧ Bq b q) ∧ qs.length ≤ 100 ∧ b ≤ 4000 ∧ m ≤ 4000 ∧ 0 < M ∧ intBits M ≤ m ∧ (∀ q ∈ qs, q.2 ∣ M) ∧
  ∀ (H' : Hp) (t p : Addr) (B : Int), Same H H' → H p = none → H' t = some (.tup [.ref p, .int B]) → H' p = some (.lst ((partsOf B qs).map V.int)) → 0 < B → (∀ q ∈ qs, q.2 ∣ B) → B ∣ M → Q (.ref t) H'
theorem bits_dvd {B M : Int} {m : Nat} (hM : 0 < M) (h : B ∣ M) (hm : intBits M ≤ m) : intBits B ≤ m := by
  refine PySem.intBits_le_of_natAbs ?_ hm
  exact Nat.le_of_dvd (by omega) (Int.natAbs_dvd_natAbs.mpr h)
section
variable {P : Program} {w : World} {K : PySem.W.Frag} {mg : Str → Option Value} {base : Heap} {C Z : Addr}
theorem scCF : FnScope ["numbers", "below", "number"] ["numbers"] (defScope sCF) := ⟨rfl, rfl, rfl, by decide +kernel, rfl, by decide +kernel, by decide +kernel⟩
theorem ok_cf {f : Addr} {fd : FuncData} (F : Fun K "common_form" "common_form" sCF f fd) (R : TxR K mg C Z) (gl : mg "lcm" = some (.builtin "math.lcm")) : FnOk P w K mg base CX0 1 f fd ["numbers"] (spCF K C) := by
  refine F.ok scCF (fun vs H Q E h => ?_) (fun cdv A outer s H vs Q E hr h => ?_)
  · obtain ⟨l, qs, b, m, M, rfl, _⟩ := h
    rfl
  · obtain ⟨l, qs, b, m, M, rfl, ⟨ps, hl, hP⟩, hq, hlen, hb, hm, hM, hMb, hMd, k⟩ := h
    refine ⟨_, pss_cons (ps_set (i := 1) scCF.nd rfl (Or.inr rfl) pe_int)
      (pss_cons (ps_for PassesOwn.never rfl (pi_tup (pv 0)) (pg_name (i := 2) scCF.nd rfl (Or.inl rfl))
        (pss_one (ps_if (pt_cmpR op_ne (pe_fld (pv 2) rfl) pe_int (nomark _)) (pss_one (ps_set (i := 1) scCF.nd rfl (Or.inr rfl) (pe_callBfun cr_lcmC (by rfl) gl (pa_cons (pv 1) (pa_cons (pe_fld (pv 2) rfl) pa_nil))))) pss_nil)))
      (pss_one (ps_ret (pe_tup (pa_cons (pe_lc (own := [("number", 2)]) (g := gName 2) (tt := tYes) (te := tOp (rI (fun i j => intBits i + intBits j ≤ 134217728) fun i j => .int (i * j)) (tFld K (tVar 2) "n") (tOp (rI (fun _ j => j ≠ 0 ∧ intBits j ≤ 8000) fun i j => .int (i.fdiv j)) (tVar 1) (tFld K (tVar 2) "d"))) rfl scCF.nd (pi_tup (pv 0)) (blkOk_by (N := ["numbers", "below", "number"]) (sc := defScope sCF) (by decide +kernel))
          (fun _ _ _ _ _ => pg_name (i := 2) scCF.nd rfl (Or.inl rfl)) (fun _ _ _ _ _ => pts_nil) (fun _ _ _ _ _ => pe_op op_mulB (pe_fld (pv 2) rfl) (pe_op op_fdivC (pv 1) (pe_fld (pv 2) rfl)))) (pa_cons (pv 1) pa_nil)))))), ?_⟩
    refine ⟨_, rfl, l, rfl, ⟨_, SqT.of hl⟩, for_tup (K := K) (a := l) (xs := ps.map V.ref) (fun i σ H' => H' = H ∧ ∃ (B : Int) (v : Option V), σ = [some (.ref l), some (.int B), v] ∧ 0 < B ∧ (∀ q ∈ qs.take i, q.2 ∣ B) ∧ B ∣ M)
      ⟨rfl, 1, none, rfl, by decide, by simp, Int.one_dvd M⟩ (fun i σ H' _ ⟨e, _⟩ => e ▸ SqT.of hl) ?_ ?_⟩
    · rintro i x σ H' hx ⟨rfl, B, v, rfl, hB0, hd, hBM⟩
      obtain ⟨p, hp, rfl⟩ := item_of hx
      obtain ⟨q, hqi, dx, hpa⟩ := Paired.at hP hp
      have hmem := List.mem_of_getElem? hqi
      obtain ⟨b0, bq⟩ := hq q hmem
      have tk := take_snoc hqi
      refine ⟨_, rfl, p, C, dx, _, _, rfl, hpa, R.cl, R.nD, rf_d _ _, rfl, _, rfl, ite2 (fun c => ?_) (fun c => ?_)⟩
      · have bB := bits_dvd hM hBM hMb
        refine ⟨_, rfl, _, rfl, p, C, dx, _, _, rfl, hpa, R.cl, R.nD, rf_d _ _, B, q.2, rfl, by omega, by omega, by omega, by have := bq.2; omega, rfl, _, _, rfl, ?_, fun x hx2 => ?_, ?_⟩
        · have : 0 < Nat.lcm B.natAbs q.2.natAbs := Nat.lcm_pos (by omega) (by omega)
          omega
        · rw [tk] at hx2
          rcases List.mem_append.mp hx2 with z | z
          · have h2 : (x.2).natAbs ∣ B.natAbs := Int.natAbs_dvd_natAbs.mpr (hd x z)
            have h3 : (x.2).natAbs ∣ Nat.lcm B.natAbs q.2.natAbs := Nat.dvd_trans h2 (Nat.dvd_lcm_left _ _)
            exact Int.natAbs_dvd_natAbs.mp h3
          · have e : x = q := by simpa using z
            subst e
            have h3 : x.2.natAbs ∣ Nat.lcm B.natAbs x.2.natAbs := Nat.dvd_lcm_right _ _
            exact Int.natAbs_dvd_natAbs.mp h3
        · have h3 : Nat.lcm B.natAbs q.2.natAbs ∣ M.natAbs := Nat.lcm_dvd (Int.natAbs_dvd_natAbs.mpr hBM) (Int.natAbs_dvd_natAbs.mpr (hMd q hmem))
          exact Int.natAbs_dvd_natAbs.mp h3
      · have hb1 : q.2 = 1 := by
          have z : ¬ ¬ (V.int q.2 = V.int 1) := by simpa using c
          exact V.int.inj (Classical.not_not.mp z)
        refine ⟨rfl, B, _, rfl, hB0, fun x hx2 => ?_, hBM⟩
        rw [tk] at hx2
        rcases List.mem_append.mp hx2 with z | z
        · exact hd x z
        · have e : x = q := by simpa using z
          rw [e, hb1]
          exact Int.one_dvd B
    · rintro σ H' ⟨rfl, B, v, rfl, hB0, hd, hBM⟩
      have hdA : ∀ q ∈ qs, q.2 ∣ B := fun q z => hd q (by
        rw [List.length_map, hP.length, List.take_length]
        exact z)
      have bB := bits_dvd hM hBM hMb
      refine ⟨_, rfl, l, rfl, ⟨_, SqT.of hl⟩, fun D hD => lc_tup (K := K) (a := l) (xs := ps.map V.ref) (fun i H2 => ColI D H' H2 (partsOf B (qs.take i))) (ColI.start hD) (fun i H2 _ z => .of (z.s _ _ hl)) ?_ ?_⟩
      · rintro i x H2 hx z
        obtain ⟨p, hp, rfl⟩ := item_of hx
        obtain ⟨q, hqi, hqa⟩ := Paired.at hP hp
        obtain ⟨dx, hpa⟩ := hqa.same z.s
        have hmem := List.mem_of_getElem? hqi
        obtain ⟨b0, bq⟩ := hq q hmem
        have b1 : intBits (B.fdiv q.2) ≤ m := PySem.intBits_fdiv_le bB
        have e : partsOf B (qs.take (i + 1)) = partsOf B (qs.take i) ++ [q.1 * B.fdiv q.2] := map_take_snoc hqi
        refine ⟨rfl, _, rfl, p, C, dx, _, _, rfl, hpa, R.cl, R.nN, rf_n _ _, _, rfl, _, rfl, p, C, dx, _, _, rfl, hpa, R.cl, R.nD, rf_d _ _, _, _, rfl, rfl, ⟨by omega, by have := bq.2; omega⟩, _, _, rfl, rfl, (by show intBits q.1 + intBits (B.fdiv q.2) ≤ 134217728; have := bq.1; omega), ?_⟩
        rw [e]
        refine z.push hD same_rfl ?_
        unfold partsOf
        rw [List.length_map, List.length_take]
        omega
      · rintro H2 z
        rw [List.length_map, hP.length, List.take_length] at z
        exact ⟨_, rfl, (by show 2 ≤ sizeLine; decide), fun t ht => k _ t D B (z.s.trans (same_upd ht)) hD upd_same (same_upd ht _ _ z.at_) hB0 hdA hBM⟩
end
end Ind

set_option Elab.async false
set_option linter.all false
set_option maxRecDepth 100000
set_option maxHeartbeats 4000000
set_option exponentiation.threshold 9000
namespace Ind
open PySem PySem.Spec PyProof.Rows L2
open Builtin.Int (intBits)
def spCFL (K : PySem.W.Frag) (C : Addr) : Sp := fun vs H Q _ => ∃ (l : Addr) (qs : List Q2) (b m : Nat) (M : Int), vs = [.ref l] ∧ Ls (RatQ C) H l qs ∧ (∀ q ∈ qs, 0 < q.2 ∧ Bq b q) ∧ qs.length ≤ 100 ∧ b ≤ 4000 ∧ m ≤ 4000 ∧ 0 < M ∧ intBits M ≤ m ∧ (∀ q ∈ qs, q.2 ∣ M) ∧
  ∀ (H' : Hp) (t p : Addr) (B : Int), Same H H' → H p = none → H' t = some (.tup [.ref p, .int B]) → H' p = some (.lst ((partsOf B qs).map V.int)) → 0 < B → (∀ q ∈ qs, q.2 ∣ B) → B ∣ M → Q (.ref t) H'
section
variable {P : Program} {w : World} {K : PySem.W.Frag} {mg : Str → Option Value} {base : Heap} {C Z : Addr}
theorem ok_cfL {f : Addr} {fd : FuncData} (F : Fun K "common_form" "common_form" sCF f fd) (R : TxR K mg C Z) (gl : mg "lcm" = some (.builtin "math.lcm")) : FnOk P w K mg base CX0 1 f fd ["numbers"] (spCFL K C) := by
  refine F.ok scCF (fun vs H Q E h => ?_) (fun cdv A outer s H vs Q E hr h => ?_)
  · obtain ⟨l, qs, b, m, M, rfl, _⟩ := h
    rfl
  · obtain ⟨l, qs, b, m, M, rfl, ⟨ps, hl, hP⟩, hq, hlen, hb, hm, hM, hMb, hMd, k⟩ := h
    refine ⟨_, pss_cons (ps_set (i := 1) scCF.nd rfl (Or.inr rfl) pe_int)
      (pss_cons (ps_for PassesOwn.never rfl (pi_list (pv 0)) (pg_name (i := 2) scCF.nd rfl (Or.inl rfl))
        (pss_one (ps_if (pt_cmpR op_ne (pe_fld (pv 2) rfl) pe_int (nomark _)) (pss_one (ps_set (i := 1) scCF.nd rfl (Or.inr rfl) (pe_callBfun cr_lcmC (by rfl) gl (pa_cons (pv 1) (pa_cons (pe_fld (pv 2) rfl) pa_nil))))) pss_nil)))
      (pss_one (ps_ret (pe_tup (pa_cons (pe_lc (own := [("number", 2)]) (g := gName 2) (tt := tYes) (te := tOp (rI (fun i j => intBits i + intBits j ≤ 134217728) fun i j => .int (i * j)) (tFld K (tVar 2) "n") (tOp (rI (fun _ j => j ≠ 0 ∧ intBits j ≤ 8000) fun i j => .int (i.fdiv j)) (tVar 1) (tFld K (tVar 2) "d"))) rfl scCF.nd (pi_list (pv 0)) (blkOk_by (N := ["numbers", "below", "number"]) (sc := defScope sCF) (by decide +kernel))
          (fun _ _ _ _ _ => pg_name (i := 2) scCF.nd rfl (Or.inl rfl)) (fun _ _ _ _ _ => pts_nil) (fun _ _ _ _ _ => pe_op op_mulB (pe_fld (pv 2) rfl) (pe_op op_fdivC (pv 1) (pe_fld (pv 2) rfl)))) (pa_cons (pv 1) pa_nil)))))), ?_⟩
    refine ⟨_, rfl, l, rfl, ⟨_, SqL.of hl⟩, for_list (K := K) (a := l) (xs := ps.map V.ref) (fun i σ H' => H' = H ∧ ∃ (B : Int) (v : Option V), σ = [some (.ref l), some (.int B), v] ∧ 0 < B ∧ (∀ q ∈ qs.take i, q.2 ∣ B) ∧ B ∣ M)
      ⟨rfl, 1, none, rfl, by decide, by simp, Int.one_dvd M⟩ (fun i σ H' _ ⟨e, _⟩ => e ▸ SqL.of hl) ?_ ?_⟩
    · rintro i x σ H' hx ⟨rfl, B, v, rfl, hB0, hd, hBM⟩
      obtain ⟨p, hp, rfl⟩ := item_of hx
      obtain ⟨q, hqi, dx, hpa⟩ := Paired.at hP hp
      have hmem := List.mem_of_getElem? hqi
      obtain ⟨b0, bq⟩ := hq q hmem
      have tk := take_snoc hqi
      refine ⟨_, rfl, p, C, dx, _, _, rfl, hpa, R.cl, R.nD, rf_d _ _, rfl, _, rfl, ite2 (fun c => ?_) (fun c => ?_)⟩
      · have bB := bits_dvd hM hBM hMb
        refine ⟨_, rfl, _, rfl, p, C, dx, _, _, rfl, hpa, R.cl, R.nD, rf_d _ _, B, q.2, rfl, by omega, by omega, by omega, by have := bq.2; omega, rfl, _, _, rfl, ?_, fun x hx2 => ?_, ?_⟩
        · have : 0 < Nat.lcm B.natAbs q.2.natAbs := Nat.lcm_pos (by omega) (by omega)
          omega
        · rw [tk] at hx2
          rcases List.mem_append.mp hx2 with z | z
          · have h2 : (x.2).natAbs ∣ B.natAbs := Int.natAbs_dvd_natAbs.mpr (hd x z)
            have h3 : (x.2).natAbs ∣ Nat.lcm B.natAbs q.2.natAbs := Nat.dvd_trans h2 (Nat.dvd_lcm_left _ _)
            exact Int.natAbs_dvd_natAbs.mp h3
          · have e : x = q := by simpa using z
            subst e
            have h3 : x.2.natAbs ∣ Nat.lcm B.natAbs x.2.natAbs := Nat.dvd_lcm_right _ _
            exact Int.natAbs_dvd_natAbs.mp h3
        · have h3 : Nat.lcm B.natAbs q.2.natAbs ∣ M.natAbs := Nat.lcm_dvd (Int.natAbs_dvd_natAbs.mpr hBM) (Int.natAbs_dvd_natAbs.mpr (hMd q hmem))
          exact Int.natAbs_dvd_natAbs.mp h3
      · have hb1 : q.2 = 1 := by
          have z : ¬ ¬ (V.int q.2 = V.int 1) := by simpa using c
          exact V.int.inj (Classical.not_not.mp z)
        refine ⟨rfl, B, _, rfl, hB0, fun x hx2 => ?_, hBM⟩
        rw [tk] at hx2
        rcases List.mem_append.mp hx2 with z | z
        · exact hd x z
        · have e : x = q := by simpa using z
          rw [e, hb1]
          exact Int.one_dvd B
    · rintro σ H' ⟨rfl, B, v, rfl, hB0, hd, hBM⟩
      have hdA : ∀ q ∈ qs, q.2 ∣ B := fun q z => hd q (by
        rw [List.length_map, hP.length, List.take_length]
        exact z)
      have bB := bits_dvd hM hBM hMb
      refine ⟨_, rfl, l, rfl, ⟨_, SqL.of hl⟩, fun D hD => lc_list (K := K) (a := l) (xs := ps.map V.ref) (fun i H2 => ColI D H' H2 (partsOf B (qs.take i))) (ColI.start hD) (fun i H2 _ z => z.s.seq (SqL.of hl)) ?_ ?_⟩
      · rintro i x H2 hx z
        obtain ⟨p, hp, rfl⟩ := item_of hx
        obtain ⟨q, hqi, hqa⟩ := Paired.at hP hp
        obtain ⟨dx, hpa⟩ := hqa.same z.s
        have hmem := List.mem_of_getElem? hqi
        obtain ⟨b0, bq⟩ := hq q hmem
        have b1 : intBits (B.fdiv q.2) ≤ m := PySem.intBits_fdiv_le bB
        have e : partsOf B (qs.take (i + 1)) = partsOf B (qs.take i) ++ [q.1 * B.fdiv q.2] := map_take_snoc hqi
        refine ⟨rfl, _, rfl, p, C, dx, _, _, rfl, hpa, R.cl, R.nN, rf_n _ _, _, rfl, _, rfl, p, C, dx, _, _, rfl, hpa, R.cl, R.nD, rf_d _ _, _, _, rfl, rfl, ⟨by omega, by have := bq.2; omega⟩, _, _, rfl, rfl, (by show intBits q.1 + intBits (B.fdiv q.2) ≤ 134217728; have := bq.1; omega), ?_⟩
        rw [e]
        refine z.push hD same_rfl ?_
        unfold partsOf
        rw [List.length_map, List.length_take]
        omega
      · rintro H2 z
        rw [List.length_map, hP.length, List.take_length] at z
        exact ⟨_, rfl, (by show 2 ≤ sizeLine; decide), fun t ht => k _ t D B (z.s.trans (same_upd ht)) hD upd_same (same_upd ht _ _ z.at_) hB0 hdA hBM⟩
end
end Ind

set_option Elab.async false
set_option linter.all false
set_option maxRecDepth 100000
set_option maxHeartbeats 4000000
set_option exponentiation.threshold 9000
namespace Ind
open PySem PySem.Spec PyProof.Rows L2
open Builtin.Int (intBits)
/-- a row of numbers, by its values -/
def rowF (qs : List Q2) : Fr := fun j => rv (qs.getD j q0)
theorem getD_q {qs : List Q2} {j : Nat} {q : Q2} (h : qs[j]? = some q) : qs.getD j q0 = q := by
  rw [List.getD_eq_getElem?_getD, h]
  rfl
theorem getD_out {qs : List Q2} {j : Nat} (h : qs.length ≤ j) : qs.getD j q0 = q0 := by
  rw [List.getD_eq_getElem?_getD, List.getElem?_eq_none h]
  rfl
theorem rowF_out {qs : List Q2} {j : Nat} (h : qs.length ≤ j) : rowF qs j = 0 := by
  unfold rowF
  rw [getD_out h, rv_q0]
theorem parts_getD {B : Int} {qs : List Q2} (j : Nat) : (partsOf B qs).getD j 0 = (qs.getD j q0).1 * B.fdiv (qs.getD j q0).2 := by
  unfold partsOf
  rw [List.getD_eq_getElem?_getD, List.getElem?_map, List.getD_eq_getElem?_getD]
  cases e : qs[j]? with
  | none =>
    show (0 : Int) = 0 * _
    rw [Int.zero_mul]
  | some q => rfl
theorem fr_parts {B : Int} {qs : List Q2} (hB : 0 < B) (h : ∀ q ∈ qs, 0 < q.2 ∧ q.2 ∣ B) (j : Nat) : fr (partsOf B qs) j = ((B : Int) : Rat) * rowF qs j := by
  unfold fr rowF
  rw [parts_getD]
  have hq : 0 < (qs.getD j q0).2 ∧ (qs.getD j q0).2 ∣ B := by
    cases e : qs[j]? with
    | none =>
      rw [List.getD_eq_getElem?_getD, e]
      exact ⟨by decide, Int.one_dvd B⟩
    | some q =>
      rw [getD_q e]
      exact h q (List.mem_of_getElem? e)
  generalize qs.getD j q0 = q at hq
  obtain ⟨k, e⟩ := hq.2
  have e2 : B.fdiv q.2 = k := fdiv_of_mul (by omega) (e.trans (Int.mul_comm _ _))
  have h1 := cst_ne (show q.2 ≠ 0 by omega)
  have h2 : ((B : Int) : Rat) = ((q.2 : Int) : Rat) * ((k : Int) : Rat) := by rw [e, Rat.intCast_mul]
  rw [e2, Rat.intCast_mul, h2]
  unfold rv
  grind
theorem parts_len (B : Int) (qs : List Q2) : (partsOf B qs).length = qs.length := List.length_map ..
/-- scaled rows -/
theorem Red.scale {w : Nat} {G G' : List Fr} {L : List (Nat × Fr)} (h : Red w G L) (h1 : ∀ g ∈ G, ∃ g' ∈ G', Scal g' g) (h2 : ∀ g' ∈ G', ∃ g ∈ G, Scal g' g) : Red w G' L := by
  refine ⟨fun z hz g' hg' => ?_, fun x hx => (h.spn x hx).trans fun s hs => ?_, h.inc, h.lt, h.one, h.off, h.led⟩
  · obtain ⟨g, hg, a, ha, e⟩ := h2 g' hg'
    have h0 := h.ann z hz g hg
    rw [dt_congr (t := fun j => a * g' j + 0 * g' j) fun j _ => by rw [e]; grind, dt_lin] at h0
    grind
  · obtain ⟨g', hg', a, ha, e⟩ := h1 s hs
    exact .lin a 0 (.mem hg') (.mem hg') fun j => by rw [e]; grind
theorem Spn.comb {w : Nat} {G : List Fr} {L : List (Nat × Fr)} (h : Red w G L) {r : Fr} (hr : Spn G r) {j : Nat} (hj : j < w) : r j = Ind.comb L r j := by
  have a : Ann w (L.map (·.2)) (zL L j) := fun r hr => by
    obtain ⟨x, hx, rfl⟩ := List.mem_map.mp hr
    rw [dt_zL hj _ h.lt, comb_self h.inc h.one h.off x hx]
    grind
  have := hr.ann (h.ann _ a)
  rw [dt_zL hj _ h.lt] at this
  grind
/-- each pivot of one reduced form is a pivot of the other -/
theorem Red.piv_sub {w : Nat} {G : List Fr} {L L' : List (Nat × Fr)} (h : Red w G L) (h' : Red w G L') : ∀ x ∈ L', ∃ y ∈ L, y.1 = x.1 := by
  intro x hx
  refine Classical.byContradiction fun no => ?_
  have c := Spn.comb h (h'.spn x hx) (h'.lt x hx)
  have z : ∀ {M : List (Nat × Fr)}, (∀ y ∈ M, y ∈ L) → Ind.comb M x.2 x.1 = 0 := by
    intro M
    induction M with
    | nil => intro _; rfl
    | cons a M ih =>
      intro hm
      have ha := hm a (by simp)
      have e : x.2 a.1 * a.2 x.1 = 0 := by
        rcases Nat.lt_trichotomy a.1 x.1 with q | q | q
        · rw [h'.led x hx _ q]
          grind
        · exact absurd ⟨a, ha, q⟩ no
        · rw [h.led a ha _ q]
          grind
      show x.2 a.1 * a.2 x.1 + Ind.comb M x.2 x.1 = 0
      rw [e, ih fun y hy => hm y (List.mem_cons_of_mem _ hy)]
      grind
  rw [z fun y hy => hy, h'.one x hx] at c
  grind
theorem inc_eq : ∀ {xs ys : List Nat}, xs.Pairwise (· < ·) → ys.Pairwise (· < ·) → (∀ x, x ∈ xs ↔ x ∈ ys) → xs = ys
  | [], [], _, _, _ => rfl
  | [], y :: ys, _, _, h => absurd ((h y).mpr (by simp)) (by simp)
  | x :: xs, [], _, _, h => absurd ((h x).mp (by simp)) (by simp)
  | x :: xs, y :: ys, hx, hy, h => by
    obtain ⟨ax, px⟩ := List.pairwise_cons.mp hx
    obtain ⟨ay, py⟩ := List.pairwise_cons.mp hy
    have e : x = y := by
      rcases List.mem_cons.mp ((h x).mp (by simp)) with q | q
      · exact q
      · rcases List.mem_cons.mp ((h y).mpr (by simp)) with z | z
        · exact z.symm
        · have := ay x q
          have := ax y z
          omega
    subst e
    rw [inc_eq px py fun z => ?_]
    constructor
    · intro q
      rcases List.mem_cons.mp ((h z).mp (List.mem_cons_of_mem _ q)) with e | e
      · have := ax z q
        omega
      · exact e
    · intro q
      rcases List.mem_cons.mp ((h z).mpr (List.mem_cons_of_mem _ q)) with e | e
      · have := ay z q
        omega
      · exact e
/-- one reduced form: one tuple of pivots -/
theorem Red.piv_eq {w : Nat} {G : List Fr} {L L' : List (Nat × Fr)} (h : Red w G L) (h' : Red w G L') : L.map (·.1) = L'.map (·.1) := by
  refine inc_eq (List.pairwise_map.mpr h.inc) (List.pairwise_map.mpr h'.inc) fun x => ⟨fun hx => ?_, fun hx => ?_⟩
  · obtain ⟨y, hy, rfl⟩ := List.mem_map.mp hx
    obtain ⟨z, hz, e⟩ := h'.piv_sub h y hy
    exact List.mem_map.mpr ⟨z, hz, e⟩
  · obtain ⟨y, hy, rfl⟩ := List.mem_map.mp hx
    obtain ⟨z, hz, e⟩ := h.piv_sub h' y hy
    exact List.mem_map.mpr ⟨z, hz, e⟩
/-! ### dot -/
def prods (ns ms : List Int) (i : Nat) : List Int := (List.range i).map fun j => ns.getD j 0 * ms.getD j 0
theorem prods_succ (ns ms : List Int) (i : Nat) : prods ns ms (i + 1) = prods ns ms i ++ [ns.getD i 0 * ms.getD i 0] := by
  unfold prods
  rw [List.range_succ, List.map_append]
  rfl
theorem sum_append (xs : List Int) (y : Int) : (xs ++ [y]).sum = xs.sum + y := by
  rw [List.sum_append]
  simp
theorem prods_sum (ns ms : List Int) : ∀ i : Nat, (((prods ns ms i).sum : Int) : Rat) = sumTo i fun j => fr ns j * fr ms j
  | 0 => by
    show ((0 : Int) : Rat) = 0
    rfl
  | i + 1 => by
    rw [prods_succ, sum_append, Rat.intCast_add, prods_sum ns ms i, Rat.intCast_mul]
    rfl
/-- a common multiple of a row's denominators -/
def Mult (m : Nat) (qs : List Q2) : Prop := ∃ M : Int, 0 < M ∧ intBits M ≤ m ∧ ∀ q ∈ qs, q.2 ∣ M
/-- a row that the elimination may take -/
structure RowOk (b m : Nat) (qs : List Q2) : Prop where
  lo : ∀ q ∈ qs, Lo q
  bq : ∀ q ∈ qs, Bq b q
  len : qs.length ≤ 100
  mul : Mult m qs
def spDot (C : Addr) : Sp := fun vs H Q _ => ∃ (p r : Addr) (as bs : List Q2) (b m : Nat), vs = [.ref p, .ref r] ∧ Tp (RatQ C) H p as ∧ Tp (RatQ C) H r bs ∧ as.length = bs.length ∧ RowOk b m as ∧ RowOk b m bs ∧ b ≤ 4000 ∧ m ≤ 4000 ∧
  ∀ (H' : Hp) (x : Addr) (q : Q2), Same H H' → RatQ C H' x q → Lo q → rv q = dt as.length (rowF as) (rowF bs) → Q (.ref x) H'
section
variable {P : Program} {w : World} {K : PySem.W.Frag} {mg : Str → Option Value} {base : Heap} {C Z : Addr}
end
end Ind

set_option Elab.async false
set_option linter.all false
set_option maxRecDepth 100000
set_option maxHeartbeats 4000000
set_option exponentiation.threshold 9000
namespace Ind
open PySem PySem.Spec PyProof.Rows L2
open Builtin.Int (intBits)
/-! ### rows of numbers without zeros at the end -/
def trimQ : List Q2 → List Q2
  | [] => []
  | q :: qs => match trimQ qs with
    | [] => if q.1 = 0 then [] else [q]
    | r :: rs => q :: r :: rs
def Trim (qs : List Q2) : Prop := ∀ q, qs.getLast? = some q → q.1 ≠ 0
theorem rowF_nil (j : Nat) : rowF [] j = 0 := rowF_out (Nat.zero_le _)
theorem rowF_z (q : Q2) (qs : List Q2) : rowF (q :: qs) 0 = rv q := rfl
theorem rowF_s (q : Q2) (qs : List Q2) (j : Nat) : rowF (q :: qs) (j + 1) = rowF qs j := rfl
theorem rv_z {q : Q2} (h : q.1 = 0) : rv q = 0 := by
  unfold rv
  rw [h]
  grind
theorem trim_row : ∀ (qs : List Q2) (j : Nat), rowF (trimQ qs) j = rowF qs j
  | [], _ => rfl
  | q :: qs, j => by
    have ih := trim_row qs
    unfold trimQ
    cases e : trimQ qs with
    | nil =>
      rw [e] at ih
      show rowF (if q.1 = 0 then [] else [q]) j = _
      by_cases h : q.1 = 0
      · rw [if_pos h, rowF_nil]
        cases j with
        | zero => rw [rowF_z, rv_z h]
        | succ j => rw [rowF_s, ← ih j, rowF_nil]
      · rw [if_neg h]
        cases j with
        | zero => rfl
        | succ j => rw [rowF_s, rowF_s, ← ih j]
    | cons r rs =>
      rw [e] at ih
      show rowF (q :: r :: rs) j = _
      cases j with
      | zero => rfl
      | succ j => rw [rowF_s, rowF_s, ← ih j]
theorem trim_trim : ∀ qs : List Q2, Trim (trimQ qs)
  | [] => fun q h => by simp [trimQ] at h
  | q :: qs => by
    have ih := trim_trim qs
    unfold trimQ
    cases e : trimQ qs with
    | nil =>
      show Trim (if q.1 = 0 then [] else [q])
      by_cases h : q.1 = 0
      · rw [if_pos h]
        intro x hx
        simp at hx
      · rw [if_neg h]
        intro x hx
        have : q = x := by simpa using hx
        rw [← this]
        exact h
    | cons r rs =>
      rw [e] at ih
      show Trim (q :: r :: rs)
      intro x hx
      exact ih x (by rw [List.getLast?_cons_cons] at hx; exact hx)
theorem trim_mem : ∀ {qs : List Q2} {q : Q2}, q ∈ trimQ qs → q ∈ qs
  | [], _, h => h
  | p :: qs, q, h => by
    have ih := @trim_mem qs q
    unfold trimQ at h
    cases e : trimQ qs with
    | nil =>
      rw [e] at h
      have h : q ∈ (if p.1 = 0 then [] else [p]) := h
      by_cases c : p.1 = 0
      · rw [if_pos c] at h
        cases h
      · rw [if_neg c] at h
        rw [List.mem_singleton.mp h]
        simp
    | cons r rs =>
      rw [e] at h ih
      have h : q ∈ p :: r :: rs := h
      rcases List.mem_cons.mp h with rfl | h
      · simp
      · exact List.mem_cons_of_mem _ (ih h)
theorem trim_len : ∀ qs : List Q2, (trimQ qs).length ≤ qs.length
  | [] => Nat.le_refl _
  | q :: qs => by
    have ih := trim_len qs
    unfold trimQ
    cases e : trimQ qs with
    | nil =>
      show (if q.1 = 0 then [] else [q]).length ≤ _
      split
      · exact Nat.zero_le _
      · show 1 ≤ qs.length + 1
        omega
    | cons r rs =>
      rw [e] at ih
      show (r :: rs).length + 1 ≤ qs.length + 1
      omega
theorem trim_tail {q : Q2} {qs : List Q2} (h : Trim (q :: qs)) : Trim qs := fun x hx => h x (by
  cases qs with
  | nil => simp at hx
  | cons r rs => rw [List.getLast?_cons_cons]; exact hx)
theorem rv_ne {q : Q2} (h : Lo q) (e : q.1 ≠ 0) : rv q ≠ 0 := fun z => e (by
  have : q = q0 := lo_eq h lo_q0 (by rw [z, rv_q0])
  rw [this])
/-- a trimmed row that is zero everywhere is empty -/
theorem trim_nil : ∀ {qs : List Q2}, Trim qs → (∀ q ∈ qs, Lo q) → (∀ j, rowF qs j = 0) → qs = []
  | [], _, _, _ => rfl
  | q :: qs, t, lo, h => by
    have e := trim_nil (trim_tail t) (fun x hx => lo x (List.mem_cons_of_mem _ hx)) fun j => by
      have := h (j + 1)
      rwa [rowF_s] at this
    subst e
    have h0 := h 0
    rw [rowF_z] at h0
    exact absurd h0 (rv_ne (lo q (by simp)) (t q rfl))
theorem trim_uniq : ∀ {as bs : List Q2}, Trim as → Trim bs → (∀ q ∈ as, Lo q) → (∀ q ∈ bs, Lo q) → (∀ j, rowF as j = rowF bs j) → as = bs
  | [], bs, _, tb, _, lb, h => (trim_nil tb lb fun j => by rw [← h j]; exact rowF_nil j).symm
  | a :: as, [], ta, _, la, _, h => trim_nil ta la fun j => by rw [h j]; exact rowF_nil j
  | a :: as, b :: bs, ta, tb, la, lb, h => by
    have h0 := h 0
    rw [rowF_z, rowF_z] at h0
    rw [lo_eq (la a (by simp)) (lb b (by simp)) h0, trim_uniq (trim_tail ta) (trim_tail tb) (fun x hx => la x (List.mem_cons_of_mem _ hx)) (fun x hx => lb x (List.mem_cons_of_mem _ hx)) fun j => by
      have := h (j + 1)
      rwa [rowF_s, rowF_s] at this]
theorem trim_snoc {qs : List Q2} {q : Q2} (h : q.1 = 0) : trimQ (qs ++ [q]) = trimQ qs := by
  induction qs with
  | nil =>
    show (match trimQ [] with | [] => if q.1 = 0 then [] else [q] | r :: rs => q :: r :: rs) = []
    show (if q.1 = 0 then [] else [q]) = []
    rw [if_pos h]
  | cons p qs ih =>
    show trimQ (p :: (qs ++ [q])) = trimQ (p :: qs)
    unfold trimQ
    rw [ih]
theorem trim_id {qs : List Q2} {q : Q2} (h : q.1 ≠ 0) : trimQ (qs ++ [q]) = qs ++ [q] := by
  induction qs with
  | nil =>
    show (if q.1 = 0 then [] else [q]) = [q]
    rw [if_neg h]
  | cons p qs ih =>
    show trimQ (p :: (qs ++ [q])) = _
    unfold trimQ
    rw [ih]
    cases e : qs ++ [q] with
    | nil => simp at e
    | cons r rs =>
      show p :: r :: rs = p :: qs ++ [q]
      rw [List.cons_append, e]
/-! ### the least common denominator -/
def lcmD : List Q2 → Nat
  | [] => 1
  | q :: qs => Nat.lcm q.2.natAbs (lcmD qs)
theorem lcmD_pos : ∀ {qs : List Q2}, (∀ q ∈ qs, Lo q) → 0 < lcmD qs
  | [], _ => by decide
  | q :: qs, h => Nat.lcm_pos (by have := (h q (by simp)).pos; omega) (lcmD_pos fun x hx => h x (List.mem_cons_of_mem _ hx))
theorem dvd_lcmD : ∀ {qs : List Q2}, ∀ q ∈ qs, q.2 ∣ ((lcmD qs : Nat) : Int)
  | p :: qs, q, h => by
    refine Int.natAbs_dvd_natAbs.mp ?_
    show q.2.natAbs ∣ Nat.lcm p.2.natAbs (lcmD qs)
    rcases List.mem_cons.mp h with rfl | h
    · exact Nat.dvd_lcm_left _ _
    · have := Int.natAbs_dvd_natAbs.mpr (dvd_lcmD q h)
      exact Nat.dvd_trans this (Nat.dvd_lcm_right _ _)
theorem lcmD_dvd : ∀ {qs : List Q2} {M : Int}, (∀ q ∈ qs, q.2 ∣ M) → ((lcmD qs : Nat) : Int) ∣ M
  | [], M, _ => Int.one_dvd M
  | q :: qs, M, h => by
    refine Int.natAbs_dvd_natAbs.mp ?_
    show Nat.lcm q.2.natAbs (lcmD qs) ∣ M.natAbs
    exact Nat.lcm_dvd (Int.natAbs_dvd_natAbs.mpr (h q (by simp))) (Int.natAbs_dvd_natAbs.mpr (lcmD_dvd fun x hx => h x (List.mem_cons_of_mem _ hx)))
theorem lcmD_uniq {qs : List Q2} {B : Int} (h0 : 0 < B) (h1 : ∀ q ∈ qs, q.2 ∣ B) (h2 : B ∣ ((lcmD qs : Nat) : Int)) : B = ((lcmD qs : Nat) : Int) := by
  have a := Int.natAbs_dvd_natAbs.mpr h2
  have b := Int.natAbs_dvd_natAbs.mpr (lcmD_dvd h1)
  have := Nat.dvd_antisymm a b
  omega
/-! ### sizes -/
/-- the numbers over a common denominator have at most k bits -/
def PSz (k : Nat) (qs : List Q2) : Prop := (∀ q ∈ qs, Lo q) ∧ qs.length ≤ 100 ∧ ∃ M : Int, 0 < M ∧ intBits M ≤ k ∧ ∀ q ∈ qs, q.2 ∣ M ∧ intBits (q.1 * M.fdiv q.2) ≤ k
end Ind

set_option Elab.async false
set_option linter.all false
set_option maxRecDepth 100000
set_option maxHeartbeats 4000000
set_option exponentiation.threshold 9000
namespace Ind
open PySem PySem.Spec PyProof.Rows L2
open Builtin.Int (intBits)
abbrev sPI : Stmt := inClass (top 23) 0
abbrev sIsZ : Stmt := inClass (top 18) 14
/-! ### a polynomial -/
def pf (r nb : Addr) (B : Int) : List (Str × V) := putF "_below" (.int B) (putF "_numbers" (.ref nb) (putF "row" (.ref r) []))
theorem pf_row (r nb : Addr) (B : Int) : (pf r nb B).lookup ("row" : Str) = some (.ref r) := by
  unfold pf
  rw [lookup_putF, if_neg (by decide +kernel), lookup_putF, if_neg (by decide +kernel), lookup_putF, if_pos rfl]
theorem pf_num (r nb : Addr) (B : Int) : (pf r nb B).lookup ("_numbers" : Str) = some (.ref nb) := by
  unfold pf
  rw [lookup_putF, if_neg (by decide +kernel), lookup_putF, if_pos rfl]
theorem pf_bel (r nb : Addr) (B : Int) : (pf r nb B).lookup ("_below" : Str) = some (.int B) := by
  unfold pf
  rw [lookup_putF, if_pos rfl]
theorem pf_no (r nb : Addr) (B : Int) {m : Str} (h1 : ¬ m = "_below") (h2 : ¬ m = "_numbers") (h3 : ¬ m = "row") : (pf r nb B).lookup m = none := by
  unfold pf
  rw [lookup_putF, if_neg h1, lookup_putF, if_neg h2, lookup_putF, if_neg h3]
  all_goals rfl
def PolyAt (C CP : Addr) : FH (List Q2) := fun H p qs => ∃ dx r nb, H p = some (.ins CP dx (pf r nb ((lcmD qs : Nat) : Int))) ∧ Tp (RatQ C) H r qs ∧ H nb = some (.tup ((partsOf ((lcmD qs : Nat) : Int) qs).map V.int)) ∧ Trim qs
theorem PolyAt.stb (C CP : Addr) : Stb (PolyAt C CP) := fun H H' p qs s ⟨dx, r, nb, e, q, n, t⟩ => ⟨dx, r, nb, s _ _ e (by intro xs z; cases z), VecR.stb C H H' r qs s q, s _ _ n (by intro xs z; cases z), t⟩
/-- an item: a number or an int -/
def MixV (C : Addr) : Hp → V → Q2 → Prop := fun H v q => (∃ p, v = .ref p ∧ RatQ C H p q ∧ Lo q) ∨ ∃ n : Int, v = .int n ∧ q = (n, 1)
theorem MixV.same {C : Addr} {H H' : Hp} {v : V} {q : Q2} (s : Same H H') (x : MixV C H v q) : MixV C H' v q := by
  rcases x with ⟨p, e, h, lo⟩ | ⟨n, e, h⟩
  · exact .inl ⟨p, e, (RatQ.stb C).same s h, lo⟩
  · exact .inr ⟨n, e, h⟩
theorem MixV.lo {C : Addr} {H : Hp} {v : V} {q : Q2} (x : MixV C H v q) : Lo q := by
  rcases x with ⟨p, e, h, lo⟩ | ⟨n, e, rfl⟩
  · exact lo
  · exact ⟨show (0 : Int) < 1 by decide, by show Nat.gcd n.natAbs 1 = 1; exact Nat.gcd_one_right _⟩
theorem mkq_lo {q : Q2} (h : Lo q) : mkq q.1 q.2 = q := lo_eq (lo_mk h.ne) h (by rw [rv_mk h.ne]; rfl)
structure TxP (K : PySem.W.Frag) (mg : Str → Option Value) (CP : Addr) : Prop where
  cl : Cls K CP
  nR : NoAttr K CP "row"
  nN : NoAttr K CP "_numbers"
  nB : NoAttr K CP "_below"
  mgP : mg "Poly" = some (.ref CP)
  tuple : mg "tuple" = none
  list : mg "list" = none
  iter : mg "iter" = none
  zip : mg "zip" = none
  sum : mg "sum" = none
  enum : mg "enumerate" = none
theorem PI.or {X : Cx} {tg l : Expr} {w1 w2 : TI} (h1 : PI X tg l w1) (h2 : PI X tg l w2) : PI X tg l (fun σ H R => w1 σ H R ∨ w2 σ H R) := by
  constructor
  intro pins s σ H R I h
  rcases h with h | h
  · exact h1.run pins s σ H R I h
  · exact h2.run pins s σ H R I h
theorem paired_snoc_inv {α β : Type} {F : α → β → Prop} : ∀ {xs : List α} {x : α} {ys : List β}, Paired F (xs ++ [x]) ys → ∃ zs y, ys = zs ++ [y] ∧ Paired F xs zs ∧ F x y
  | [], x, _, .cons a .nil => ⟨[], _, rfl, .nil, a⟩
  | u :: xs, x, _, .cons a t => by
    obtain ⟨zs, y, e, h1, h2⟩ := paired_snoc_inv t
    exact ⟨_ :: zs, y, by rw [e]; rfl, .cons a h1, h2⟩
theorem paired_nil {α β : Type} {F : α → β → Prop} {ys : List β} (h : Paired F [] ys) : ys = [] := by
  cases h
  rfl
def spIsZ (C : Addr) : Sp := fun vs H Q _ => ∃ (p : Addr) (q : Q2), vs = [.ref p] ∧ RatQ C H p q ∧ Q (.bl (decide (q.1 = 0))) H
def spPI (C CP : Addr) : Sp := fun vs H Q _ => ∃ (p dx l : Addr) (xs : List V) (qs : List Q2) (k : Nat), vs = [.ref p, .ref l] ∧ H p = some (.ins CP dx []) ∧ (H l = some (.lst xs) ∨ H l = some (.tup xs)) ∧ Paired (MixV C H) xs qs ∧ PSz k qs ∧ k ≤ 4000 ∧
  ∀ H' : Hp, PolyAt C CP H' p (trimQ qs) → (∀ b o, H b = some o → b ≠ p → H' b = some o) → Q .non H'
theorem psz_low {k : Nat} {qs : List Q2} (h : PSz k qs) : ∃ M : Int, 0 < M ∧ intBits M ≤ k ∧ ∀ q ∈ qs, q.2 ∣ M ∧ Bq k q ∧ 0 < q.2 := by
  obtain ⟨lo, _, M, m0, mb, hm⟩ := h
  refine ⟨M, m0, mb, fun q hq => ?_⟩
  obtain ⟨d, hn⟩ := hm q hq
  have hp := (lo q hq).pos
  have hb2 : intBits q.2 ≤ k := bits_dvd m0 d mb
  obtain ⟨c, hc⟩ := d
  have hf : M.fdiv q.2 = c := by
    rw [hc, Int.mul_comm]
    exact Int.mul_fdiv_cancel _ (Int.ne_of_gt hp)
  rw [hf] at hn
  have hc0 : c ≠ 0 := fun z => by
    rw [z, Int.mul_zero] at hc
    omega
  have : q.1.natAbs ≤ (q.1 * c).natAbs := by
    rw [Int.natAbs_mul]
    exact Nat.le_mul_of_pos_right _ (by omega)
  exact ⟨⟨c, hc⟩, ⟨PySem.intBits_le_of_natAbs this hn, hb2⟩, hp⟩
theorem psz_sub {k : Nat} {qs rs : List Q2} (h : PSz k qs) (hs : ∀ q ∈ rs, q ∈ qs) (hl : rs.length ≤ qs.length) : PSz k rs := by
  obtain ⟨lo, l1, M, m0, mb, hm⟩ := h
  exact ⟨fun q hq => lo q (hs q hq), by omega, M, m0, mb, fun q hq => hm q (hs q hq)⟩
end Ind

set_option Elab.async false
set_option linter.all false
set_option maxRecDepth 100000
set_option maxHeartbeats 4000000
set_option exponentiation.threshold 9000
namespace Ind
open PySem PySem.Spec PyProof.Rows L2
open Builtin.Int (intBits)
section
variable {P : Program} {w : World} {K : PySem.W.Frag} {mg : Str → Option Value} {base : Heap} {C Z CP : Addr}
theorem scIsZ : FnScope ["self"] ["self"] (defScope sIsZ) := ⟨rfl, rfl, rfl, by decide +kernel, rfl, by decide +kernel, by decide +kernel⟩
theorem ok_isz {f : Addr} {fd : FuncData} (F : Fun K "is_zero" "Ratio.is_zero" sIsZ f fd) (R : TxR K mg C Z) : FnOk P w K mg base CX0 1 f fd ["self"] (spIsZ C) := by
  refine F.ok scIsZ (fun vs H Q E h => ?_) (fun cdv A outer s H vs Q E hr h => ?_)
  · obtain ⟨p, q, rfl, _⟩ := h
    rfl
  · obtain ⟨p, q, rfl, ⟨dx, hp⟩, k⟩ := h
    refine ⟨_, pss_one (ps_ret (pe_cmpR op_eq (pe_fld (pv 0) rfl) pe_int (nomark _))), ?_⟩
    refine ⟨_, rfl, p, C, dx, _, _, rfl, hp, R.cl, R.nN, rf_n _ _, rfl, ?_⟩
    rw [show decide (V.int q.1 = V.int 0) = decide (q.1 = 0) by
      by_cases e : q.1 = 0
      · rw [e]; rfl
      · rw [decide_eq_false e, decide_eq_false (fun z => e (V.int.inj z))]]
    exact k

theorem boot_isi : bootBuiltins ("isinstance" : Str) = some (.builtin "isinstance") := by decide +kernel
abbrev nPI : List Str := ["self", "row", "found", "numbers", "below", "item"]
theorem scPI : FnScope nPI ["self", "row"] (defScope sPI) := ⟨rfl, rfl, rfl, by decide +kernel, rfl, by decide +kernel, by decide +kernel⟩
theorem ok_pi {f fI fIz fCf : Addr} {fd fdI fdIz fdCf : FuncData} {ds : List Value} (F : Fun K "__init__" "Poly.__init__" sPI f fd) (T : TxL K mg) (R : TxR K mg C Z) (I0 : TxI K C) (kI : PySem.W.kitOne K (.type "int") (.ref C) = some false) (TP : TxP K mg CP) (M : MkR P w K mg base C Z fI fdI ds) (mIz : Meth K C "is_zero" fIz) (bIz : Binds K fdIz ["self"] []) (GIz : FnOk P w K mg base CX0 1 fIz fdIz ["self"] (spIsZ C))
    (GCf : FnOk P w K mg base CX0 1 fCf fdCf ["numbers"] (spCFL K C)) (kCf : PySem.W.keepIn K (.ref fCf) = true) (bCf : Binds K fdCf ["numbers"] []) (gCf : mg "common_form" = some (.ref fCf)) : FnOk P w K mg base CX0 43 f fd ["self", "row"] (spPI C CP) := by
  refine F.ok scPI (fun vs H Q E h => ?_) (fun cdv A outer s H vs Q E hr h => ?_)
  · obtain ⟨p, dx, l, xs, qs, k, rfl, _⟩ := h
    rfl
  · obtain ⟨p, dx, l, xs, qs, kk, rfl, hp, hl, hP, hsz, hk, k⟩ := h
    have h1 := hr.mono (show 1 ≤ 42 by decide)
    refine ⟨_, C8.pss_cut (ps_setLc (i := 2) (own := [("item", 5)]) (g := gName 5) (tt := tYes) (te := tIf (tB (tCB (rIsi K) (tCons (tVar 5) (tCons (tC (.ref C)) tNil)))) (tVar 5) (tMake C (spInit C Z) [V.int 1] E0 (tCons (tVar 5) tNil))) rfl scPI.nd rfl rfl rfl (PI.or (pi_list (pv 1)) (pi_tup (pv 1))) (blkOk_by (N := nPI) (sc := defScope sPI) (by decide +kernel))
          (fun _ _ _ _ _ => pg_name (i := 5) scPI.nd rfl (Or.inl rfl)) (fun _ _ _ _ _ => pts_nil)
          (fun _ _ _ _ _ => pe_ifExp (pt_val (pe_callB call_isi (by rfl) T.isinstance boot_isi (pa_cons (pv 5) (pa_cons (pe_glob (v := .ref C) rfl R.mgC rfl) pa_nil)))) (pv 5) (pe_make M.cm M.fn hr (by rfl) R.mgC M.b1 M.v1 passL (pa_cons (pv 5) pa_nil))))
      (C8.pss_cut (ps_while PassesOwn.never (PW.pt (pw_and (pt_cmpR op_gt (pe_callB call_len_seq (by rfl) T.len PySem.boot_len (pa_cons (pv 2) pa_nil)) pe_int (nomark _)) (pw_and1 (pt_val (pe_meth0 (pe_ix ix_list (pv 2) (pe_un un_neg pe_int) fun _ _ => rfl) R.cl mIz GIz h1 bIz .nil pass0)))))
        (pss_one (ps_expr (pe_bm0 PySem.F.plainAttrs_list PySem.F.slot_list_pop PySem.F.type_list_pop mt_pop (pv 2)))))
      (pss_cons (ps_fld (pv 0) (pe_callTy call_tuple_of (by rfl) TP.tuple (by decide +kernel) (pa_cons (pv 2) pa_nil)) rfl)
      (pss_cons (ps_asg (pe_call GCf h1 (by rfl) gCf kCf bCf .nil pass0 (pa_cons (pv 2) pa_nil)) (pg_tup (by rfl) (pgs_cons (pg_name (i := 3) scPI.nd rfl (Or.inl rfl)) (pgs_cons (pg_name (i := 4) scPI.nd rfl (Or.inl rfl)) pgs_nil))))
      (pss_cons (ps_fld (pv 0) (pe_callTy call_tuple_of (by rfl) TP.tuple (by decide +kernel) (pa_cons (pv 3) pa_nil)) rfl)
      (pss_one (ps_fld (pv 0) (pv 4) rfl)))))), ?_⟩
    obtain ⟨lo, hn100, _⟩ := id hsz
    have lx := hP.length
    -- found
    have one : ∀ {σ : L2.St} {D : Addr} {H2 : Hp} {i : Nat} {x : V} (h5 : σ[5]? = some (some x)) (hD : H D = none) (hx : xs[i]? = some x) (z : Col (RatQ C) D H H2 (qs.take i)),
        (tIf (tB (tCB (rIsi K) (tCons (tVar 5) (tCons (tC (.ref C)) tNil)))) (tVar 5) (tMake C (spInit C Z) [V.int 1] E0 (tCons (tVar 5) tNil))) σ H2 (fun v H3 => ∃ acc, H3 D = some (.lst acc) ∧ acc.length < sizeLine ∧ Col (RatQ C) D H (upd H3 D (.lst (acc ++ [v]))) (qs.take (i + 1))) := fun {σ D H2 i x} h5 hD hx z => by
      obtain ⟨q, hqi, hq⟩ := Paired.at hP hx
      have hi := (List.getElem?_eq_some_iff.mp hqi).1
      have hq2 := hq.same z.s
      rw [take_snoc hqi]
      rcases hq2 with ⟨a, rfl, ha, hlo⟩ | ⟨n, rfl, rfl⟩
      · obtain ⟨da, ea⟩ := id ha
        refine ⟨_, h5, _, _, _, _, true, rfl, ClsV.own C, .base (.ins ea R.cl I0.ha I0.hn I0.ht I0.hm), I0.kC, true, rfl, ?_⟩
        refine iteT ⟨_, h5, ?_⟩
        exact z.push ((RatQ.stb C).x D) hD same_rfl ha (by rw [List.length_take]; omega)
      · refine ⟨_, h5, _, _, _, _, false, rfl, ClsV.own C, .base (.int n), kI, false, rfl, ?_⟩
        refine iteF ⟨_, h5, ?_⟩
        intro u du nu ndu neu
        refine ⟨u, du, n, 1, rfl, upd_same, fun z => absurd z (by decide), fun _ H6 hu kk => ⟨rfl, ?_⟩⟩
        have hu : RatQ C H6 u (mkq n 1) := hu
        rw [mkq_lo (q := (n, 1)) (lo _ (List.mem_of_getElem? hqi))] at hu
        exact z.push ((RatQ.stb C).x D) hD (Same.made nu ndu kk) hu (by rw [List.length_take]; omega)
    refine ⟨fun σ' H1 => ∃ D : Addr, σ' = [some (.ref p), some (.ref l), some (.ref D), none, none, none] ∧ H D = none ∧ Col (RatQ C) D H H1 qs, ?_, ?_⟩
    · rcases hl with hl | hl
      · refine .inl ⟨_, rfl, l, rfl, ⟨_, SqL.of hl⟩, fun D hD => lc_list (K := K) (a := l) (xs := xs) (fun i H2 => Col (RatQ C) D H H2 (qs.take i)) (Col.start hD) (fun i H2 _ z => z.s.seq (SqL.of hl)) (fun i x H2 hx z => ⟨rfl, one (by rfl) hD hx z⟩) fun H2 z => ?_⟩
        rw [lx, List.take_length] at z
        exact ⟨D, rfl, hD, z⟩
      · refine .inr ⟨_, rfl, l, rfl, ⟨_, SqT.of hl⟩, fun D hD => lc_tup (K := K) (a := l) (xs := xs) (fun i H2 => Col (RatQ C) D H H2 (qs.take i)) (Col.start hD) (fun i H2 _ z => .of (z.s _ _ hl)) (fun i x H2 hx z => ⟨rfl, one (by rfl) hD hx z⟩) fun H2 z => ?_⟩
        rw [lx, List.take_length] at z
        exact ⟨D, rfl, hD, z⟩
    rintro σ' H1 ⟨D, rfl, hD, z1⟩
    -- the zeros at the end
    refine ⟨fun σ' H' => σ' = [some (.ref p), some (.ref l), some (.ref D), none, none, none] ∧ Col (RatQ C) D H H' (trimQ qs), ?_, ?_⟩
    · refine while_by (fun σ H' => σ = [some (.ref p), some (.ref l), some (.ref D), none, none, none] ∧ ∃ rs, Col (RatQ C) D H H' rs ∧ trimQ rs = trimQ qs ∧ rs.length ≤ qs.length) (fun _ H' => match H' D with | some (.lst xs) => xs.length | _ => 0) ⟨rfl, qs, z1, rfl, Nat.le_refl _⟩ ?_ ?_
      · rintro σ H' ⟨rfl, rs, z, ht, hrl⟩
        obtain ⟨pa, ea, qa⟩ := id z.at_
        have hla := qa.length
        refine ⟨_, rfl, D, _, rfl, .inl (SqL.of ea), _, _, rfl, rfl, _, rfl, ?_⟩
        rw [List.length_map, hla]
        rcases List.eq_nil_or_concat pa with e | ⟨pi, u, e⟩
        · subst e
          have e2 := paired_nil qa
          subst e2
          rw [show decide ((0 : Int) < (([] : List Q2).length : Int)) = false from by decide]
          exact iteF (iteF ⟨rfl, by rw [← ht]; exact z⟩)
        · rw [List.concat_eq_append] at e
          subst e
          obtain ⟨ri, q, e2, hi, hu⟩ := paired_snoc_inv qa
          subst e2
          rw [show decide ((0 : Int) < (((ri ++ [q]).length : Nat) : Int)) = true from decide_eq_true (by rw [List.length_append]; show (0 : Int) < ((ri.length + 1 : Nat) : Int); omega)]
          obtain ⟨du, eu⟩ := id hu
          refine iteT ⟨_, rfl, 1, rfl, D, _, _, V.ref u, rfl, rfl, SqL.of ea, (by rw [List.map_append]; exact atI_last _ _), u, du, _, rfl, eu, rf_no _ _ (by decide +kernel) (by decide +kernel), u, q, rfl, hu, _, rfl, ?_⟩
          by_cases c : q.1 = 0
          · rw [decide_eq_true c]
            refine iteT ⟨_, rfl, .inl ⟨rfl, _, SqL.of ea⟩, D, _, V.ref u, rfl, rfl, ea, ?_, ⟨rfl, ri, ⟨fun b o e => ?_, pi, ?_, ?_⟩, ?_, ?_⟩, ?_⟩
            · rw [List.map_append, List.length_append]
              show (pi.map V.ref ++ [V.ref u])[(pi.map V.ref).length + 1 - 1]? = _
              rw [Nat.add_sub_cancel, List.getElem?_append_right (Nat.le_refl _), Nat.sub_self]
              rfl
            · rw [upd_ne (ne_of_none e hD)]
              exact z.s b o e
            · rw [upd_same, List.map_append]
              congr 2
              exact List.dropLast_concat
            · exact Paired.imp (fun a b f => (RatQ.stb C).x D _ _ a b (sx_upd ea) f) hi
            · rw [← ht, trim_snoc c]
            · rw [List.length_append] at hrl
              omega
            · show (match (upd H' D (.lst ((pi ++ [u]).map V.ref).dropLast)) D with | some (.lst xs) => xs.length | _ => 0) < (match H' D with | some (.lst xs) => xs.length | _ => 0)
              rw [upd_same, ea]
              show ((pi ++ [u]).map V.ref).dropLast.length < ((pi ++ [u]).map V.ref).length
              rw [List.length_dropLast, List.length_map, List.length_append]
              show pi.length + 1 - 1 < pi.length + 1
              omega
          · rw [decide_eq_false c]
            exact iteF ⟨rfl, by rw [← ht, trim_id c]; exact z⟩
      · rintro σ H' R R' hR ⟨v0, e0, p0, ys, e2, e3, i, j, e4, e5, c, e6, h⟩
        refine ⟨v0, e0, p0, ys, e2, e3, i, j, e4, e5, c, e6, ?_⟩
        cases c with
        | false => exact hR _ _ h
        | true =>
          obtain ⟨a0, a1, i1, r1, p2, x2, i2, u2, g1, g2, g3, g4, a, dx, fs, q1, q2, q3, p4, q4, t1, t2, c2, z2, h2⟩ := h
          exact ⟨a0, a1, i1, r1, p2, x2, i2, u2, g1, g2, g3, g4, a, dx, fs, q1, q2, q3, p4, q4, t1, t2, c2, z2, hR _ _ h2⟩
    rintro σ' H2 ⟨rfl, z2⟩
    have htm : ∀ q ∈ trimQ qs, q ∈ qs := fun q hq => trim_mem hq
    have hszt := psz_sub hsz htm (trim_len qs)
    have htr := trim_trim qs
    generalize trimQ qs = ts at z2 htm hszt htr k
    obtain ⟨pa, ea, qa⟩ := id z2.at_
    -- self.row
    refine ⟨_, rfl, D, _, rfl, .inl ⟨SqL.of ea, fun t ht => ?_⟩⟩
    have s3 := same_upd (o := .tup (pa.map V.ref)) ht
    have hp3 := s3 _ _ (z2.s _ _ hp)
    have tne : t ≠ p := fun e => by
      rw [e, z2.s _ _ hp] at ht
      cases ht
    refine ⟨_, rfl, p, CP, dx, [], rfl, hp3, TP.cl, TP.nR, by decide, ?_⟩
    have rat_up : ∀ {Ha : Hp} {fs : List (Str × V)} {o : HO} {a : Addr} {q : Q2}, Ha p = some (.ins CP dx fs) → fs.lookup ("n" : Str) = none → RatQ C Ha a q → RatQ C (upd Ha p o) a q := fun {Ha fs o a q} hpa hn ⟨dq, e⟩ => ⟨dq, by
      rw [upd_ne]
      · exact e
      · intro z
        rw [z, hpa] at e
        have e6 := (HO.ins.inj (Option.some.inj e)).2.2
        rw [e6, rf_n] at hn
        cases hn⟩
    have n0 : ([] : List (Str × V)).lookup ("n" : Str) = none := rfl
    have n1 : (putF "row" (.ref t) ([] : List (Str × V))).lookup ("n" : Str) = none := by
      rw [lookup_putF, if_neg (by decide +kernel)]
      rfl
    have n2 : ∀ r : Addr, (putF "_numbers" (.ref r) (putF "row" (.ref t) ([] : List (Str × V)))).lookup ("n" : Str) = none := fun r => by
      rw [lookup_putF, if_neg (by decide +kernel), n1]
    have eD3 := s3 _ _ ea
    have Dne : D ≠ p := fun e => by
      rw [e, hp] at hD
      cases hD
    have q3 : Paired (RatQ C (upd H2 t (.tup (pa.map V.ref)))) pa ts := Paired.imp (fun _ _ f => (RatQ.stb C).same s3 f) qa
    have et3 : (upd H2 t (.tup (pa.map V.ref))) t = some (.tup (pa.map V.ref)) := upd_same
    have k3 : ∀ b o, H b = some o → (upd H2 t (.tup (pa.map V.ref))) b = some o := fun b o e => s3 _ _ (z2.s b o e)
    generalize (upd H2 t (.tup (pa.map V.ref))) = H3 at hp3 eD3 q3 et3 k3 ⊢
    -- common_form
    have q4 : ∀ {o : HO}, Paired (RatQ C (upd H3 p o)) pa ts := fun {o} => Paired.imp (fun _ _ f => rat_up hp3 n0 f) q3
    have hB := lcmD_pos hszt.1
    obtain ⟨M, m0, mb, hM⟩ := psz_low hszt
    have bB : intBits ((lcmD ts : Nat) : Int) ≤ kk := bits_dvd m0 (lcmD_dvd fun q hq => (hM q hq).1) mb
    refine ⟨_, rfl, D, ts, kk, kk, ((lcmD ts : Nat) : Int), rfl, ⟨pa, by rw [upd_ne Dne]; exact eD3, q4⟩, fun q hq => ⟨(hM q hq).2.2, (hM q hq).2.1⟩, hszt.2.1, hk, hk, by omega, bB, fun q hq => dvd_lcmD q hq, fun H5 t2 l2 B s5 hl2 ht2 hll b0 bd bM => ?_⟩
    have eB := lcmD_uniq b0 bd bM
    subst eB
    refine ⟨t2, _, rfl, SqT.of ht2, rfl, _, _, rfl, _, _, rfl, rfl, ?_⟩
    have hp5 : H5 p = some (.ins CP dx (putF "row" (.ref t) [])) := s5 _ _ upd_same
    have et5 : H5 t = some (.tup (pa.map V.ref)) := s5 _ _ (by rw [upd_ne tne]; exact et3)
    have q5 : Paired (RatQ C H5) pa ts := Paired.imp (fun _ _ f => (RatQ.stb C).same s5 f) q4
    have k5 : ∀ b o, H b = some o → b ≠ p → H5 b = some o := fun b o e n => s5 _ _ (by rw [upd_ne n]; exact k3 b o e)
    -- self._numbers
    refine ⟨_, rfl, l2, _, rfl, .inl ⟨SqL.of hll, fun t3 ht3 => ?_⟩⟩
    have s6 := same_upd (o := .tup ((partsOf ((lcmD ts : Nat) : Int) ts).map V.int)) ht3
    have t3ne : t3 ≠ p := fun e => by
      rw [e, hp5] at ht3
      cases ht3
    have hp6 := s6 _ _ hp5
    have et6 := s6 _ _ et5
    have q6 := Paired.imp (fun a b f => (RatQ.stb C).same (b := b) s6 f) q5
    refine ⟨_, rfl, p, CP, dx, _, rfl, hp6, TP.cl, TP.nN, (by show 1 < 1000; decide), ?_⟩
    -- self._below
    refine ⟨_, rfl, _, rfl, p, CP, dx, _, rfl, upd_same, TP.cl, TP.nB, (by show 2 < 1000; decide), ?_⟩
    refine k _ ⟨dx, t, t3, upd_same, ⟨pa, ?_, ?_⟩, ?_, htr⟩ fun b o e n => ?_
    · rw [upd_ne tne, upd_ne tne]
      exact et6
    · exact Paired.imp (fun _ _ f => rat_up upd_same (n2 _) (rat_up hp6 n1 f)) q6
    · rw [upd_ne t3ne, upd_ne t3ne]
      exact upd_same
    · rw [upd_ne n, upd_ne n]
      exact s6 _ _ (k5 b o e n)
end
end Ind

set_option Elab.async false
set_option linter.all false
set_option maxRecDepth 100000
set_option maxHeartbeats 4000000
set_option exponentiation.threshold 9000
namespace Ind
open PySem PySem.Spec PyProof.Rows L2
open Builtin.Int (intBits)
abbrev sOfN : Stmt := top 24
abbrev sRS : Stmt := top 13
abbrev sRP : Stmt := top 14
abbrev sRD : Stmt := top 99
abbrev sTr : Stmt := top 11
/-- the row of the numbers over one denominator -/
def overQ (B : Int) (ns : List Int) : List Q2 := ns.map fun n => mkq n B
theorem over_len (B : Int) (ns : List Int) : (overQ B ns).length = ns.length := by
  unfold overQ
  rw [List.length_map]
theorem over_row {B : Int} (h : B ≠ 0) (ns : List Int) (j : Nat) : rowF (overQ B ns) j = ((ns.getD j 0 : Int) : Rat) / ((B : Int) : Rat) := by
  unfold rowF overQ
  rw [List.getD_eq_getElem?_getD, List.getElem?_map, List.getD_eq_getElem?_getD]
  cases e : ns[j]? with
  | none =>
    show rv q0 = ((0 : Int) : Rat) / _
    rw [rv_q0]
    grind
  | some n => exact rv_mk h
theorem bits_neg {x : Int} {k : Nat} (h : intBits x ≤ k) : intBits (-x) ≤ k := PySem.intBits_neg_le h
/-- numbers of at most k bits over a denominator of at most k bits -/
theorem over_psz {B : Int} {ns : List Int} {k : Nat} (h : B ≠ 0) (hl : ns.length ≤ 100) (hB : intBits B ≤ k) (hn : ∀ n ∈ ns, intBits n ≤ k) : PSz k (overQ B ns) := by
  have key : ∀ n ∈ ns, (nD n B) ∣ (B.natAbs : Int) ∧ intBits (nN n B * (B.natAbs : Int).fdiv (nD n B)) ≤ k := fun n hm => by
    have hp := nD_pos (n := n) h
    have e := nD_mul (n := n) h
    have ec := n_cross (n := n) h
    have d : nD n B ∣ B := ⟨_, e⟩
    have d2 : nD n B ∣ (B.natAbs : Int) := Int.dvd_natAbs.mpr d
    refine ⟨d2, ?_⟩
    obtain ⟨c, hc⟩ := d2
    have hf : (B.natAbs : Int).fdiv (nD n B) = c := by
      rw [hc, Int.mul_comm]
      exact Int.mul_fdiv_cancel _ (Int.ne_of_gt hp)
    rw [hf]
    refine PySem.intBits_le_of_natAbs ?_ (hn n hm)
    have h1 : (nN n B * c).natAbs * (nD n B).natAbs = n.natAbs * (nD n B).natAbs := by
      rw [← Int.natAbs_mul, ← Int.natAbs_mul, Int.mul_assoc, Int.mul_comm c, ← hc, Int.natAbs_mul, Int.natAbs_natCast, ← Int.natAbs_mul, ec]
    exact Nat.le_of_eq (Nat.eq_of_mul_eq_mul_right (by omega) h1)
  refine ⟨fun q hq => ?_, by rw [over_len]; exact hl, (B.natAbs : Int), by omega, ?_, fun q hq => ?_⟩
  · unfold overQ at hq
    obtain ⟨n, _, rfl⟩ := List.mem_map.mp hq
    exact lo_mk h
  · exact PySem.intBits_le_of_natAbs (by rw [Int.natAbs_natCast]; exact Nat.le_refl _) hB
  · unfold overQ at hq
    obtain ⟨n, hm, rfl⟩ := List.mem_map.mp hq
    exact key n hm
/-- a list or a tuple of ints -/
def IntsAt (H : Hp) (l : Addr) (ns : List Int) : Prop := H l = some (.lst (ns.map V.int)) ∨ H l = some (.tup (ns.map V.int))
def spOfN (C CP : Addr) : Sp := fun vs H Q _ => ∃ (l : Addr) (ns : List Int) (B : Int) (k : Nat), vs = [.ref l, .int B] ∧ IntsAt H l ns ∧ B ≠ 0 ∧ ns.length ≤ 100 ∧ intBits B ≤ k ∧ (∀ n ∈ ns, intBits n ≤ k) ∧ k ≤ 4000 ∧
  ∀ (H' : Hp) (p : Addr), Same H H' → PolyAt C CP H' p (trimQ (overQ B ns)) → Q (.ref p) H'
section
variable {P : Program} {w : World} {K : PySem.W.Frag} {mg : Str → Option Value} {base : Heap} {C Z CP : Addr}
/-- how Poly's __init__ stands -/
structure MkP (P : Program) (w : World) (K : PySem.W.Frag) (mg : Str → Option Value) (base : Heap) (C CP : Addr) (fI : Addr) (fdI : FuncData) : Prop where
  cm : Mk K CP fI
  fn : FnOk P w K mg base CX0 43 fI fdI ["self", "row"] (spPI C CP)
  b : Binds K fdI ["self", "row"] []
/-- behind Poly(l) -/
theorem mkP_ok {l : Addr} {xs : List V} {qs : List Q2} {k : Nat} {H1 : Hp} {Q : VK} {E : XK} (hl : H1 l = some (.lst xs) ∨ H1 l = some (.tup xs)) (hP : Paired (MixV C H1) xs qs) (hs : PSz k qs) (hk : k ≤ 4000) (h : ∀ (p : Addr) (H' : Hp), PolyAt C CP H' p (trimQ qs) → Same H1 H' → Q (.ref p) H') :
    ∀ x dx, H1 x = none → H1 dx = none → dx ≠ x → spPI C CP [.ref x, .ref l] (upd (upd H1 dx (.own x)) x (.ins CP dx [])) (fun v H2 => v = .non ∧ Q (.ref x) H2) E := fun x dx nx nd ne => by
  have nx2 : (upd H1 dx (.own x)) x = none := by
    rw [upd_ne (Ne.symm ne)]
    exact nx
  have s : Same H1 (upd (upd H1 dx (.own x)) x (.ins CP dx [])) := (same_upd nd).trans (same_upd nx2)
  exact ⟨x, dx, l, xs, qs, k, rfl, upd_same, hl.imp (s _ _) (s _ _), Paired.imp (fun _ _ f => MixV.same s f) hP, hs, hk, fun H' r kk => ⟨rfl, h x H' r (Same.made nx nd kk)⟩⟩
abbrev nOfN : List Str := ["numbers", "below", "n"]
theorem scOfN : FnScope nOfN ["numbers", "below"] (defScope sOfN) := ⟨rfl, rfl, rfl, by decide +kernel, rfl, by decide +kernel, by decide +kernel⟩
theorem ok_ofn {f fI fP : Addr} {fd fdI fdP : FuncData} {ds : List Value} (F : Fun K "of_numbers" "of_numbers" sOfN f fd) (R : TxR K mg C Z) (TP : TxP K mg CP) (M : MkR P w K mg base C Z fI fdI ds) (MP : MkP P w K mg base C CP fP fdP) : FnOk P w K mg base CX0 45 f fd ["numbers", "below"] (spOfN C CP) := by
  refine F.ok scOfN (fun vs H Q E h => ?_) (fun cdv A outer s H vs Q E hr h => ?_)
  · obtain ⟨l, ns, B, k, rfl, _⟩ := h
    rfl
  · obtain ⟨l, ns, B, kk, rfl, hl, hB0, hn1, hB, hns, hk, k⟩ := h
    have h42 := hr.mono (show 42 ≤ 44 by decide)
    refine ⟨_, pss_one (ps_ret (pe_make MP.cm MP.fn hr (by rfl) TP.mgP MP.b .nil pass0 (pa_cons (pe_lc (own := [("n", 2)]) (g := gName 2) (tt := tYes) (te := tMake C (spInit C Z) [] E0 (tCons (tVar 2) (tCons (tVar 1) tNil))) rfl scOfN.nd (PI.or (pi_list (pv 0)) (pi_tup (pv 0))) (blkOk_by (N := nOfN) (sc := defScope sOfN) (by decide +kernel))
          (fun _ _ _ _ _ => pg_name (i := 2) scOfN.nd rfl (Or.inl rfl)) (fun _ _ _ _ _ => pts_nil) (fun _ _ _ _ _ => pe_make M.cm M.fn h42 (by rfl) R.mgC M.b2 .nil passL (pa_cons (pv 2) (pa_cons (pv 1) pa_nil)))) pa_nil))), ?_⟩
    have psz := over_psz hB0 hn1 hB hns
    have lo := psz.1
    have one : ∀ {σ : L2.St} {D : Addr} {H2 : Hp} {i : Nat} {x : V} (h2 : σ[2]? = some (some x)) (h1 : σ[1]? = some (some (V.int B))) (hD : H D = none) (hx : (ns.map V.int)[i]? = some x) (z : Col (RatQ C) D H H2 ((overQ B ns).take i)),
        (tMake C (spInit C Z) [] E0 (tCons (tVar 2) (tCons (tVar 1) tNil))) σ H2 (fun v H3 => ∃ acc, H3 D = some (.lst acc) ∧ acc.length < sizeLine ∧ Col (RatQ C) D H (upd H3 D (.lst (acc ++ [v]))) ((overQ B ns).take (i + 1))) := fun {σ D H2 i x} h2 h1 hD hx z => by
      obtain ⟨n, hn, rfl⟩ := int_of hx
      have hil := (List.getElem?_eq_some_iff.mp hn).1
      have hq : (overQ B ns)[i]? = some (mkq n B) := by
        unfold overQ
        rw [List.getElem?_map, hn]
        rfl
      refine ⟨_, h2, _, h1, ?_⟩
      intro u du nu ndu neu
      refine ⟨u, du, n, B, rfl, upd_same, fun z => absurd z hB0, fun _ H6 hu kk => ⟨rfl, ?_⟩⟩
      rw [take_snoc hq]
      refine z.push ((RatQ.stb C).x D) hD (Same.made nu ndu kk) hu ?_
      rw [List.length_take, over_len]
      omega
    have fin : ∀ {D : Addr} {H2 : Hp} (hD : H D = none) (z : Col (RatQ C) D H H2 ((overQ B ns).take ns.length)), ∀ x dx, H2 x = none → H2 dx = none → dx ≠ x → spPI C CP [.ref x, .ref D] (upd (upd H2 dx (.own x)) x (.ins CP dx [])) (fun v H3 => v = .non ∧ Q (.ref x) H3) E0 := fun {D H2} hD z => by
      rw [List.take_of_length_le (by rw [over_len]; exact Nat.le_refl _)] at z
      obtain ⟨pa, ea, qa⟩ := z.at_
      refine mkP_ok (.inl ea) ?_ psz hk fun p H' hp s' => k H' p (z.s.trans s') hp
      have : ∀ {pa : List Addr} {qs : List Q2}, Paired (RatQ C H2) pa qs → (∀ q ∈ qs, Lo q) → Paired (MixV C H2) (pa.map V.ref) qs := by
        intro pa qs h
        induction h with
        | nil => exact fun _ => .nil
        | cons a t ih => exact fun l => .cons (.inl ⟨_, rfl, a, l _ (by simp)⟩) (ih fun q hq => l q (List.mem_cons_of_mem _ hq))
      exact this qa lo
    rcases hl with hl | hl
    · refine .inl ⟨_, rfl, l, rfl, ⟨_, SqL.of hl⟩, fun D hD => lc_list (K := K) (a := l) (xs := ns.map V.int) (fun i H2 => Col (RatQ C) D H H2 ((overQ B ns).take i)) (Col.start hD) (fun i H2 _ z => z.s.seq (SqL.of hl)) (fun i x H2 hx z => ⟨rfl, one (by rfl) (by rfl) hD hx z⟩) fun H2 z => ?_⟩
      rw [List.length_map] at z
      exact fin hD z
    · refine .inr ⟨_, rfl, l, rfl, ⟨_, SqT.of hl⟩, fun D hD => lc_tup (K := K) (a := l) (xs := ns.map V.int) (fun i H2 => Col (RatQ C) D H H2 ((overQ B ns).take i)) (Col.start hD) (fun i H2 _ z => .of (z.s _ _ hl)) (fun i x H2 hx z => ⟨rfl, one (by rfl) (by rfl) hD hx z⟩) fun H2 z => ?_⟩
      rw [List.length_map] at z
      exact fin hD z
end
end Ind

set_option Elab.async false
set_option linter.all false
set_option maxRecDepth 100000
set_option maxHeartbeats 4000000
namespace Ind
open PySem PySem.Spec PyProof.Rows L2
/-! ### zip(t, l), t a tuple, l a list -/
def ItzM (K : PySem.W.Frag) (a b : Addr) : It where
  go := fun i H => ∃ (xs ys : List V) (x y : V), SqT K H a xs ∧ SqL K H b ys ∧ xs[i]? = some x ∧ ys[i]? = some y
  yld := fun i H v H' => ∃ T x y, v = .ref T ∧ H T = none ∧ H' = upd H T (.tup [x, y]) ∧ (∀ xs, SqT K H a xs → xs[i]? = some x) ∧ ∀ ys, SqL K H b ys → ys[i]? = some y
  stop := fun i H => ∃ xs ys : List V, SqT K H a xs ∧ SqL K H b ys ∧ i = min xs.length ys.length
/-- how its cells stand at turn i -/
structure ZmAt (z TI TO i1 i2 a b : Addr) (i : Nat) (h : Heap) : Prop where
  hz : IsZip h z TI TO .none
  hI : IsTupOf2 h TI (.ref i1) (.ref i2)
  hO : ∃ x y, IsTupOf2 h TO x y
  s1 : h.IsTupleIter i1 a i
  s2 : h.IsListIter i2 b i
theorem ZmAt.mem {z TI TO i1 i2 a b : Addr} {i : Nat} {h : Heap} (st : ZmAt z TI TO i1 i2 a b i h) (c : Addr) (hc : c ∈ [z, TI, TO, i1, i2]) : ∃ o, h.get? c = some o ∧ ∀ v, o.data ≠ .cell v := by
  obtain ⟨hz, hI, ⟨x, y, hO⟩, ⟨o1, e1, _, d1⟩, ⟨o2, e2, _, d2⟩⟩ := st
  simp only [List.mem_cons, List.not_mem_nil, or_false] at hc
  rcases hc with rfl | rfl | rfl | rfl | rfl
  · exact ⟨_, hz, fun v q => (nomatch q)⟩
  · exact ⟨_, hI, fun v q => (nomatch q)⟩
  · exact ⟨_, hO, fun v q => (nomatch q)⟩
  · exact ⟨o1, e1, fun v q => by rw [d1] at q; exact nomatch q⟩
  · exact ⟨o2, e2, fun v q => by rw [d2] at q; exact nomatch q⟩
theorem zm_sep {z TI TO i1 i2 a b : Addr} (D : ZipApart z TI TO i1 i2 a b) : ZipSep2 z TI TO i1 i2 [i1, a] [i2, b] := by
  refine ⟨D.TIz, D.TOz, D.TITO, D.TIi1, by simp, ?_, ?_, D.TIi2, by simp, ?_, ?_, ?_, ?_⟩
  · simp [D.i1z.symm, D.l1z.symm]
  · simp [D.TOi1, D.l1TO.symm]
  · simp [D.i2z.symm, D.l2z.symm]
  · simp [D.TOi2, D.l2TO.symm]
  · simp [D.i12, D.l2i1.symm]
  · simp [D.i12.symm, D.l1i2.symm]
theorem turn_zipM {P : Program} {w : World} {K : PySem.W.Frag} {elts : List Expr} {kk : Nat} {tpos : Pos} {a b z TI TO i1 i2 : Addr} (D : ZipApart z TI TO i1 i2 a b) :
    Turn P w K (.Tuple elts kk tpos) (ItzM K a b) [z, TI, TO, i1, i2] z (ZmAt z TI TO i1 i2 a b) := by
  refine { mem := by simp, obj := fun i h st c hc => st.mem c hc, keep := ?keep, item := ?item, done := ?done, self := fun A i s Q E st h => wpAny_pyIter_zip st.hz h }
  case keep =>
    rintro i h h' ⟨hz, hI, ⟨x, y, hO⟩, h1, h2⟩ k
    refine ⟨k z (by simp) _ hz, k TI (by simp) _ hI, ⟨x, y, k TO (by simp) _ hO⟩, ?_, ?_⟩
    · exact h1.at fun o q => k i1 (by simp) o q
    · exact h2.at fun o q => k i2 (by simp) o q
  case item =>
    rintro X rfl rfl rfl hc i pins s σ H E I hf st hg
    obtain ⟨hz, hI, ⟨x0, y0, hO⟩, h1, h2⟩ := id st
    obtain ⟨xs, ys, x, y, hqx, hqy, hx, hy⟩ := hg
    obtain ⟨ia, ra, pa, _⟩ := I.tuple hqx
    obtain ⟨ib, rb, pb, _⟩ := I.list hqy
    obtain ⟨u, hu, ru⟩ := ra.get hx
    obtain ⟨v, hv, rw'⟩ := rb.get hy
    have hh : X.A.in1.handled = none := I.ok.hd hc
    have la : i < ia.toArray.size := by
      have := (List.getElem?_eq_some_iff.mp hu).1
      simpa using this
    have lb : i < ib.toArray.size := by
      have := (List.getElem?_eq_some_iff.mp hv).1
      simpa using this
    refine wpAny_pyNext_zipD2_item (zm_sep D) (Draws.tuple hh i1 a D.l1i1 ia.toArray) (Draws.list hh i2 b D.l2i2 ib.toArray) hz hI hO ⟨h1, pa⟩ ⟨h2, pb.isList⟩ la lb ?_
    intro u' v' h' tk e1 e2 z' O' s1' s2' hT hsz hk
    have eu : u' = u := by
      have e1 : ia.toArray[i]? = some u' := e1
      rw [List.getElem?_toArray, hu] at e1
      exact (Option.some.inj e1).symm
    have ev : v' = v := by
      have e2 : ib.toArray[i]? = some v' := e2
      rw [List.getElem?_toArray, hv] at e2
      exact (Option.some.inj e2).symm
    subst eu
    subst ev
    refine ⟨_, rfl, wpAny_letOwnedTupleGo_zip (s := { s with heap := h', toks := tk }) z' fun h2' z2 sb => ?_⟩
    have hzl : z < s.heap.objs.size := Heap.lt_size hz
    have hT2 : IsTupOf2 h2' s.heap.objs.size u' v' := (sb.2 _ (Nat.ne_of_gt hzl)).trans hT
    have new : ObjOk X.prog X.w (upd H s.heap.objs.size (.tup [x, y])) h2' s.heap.objs.size (.tup [x, y]) :=
      ⟨show 2 ≤ sizeLine by decide, [u', v'], .cons ru (.cons rw' .nil), _, hT2, rfl, _, rfl⟩
    have I1 : Inv X pins σ (upd H s.heap.objs.size (.tup [x, y])) { s with heap := h2', toks := tk } := by
      refine I.turnedNew (ch := [z, TI, TO, i1, i2]) (fun c o hb q => ?_) hf (Nat.le_refl _) new
      simp only [List.mem_cons, List.not_mem_nil, or_false, not_or] at hb
      exact (sb.2 c hb.1).trans (hk c o hb.1 hb.2.2.1 hb.2.2.2.1 hb.2.2.2.2 q)
    refine ⟨.ref s.heap.objs.size, _, I1, rfl, ⟨_, x, y, rfl, I.hok.fresh (Nat.le_refl _), rfl, fun l hl => ?_, fun l hl => ?_⟩, ⟨z2, ?_, ⟨u', v', ?_⟩, ?_, ?_⟩, fun c hcm => ?_⟩
    · rw [I.tuple_inj hl hqx]
      exact hx
    · rw [I.list_inj hl hqy]
      exact hy
    · exact (sb.2 _ D.TIz).trans (hk _ _ D.TIz D.TITO D.TIi1 D.TIi2 hI)
    · exact (sb.2 _ D.TOz).trans O'
    · exact s1'.1.at fun o q => (sb.2 _ D.i1z).trans q
    · exact s2'.1.at fun o q => (sb.2 _ D.i2z).trans q
    · obtain ⟨o, ho, _⟩ := st.mem c hcm
      rw [upd_ne (Nat.ne_of_lt (Heap.lt_size ho))]
      exact (hf c hcm).1
  case done =>
    rintro X rfl rfl rfl hc i pins s σ H E I hf st hg
    obtain ⟨hz, hI, ⟨x0, y0, hO⟩, h1, h2⟩ := st
    obtain ⟨xs, ys, hqx, hqy, hend⟩ := hg
    obtain ⟨ia, ra, pa, _⟩ := I.tuple hqx
    obtain ⟨ib, rb, pb, _⟩ := I.list hqy
    have hh : X.A.in1.handled = none := I.ok.hd hc
    have la : ia.toArray.size = xs.length := by rw [List.size_toArray, ← ra.length]
    have lb : ib.toArray.size = ys.length := by rw [List.size_toArray, ← rb.length]
    refine wpAny_pyNext_zipD2_end (zm_sep D) (Draws.tuple hh i1 a D.l1i1 ia.toArray) (Draws.list hh i2 b D.l2i2 ib.toArray) hz hI hO ⟨h1, pa⟩ ⟨h2, pb.isList⟩ (by omega) (by omega) (by omega) ?_
    intro h' tk hk
    refine ⟨rfl, I.turnedL (ch := [z, TI, TO, i1, i2]) (fun c o hb q => ?_) hf⟩
    simp only [List.mem_cons, List.not_mem_nil, or_false, not_or] at hb
    exact hk c o hb.1 hb.2.2.1 hb.2.2.2.1 hb.2.2.2.2 q
def iZipM (K : PySem.W.Frag) (ta : TA) : TI := fun σ H R => ta σ H fun vs H1 => ∃ a b xs ys, vs = [.ref a, .ref b] ∧ SqT K H1 a xs ∧ SqL K H1 b ys ∧ R (ItzM K a b) H1
theorem pi_zipM {X : Cx} {e e2 : Expr} {ta : TA} {p pos tpos : Pos} {elts : List Expr} {kk : Nat} (hg : Gl X "zip") (hm : X.mg "zip" = none) (ha : PA X [e, e2] ta)
    (hs : starEach [e, e2] X.env = (false, eval e X.env) :: starEach [e2] X.env := by rfl) (hpl : (backTo pos (starEach [e2] X.env)).any (·.1) = false := by rfl) :
    PI X (.Tuple elts kk tpos) (.Call (.Name "zip" p) [e, e2] [] pos) (iZipM X.K ta) := by
  constructor
  intro pins s σ H R I h
  refine Call_ (ld_blt I hg hm PyProof.Rows.boot_zip (PyProof.Rows.callWith_type1 (thn (ha.run pos pins s σ H _ I h) ?_) hs hpl))
  rintro us s1 ⟨vs, H1, I1, r1, a, b, xs, ys, rfl, hqx, hqy, q⟩
  rcases r1 with _ | ⟨r, _ | ⟨r', rr⟩⟩
  cases rr
  cases r
  cases r'
  obtain ⟨ia, ra, pa, _⟩ := I1.tuple hqx
  obtain ⟨ib, rb, pb, _⟩ := I1.list hqy
  have ta' : s1.heap.IsTuple a ia.toArray := pa
  obtain ⟨oa, hoa, _⟩ := id ta'
  refine zip_begins2 (begins_tuple a ia.toArray) (begins_list b ib.toArray) ta' pb.isList ?_
  intro h' hz hI hO g1 g2 hsz hk
  refine wpAny_pyIter_zip hz ⟨_, [_, _, _, _, _], _, _, H1, rfl, I1.kept (t' := s1.toks) hk, turn_zipM (PySem.W.ktu_apart s1.heap.objs.size a b (Heap.lt_size hoa) pb.lt), ⟨hz, hI, ⟨_, _, hO⟩, ⟨_, g1, rfl, rfl⟩, ⟨_, g2, rfl, rfl⟩⟩, ?_, q⟩
  intro c hcm
  have hle : s1.heap.objs.size ≤ c := by
    simp only [List.mem_cons, List.not_mem_nil, or_false] at hcm
    rcases hcm with e | e | e | e | e <;> (rw [e]; first | exact Nat.le_refl _ | exact Nat.le_add_right _ _)
  exact I1.fpOk hle (I1.hok.fresh hle)
theorem walk_zipM {K : PySem.W.Frag} {a b : Addr} {xs ys : List V} {n : Nat} (hn : n = min xs.length ys.length) : Walk (ItzM K a b) n (fun H => SqT K H a xs ∧ SqL K H b ys) (YPair (fun i => xs[i]?) (fun i => ys[i]?)) := by
  subst hn
  refine ⟨fun i _ hi q => ?_, fun _ q => ⟨xs, ys, q.1, q.2, rfl⟩, fun i H v H' _ q y => ?_⟩
  · have hm := Nat.lt_min.mp hi
    exact ⟨xs, ys, _, _, q.1, q.2, List.getElem?_eq_getElem hm.1, List.getElem?_eq_getElem hm.2⟩
  · obtain ⟨T, x, y', e1, e2, e3, e4, e5⟩ := y
    exact ⟨T, x, y', e1, e2, e3, (e4 xs q.1), (e5 ys q.2)⟩
end Ind

set_option Elab.async false
set_option linter.all false
set_option maxRecDepth 100000
set_option maxHeartbeats 4000000
namespace Ind
open PySem PySem.Spec PyProof.Rows L2
/-! ### enumerate(t), t a tuple -/
theorem enum_tup {prog : Program} {w : World} {A : Around} {E : Value → Shared → Prop} {s : Shared} {l : Addr} {items : Array Value} {Q : PySem.Fin → Shared → Prop} (ht : s.heap.IsTuple l items) (h : Q (.done (.ret (.ref (s.heap.push { cls := .type "tuple_iterator", data := .fields #[.ref l, .int 0 0] }).objs.size))) { s with heap := (s.heap.push { cls := .type "tuple_iterator", data := .fields #[.ref l, .int 0 0] }).push { cls := .type "enumerate", data := .fields #[.none, .bool false, .ref s.heap.objs.size, rawInt 0, .none, .none] } }) :
    wpAny (model prog w) A (Builtin.«enumerate.__new__» ⟨[.type "enumerate", .ref l], []⟩) Q E s := by
  have sub := PySem.sub_enumerate
  have bg := (begins_tuple l items).iter prog w A
  obtain ⟨hpp, g, d, tk, os⟩ := s
  wp_walk using bg
  refine wpAny_stack fun a _ _ _ => ?_
  wp_walk
  split
  · split <;> wp_walk using bg
    all_goals first | exact ht | skip
    all_goals wp_walk
    all_goals exact h
  · wp_walk using bg
    all_goals first | exact ht | skip
    all_goals wp_walk
    all_goals exact h
theorem call_enum_tup {prog : Program} {w : World} {A : Around} {E : Value → Shared → Prop} {s : Shared} {l : Addr} {items : Array Value} {Q : Value → Shared → Prop} (ht : s.heap.IsTuple l items)
    (h : ∀ h' : Heap, IsEnum h' (s.heap.objs.size + 1) s.heap.objs.size 0 .none → h'.IsTupleIter s.heap.objs.size l 0 → h'.objs.size = s.heap.objs.size + 2 → (∀ (b : Addr) (o : Obj), s.heap.get? b = some o → h'.get? b = some o) → Q (.ref (s.heap.objs.size + 1)) { s with heap := h' }) :
    wpAny (model prog w) A (call (.type "enumerate") [.ref l]) Q E s := by
  refine callType_newIn F.called_enumerate (by decide) (F.typeCall_enumerate_1 _) (F.newCall_enumerate_1 _) ?_ F.entry_enumerate_new (S := fun A R s => s.heap.IsTuple l items ∧ R (.ok (.ret (.ref (s.heap.push { cls := .type "tuple_iterator", data := .fields #[.ref l, .int 0 0] }).objs.size))) { s with heap := (s.heap.push { cls := .type "tuple_iterator", data := .fields #[.ref l, .int 0 0] }).push { cls := .type "enumerate", data := .fields #[.none, .bool false, .ref s.heap.objs.size, rawInt 0, .none, .none] } }) ?_ ?_
  · exact fun obj => F.args_object_init_2 obj (.ref l)
  · intro A R s ⟨h1, h2⟩
    exact enum_tup h1 h2
  · refine ⟨ht, ?_⟩
    have hs : (s.heap.push { cls := .type "tuple_iterator", data := .fields #[.ref l, .int 0 0] }).objs.size = s.heap.objs.size + 1 := Heap.size_push ..
    rw [hs]
    have g1 : ∀ (o : Obj) (b : Addr) (u : Obj), s.heap.get? b = some u → ((s.heap.push { cls := .type "tuple_iterator", data := .fields #[.ref l, .int 0 0] }).push o).get? b = some u := fun o b u e => Heap.get?_push_of_some _ (Heap.get?_push_of_some _ e)
    have e1 : IsEnum ((s.heap.push { cls := .type "tuple_iterator", data := .fields #[.ref l, .int 0 0] }).push { cls := .type "enumerate", data := .fields #[.none, .bool false, .ref s.heap.objs.size, rawInt 0, .none, .none] }) (s.heap.objs.size + 1) s.heap.objs.size 0 .none := by
      show Heap.get? _ _ = _
      rw [← hs]
      exact Heap.get?_push_size _ rfl
    refine ⟨⟨_, e1, rfl⟩, h _ e1 ⟨_, Heap.get?_push_of_some _ (Heap.get?_push_size _ rfl), rfl, rfl⟩ ?_ (g1 _)⟩
    rw [Heap.size_push, hs]

def IteT (K : PySem.W.Frag) (a : Addr) : It where
  go := fun i H => ∃ (xs : List V) (x : V), SqT K H a xs ∧ xs[i]? = some x
  yld := fun i H v H' => ∃ T x, v = .ref T ∧ H T = none ∧ H' = upd H T (.tup [.int (i : Int), x]) ∧ ∀ xs, SqT K H a xs → xs[i]? = some x
  stop := fun i H => ∃ xs : List V, SqT K H a xs ∧ i = xs.length
theorem turn_enumT {P : Program} {w : World} {K : PySem.W.Frag} {elts : List Expr} {kk : Nat} {tpos : Pos} {a e it : Addr} (n1 : e ≠ it) (n2 : e ≠ a) (n3 : a ≠ it) :
    Turn P w K (.Tuple elts kk tpos) (IteT K a) [e, it] e (fun i h => (∃ old, IsEnum h e it (i : Int) old) ∧ h.IsTupleIter it a i) := by
  refine { mem := by simp, obj := ?obj, keep := ?keep, item := ?item, done := ?done, self := fun A i s Q E st h => let ⟨⟨_, he⟩, _⟩ := st; wpAny_pyIter_enum he h }
  case obj =>
    rintro i h ⟨⟨old, he⟩, o1, e1, _, d1⟩ b hb
    simp only [List.mem_cons, List.not_mem_nil, or_false] at hb
    rcases hb with rfl | rfl
    · exact ⟨_, he, fun v q => (nomatch q)⟩
    · exact ⟨o1, e1, fun v q => by rw [d1] at q; exact nomatch q⟩
  case keep =>
    rintro i h h' ⟨⟨old, he⟩, h1⟩ k
    exact ⟨⟨old, k e (by simp) _ he⟩, h1.at fun o q => k it (by simp) o q⟩
  case item =>
    rintro X rfl rfl rfl hc i pins s σ H E I hf st hg
    obtain ⟨⟨old, he⟩, h1⟩ := id st
    obtain ⟨xs, x, hqx, hx⟩ := hg
    obtain ⟨ia, ra, pa, _⟩ := I.tuple hqx
    obtain ⟨u, hu, ru⟩ := ra.get hx
    have hh : X.A.in1.handled = none := I.ok.hd hc
    have la : i < ia.toArray.size := by
      have := (List.getElem?_eq_some_iff.mp hu).1
      simpa using this
    refine wpAny_pyNext_enum_itemD (Draws.tuple hh it a n3 ia.toArray) he ⟨h1, pa⟩ la n1 (by simp [n1, n2]) ?_
    intro u' h' tk e1 O' s1' hT hsz hk
    have eu : u' = u := by
      have e1 : ia.toArray[i]? = some u' := e1
      rw [List.getElem?_toArray, hu] at e1
      exact (Option.some.inj e1).symm
    subst eu
    refine ⟨_, rfl, wpAny_letOwnedTupleGo_enum (s := { s with heap := h', toks := tk + 1 }) O' fun h2' z2 sb => ?_⟩
    have hel : e < s.heap.objs.size := Heap.lt_size he
    have hT2 : h2'.get? s.heap.objs.size = some { cls := .type "tuple", data := .seq #[.int (i : Int) tk, u'] } := (sb.2 _ (Nat.ne_of_gt hel)).trans hT
    have new : ObjOk X.prog X.w (upd H s.heap.objs.size (.tup [.int (i : Int), x])) h2' s.heap.objs.size (.tup [.int (i : Int), x]) :=
      ⟨show 2 ≤ sizeLine by decide, [.int (i : Int) tk, u'], .cons ⟨tk, rfl⟩ (.cons ru .nil), _, hT2, rfl, _, rfl⟩
    have I1 : Inv X pins σ (upd H s.heap.objs.size (.tup [.int (i : Int), x])) { s with heap := h2', toks := tk + 1 } := by
      refine I.turnedNew (ch := [e, it]) (fun c o hb q => ?_) hf (Nat.le_refl _) new
      simp only [List.mem_cons, List.not_mem_nil, or_false, not_or] at hb
      exact (sb.2 c hb.1).trans (hk c o hb.1 hb.2 q)
    refine ⟨.ref s.heap.objs.size, _, I1, rfl, ⟨_, x, rfl, I.hok.fresh (Nat.le_refl _), rfl, fun l hl => ?_⟩, ⟨⟨_, by simpa using z2⟩, ?_⟩, fun c hcm => ?_⟩
    · rw [I.tuple_inj hl hqx]
      exact hx
    · exact s1'.1.at fun o q => (sb.2 _ n1.symm).trans q
    · obtain ⟨o, ho⟩ : ∃ o, s.heap.get? c = some o := by
        simp only [List.mem_cons, List.not_mem_nil, or_false] at hcm
        rcases hcm with rfl | rfl
        · exact ⟨_, he⟩
        · obtain ⟨o1, e1, _⟩ := h1
          exact ⟨o1, e1⟩
      rw [upd_ne (Nat.ne_of_lt (Heap.lt_size ho))]
      exact (hf c hcm).1
  case done =>
    rintro X rfl rfl rfl hc i pins s σ H E I hf st hg
    obtain ⟨⟨old, he⟩, h1⟩ := st
    obtain ⟨xs, hqx, hend⟩ := hg
    obtain ⟨ia, ra, pa, _⟩ := I.tuple hqx
    have hh : X.A.in1.handled = none := I.ok.hd hc
    have la : i = ia.toArray.size := by rw [List.size_toArray, ← ra.length, hend]
    refine wpAny_pyNext_enum_endD (Draws.tuple hh it a n3 ia.toArray) he ⟨by rw [← la]; exact h1, pa⟩ ?_
    intro h' hk
    refine ⟨rfl, I.turnedL (ch := [e, it]) (fun c o hb q => ?_) hf⟩
    simp only [List.mem_cons, List.not_mem_nil, or_false, not_or] at hb
    exact hk c o hb.2 q
def iEnumT (K : PySem.W.Frag) (ta : TA) : TI := fun σ H R => ta σ H fun vs H1 => ∃ a xs, vs = [.ref a] ∧ SqT K H1 a xs ∧ R (IteT K a) H1
theorem pi_enumT {X : Cx} {e : Expr} {ta : TA} {p pos tpos : Pos} {elts : List Expr} {kk : Nat} (hg : Gl X "enumerate") (hm : X.mg "enumerate" = none) (ha : PA X [e] ta)
    (hs : starEach [e] X.env = (false, eval e X.env) :: starEach [] X.env := by rfl) (hpl : (backTo pos (starEach [] X.env)).any (·.1) = false := by rfl) :
    PI X (.Tuple elts kk tpos) (.Call (.Name "enumerate" p) [e] [] pos) (iEnumT X.K ta) := by
  constructor
  intro pins s σ H R I h
  refine Call_ (ld_blt I hg hm PyProof.Rows.boot_enumerate (PyProof.Rows.callWith_type1 (thn (ha.run pos pins s σ H _ I h) ?_) hs hpl))
  rintro us s1 ⟨vs, H1, I1, r1, a, xs, rfl, hqx, q⟩
  rcases r1 with _ | ⟨r, rr⟩
  cases rr
  cases r
  obtain ⟨ia, ra, pa, _⟩ := I1.tuple hqx
  have ta' : s1.heap.IsTuple a ia.toArray := pa
  obtain ⟨oa, hoa, _⟩ := id ta'
  refine call_enum_tup ta' ?_
  intro h' hz h1 hsz hk
  have hl := Heap.lt_size hoa
  refine wpAny_pyIter_enum hz ⟨_, [_, _], _, _, H1, rfl, I1.kept (t' := s1.toks) hk, turn_enumT (Nat.succ_ne_self _) (Nat.ne_of_gt (Nat.lt_succ_of_lt hl)) (Nat.ne_of_lt hl), ⟨⟨_, hz⟩, h1⟩, ?_, q⟩
  intro c hcm
  have hle : s1.heap.objs.size ≤ c := by
    simp only [List.mem_cons, List.not_mem_nil, or_false] at hcm
    rcases hcm with e | e <;> (rw [e]; first | exact Nat.le_refl _ | exact Nat.le_add_right _ _)
  exact I1.fpOk hle (I1.hok.fresh hle)
theorem walk_enumT {K : PySem.W.Frag} {a : Addr} {xs : List V} : Walk (IteT K a) xs.length (fun H => SqT K H a xs) (YPair (fun i => some (.int (i : Int))) (fun i => xs[i]?)) := by
  refine ⟨fun i _ hi q => ⟨xs, _, q, List.getElem?_eq_getElem hi⟩, fun _ q => ⟨xs, q, rfl⟩, fun i H v H' _ q y => ?_⟩
  obtain ⟨T, x, e1, e2, e3, e4⟩ := y
  exact ⟨T, .int (i : Int), x, e1, e2, e3, rfl, e4 xs q⟩
end Ind

set_option Elab.async false
set_option linter.all false
set_option maxRecDepth 100000
set_option maxHeartbeats 4000000
set_option exponentiation.threshold 9000
namespace Ind
open PySem PySem.Spec PyProof.Rows L2
open Builtin.Int (intBits)
/-- row_sum(a, left, b, right) of two tuples -/
def spRS : Sp := fun vs H Q _ => ∃ (p q : Addr) (as bs : List Int) (l r : Int) (k : Nat), vs = [.ref p, .int l, .ref q, .int r] ∧ H p = some (.tup (as.map V.int)) ∧ H q = some (.tup (bs.map V.int)) ∧ as.length ≤ 100 ∧ bs.length ≤ 100 ∧ intBits l ≤ k ∧ intBits r ≤ k ∧ (∀ n ∈ as, intBits n ≤ k) ∧ (∀ n ∈ bs, intBits n ≤ k) ∧ k ≤ 1000000 ∧
  ∀ (H' : Hp) (t : Addr) (ns : List Int), Same H H' → H' t = some (.lst (ns.map V.int)) → ns.length = max as.length bs.length → (∀ n ∈ ns, intBits n ≤ 2 * k + 1) → (∀ j, ns.getD j 0 = l * as.getD j 0 + r * bs.getD j 0) → Q (.ref t) H'
theorem getD_map {f : Int → Int} (h : f 0 = 0) (ns : List Int) (j : Nat) : (ns.map f).getD j 0 = f (ns.getD j 0) := by
  rw [List.getD_eq_getElem?_getD, List.getElem?_map, List.getD_eq_getElem?_getD]
  cases ns[j]? with
  | none => exact h.symm
  | some n => rfl
theorem getD_set {ns : List Int} {i : Nat} {v : Int} (h : i < ns.length) (j : Nat) : (ns.set i v).getD j 0 = if j = i then v else ns.getD j 0 := by
  rw [List.getD_eq_getElem?_getD, List.getD_eq_getElem?_getD]
  by_cases e : j = i
  · subst e
    rw [if_pos rfl, List.getElem?_set_self h]
    rfl
  · rw [if_neg e, List.getElem?_set_ne (Ne.symm e)]
theorem bits_getD {ns : List Int} {k : Nat} (h : ∀ n ∈ ns, intBits n ≤ k) (j : Nat) : intBits (ns.getD j 0) ≤ k := by
  rw [List.getD_eq_getElem?_getD]
  cases e : ns[j]? with
  | none => exact Nat.le_trans (show intBits 0 ≤ 0 by decide) (Nat.zero_le _)
  | some n => exact h n (List.mem_of_getElem? e)
theorem ixN_of {n k : Nat} (h : k < n) : ixN n ((k : Nat) : Int) = some k := by
  unfold ixN
  rw [if_pos (by omega), if_pos (by omega)]
  all_goals rfl
theorem mem_getD {ns : List Int} {n : Int} (h : n ∈ ns) : ∃ j, j < ns.length ∧ ns.getD j 0 = n := by
  obtain ⟨j, hj, e⟩ := List.getElem_of_mem h
  exact ⟨j, hj, by rw [List.getD_eq_getElem?_getD, List.getElem?_eq_getElem hj, e]; rfl⟩
section
variable {P : Program} {w : World} {K : PySem.W.Frag} {mg : Str → Option Value} {base : Heap} {C Z CP : Addr}
abbrev nRS : List Str := ["a", "left", "b", "right", "found", "k", "n"]
theorem scRS : FnScope nRS ["a", "left", "b", "right"] (defScope sRS) := ⟨rfl, rfl, rfl, by decide +kernel, rfl, by decide +kernel, by decide +kernel⟩
theorem ok_rs {f : Addr} {fd : FuncData} (F : Fun K "row_sum" "row_sum" sRS f fd) (T : TxL K mg) (ge : mg "enumerate" = none) : FnOk P w K mg base CX0 1 f fd ["a", "left", "b", "right"] spRS := by
  refine F.ok scRS (fun vs H Q E h => ?_) (fun cdv A outer s H vs Q E hr h => ?_)
  · obtain ⟨p, q, as, bs, l, r, k, rfl, _⟩ := h
    rfl
  · obtain ⟨p, q, as, bs, l, r, kk, rfl, hp, hq, ha1, hb1, hl, hr', ha, hb, hk, k⟩ := h
    refine ⟨_, C8.pss_cut (ps_if (pt_cmpR op_lt (pe_callB call_len_seq (by rfl) T.len PySem.boot_len (pa_cons (pv 0) pa_nil)) (pe_callB call_len_seq (by rfl) T.len PySem.boot_len (pa_cons (pv 2) pa_nil)) (nomark _))
        (pss_one (ps_asg (pe_tup (pa_cons (pv 2) (pa_cons (pv 3) (pa_cons (pv 0) (pa_cons (pv 1) pa_nil))))) (pg_tup (by rfl) (pgs_cons (pg_name (i := 0) scRS.nd rfl (Or.inl rfl)) (pgs_cons (pg_name (i := 1) scRS.nd rfl (Or.inr rfl)) (pgs_cons (pg_name (i := 2) scRS.nd rfl (Or.inl rfl)) (pgs_cons (pg_name (i := 3) scRS.nd rfl (Or.inl rfl)) pgs_nil))))))) pss_nil)
      (pss_cons (ps_setLc (i := 4) (own := [("n", 6)]) (g := gName 6) (tt := tYes) (te := tOp (rI (fun i j => intBits i + intBits j ≤ 134217728) fun i j => .int (i * j)) (tVar 1) (tVar 6)) rfl scRS.nd rfl rfl rfl (pi_tup (pv 0)) (blkOk_by (N := nRS) (sc := defScope sRS) (by decide +kernel))
          (fun _ _ _ _ _ => pg_name (i := 6) scRS.nd rfl (Or.inl rfl)) (fun _ _ _ _ _ => pts_nil) (fun _ _ _ _ _ => pe_op op_mulB (pv 1) (pv 6)))
      (pss_cons (ps_for PassesOwn.never rfl (pi_enumT (by rfl) ge (pa_cons (pv 2) pa_nil)) (pg_tup (by rfl) (pgs_cons (pg_name (i := 5) scRS.nd rfl (Or.inl rfl)) (pgs_cons (pg_name (i := 6) scRS.nd rfl (Or.inl rfl)) pgs_nil)))
          (pss_one (ps_asg (pe_op op_add (pe_ix ix_list (pv 4) (pv 5) fun _ _ => rfl) (pe_op op_mulB (pv 3) (pv 6))) (pg_sub (pv 4) (pv 5) set_list))))
      (pss_one (ps_ret (pv 4))))), ?_⟩
    refine ⟨fun σ' Ha => ∃ (p q : Addr) (cs ds : List Int) (l' r' : Int), σ' = [some (.ref p), some (.int l'), some (.ref q), some (.int r'), none, none, none] ∧ Same H Ha ∧ Ha p = some (.tup (cs.map V.int)) ∧ Ha q = some (.tup (ds.map V.int)) ∧ cs.length ≤ 100 ∧ ds.length ≤ cs.length ∧ cs.length = max as.length bs.length ∧ intBits l' ≤ kk ∧ intBits r' ≤ kk ∧ (∀ n ∈ cs, intBits n ≤ kk) ∧ (∀ n ∈ ds, intBits n ≤ kk) ∧ ∀ j, l' * cs.getD j 0 + r' * ds.getD j 0 = l * as.getD j 0 + r * bs.getD j 0, ?_, ?_⟩
    · refine ⟨_, rfl, p, _, rfl, .inr (SqT.of hp), _, rfl, q, _, rfl, .inr (SqT.of hq), _, _, rfl, rfl, _, rfl, ite2 (fun c => ?_) (fun c => ?_)⟩
      · have c := of_decide_eq_true c
        rw [List.length_map, List.length_map] at c
        refine ⟨_, rfl, _, rfl, _, rfl, _, rfl, (by show 4 ≤ sizeLine; decide), fun t ht => ?_⟩
        have st := same_upd (o := .tup [V.ref q, V.int r, V.ref p, V.int l]) ht
        refine ⟨t, _, rfl, SqT.of upd_same, rfl, _, _, rfl, _, _, rfl, _, _, rfl, _, _, rfl, rfl, ?_⟩
        exact ⟨q, p, bs, as, r, l, rfl, st, st _ _ hq, st _ _ hp, hb1, by omega, by omega, hr', hl, hb, ha, fun j => Int.add_comm _ _⟩
      · have c : ¬ ((((as.map V.int).length : Nat) : Int) < (((bs.map V.int).length : Nat) : Int)) := fun z => c (decide_eq_true z)
        rw [List.length_map, List.length_map] at c
        exact ⟨p, q, as, bs, l, r, rfl, same_rfl, hp, hq, ha1, by omega, by omega, hl, hr', ha, hb, fun j => rfl⟩
    rintro σ' Ha ⟨p, q, cs, ds, l', r', rfl, sa, hp, hq, hc1, hd1, hmax, hl', hr2, hc, hd, heq⟩
    -- found
    refine ⟨_, rfl, p, rfl, ⟨_, SqT.of hp⟩, fun D hD => lc_tup (K := K) (a := p) (xs := cs.map V.int) (fun i H2 => ColI D Ha H2 ((cs.take i).map fun n => l' * n)) (ColI.start hD) (fun i H2 _ z => .of (z.s _ _ hp)) ?_ ?_⟩
    · rintro i x H2 hx z
      obtain ⟨n, hn, rfl⟩ := int_of hx
      have hi := (List.getElem?_eq_some_iff.mp hn).1
      have bn := hc n (List.mem_of_getElem? hn)
      refine ⟨rfl, _, rfl, _, rfl, _, _, rfl, rfl, (by show intBits l' + intBits n ≤ 134217728; omega), ?_⟩
      rw [map_take_snoc hn]
      refine z.push hD same_rfl ?_
      rw [List.length_map, List.length_take]
      omega
    rintro H2 z
    rw [List.length_map, List.take_length] at z
    have hD0 : H D = none := by
      cases e : H D with
      | none => rfl
      | some o =>
        rw [sa _ _ e] at hD
        cases hD
    have hqH2 := z.s _ _ hq
    have qne : q ≠ D := fun e => by
      rw [e, hD] at hq
      cases hq
    refine ⟨_, rfl, q, _, rfl, SqT.of hqH2, for_it (walk_enumT (K := K) (a := q) (xs := ds.map V.int))
      (fun i σ H5 => (∃ v5 v6 : Option V, σ = [some (.ref p), some (.int l'), some (.ref q), some (.int r'), some (.ref D), v5, v6]) ∧ Same H H5 ∧ H5 q = some (.tup (ds.map V.int)) ∧ ∃ ns : List Int, H5 D = some (.lst (ns.map V.int)) ∧ ns.length = cs.length ∧ ∀ j, ns.getD j 0 = l' * cs.getD j 0 + if j < i then r' * ds.getD j 0 else 0)
      ⟨⟨none, none, rfl⟩, sa.trans z.s, hqH2, _, z.at_, by rw [List.length_map], fun j => by rw [getD_map (by omega), if_neg (Nat.not_lt_zero _)]; omega⟩ (fun i σ H5 _ ⟨_, _, e, _⟩ => SqT.of e) ?_ ?_⟩
    · rintro i x σ H5 H6 hi ⟨⟨v5, v6, rfl⟩, s5, eq5, ns, eD, hnl, hns⟩ ⟨T', x1, x2, rfl, hT, rfl, g1, g2⟩
      cases g1
      obtain ⟨n, hn, rfl⟩ := int_of g2
      have hil := (List.getElem?_eq_some_iff.mp hn).1
      have bn := hd n (List.mem_of_getElem? hn)
      have s6 : Same H5 (upd H5 T' (.tup [.int (i : Int), .int n])) := same_upd hT
      have eD6 := s6 _ _ eD
      obtain ⟨m, hm⟩ : ∃ m, ns[i]? = some m := ⟨_, List.getElem?_eq_getElem (by omega)⟩
      refine ⟨T', _, rfl, SqT.of upd_same, rfl, _, _, rfl, _, _, rfl, rfl, ?_⟩
      refine ⟨_, rfl, _, rfl, D, _, _, V.int m, rfl, rfl, SqL.of eD6, atI_of (by rw [List.getElem?_map, hm]; rfl), _, rfl, _, rfl, _, _, rfl, rfl, (by show intBits r' + intBits n ≤ 134217728; omega), _, _, rfl, rfl, ?_⟩
      refine ⟨_, rfl, _, rfl, D, ns.map V.int, (i : Int), i, rfl, rfl, eD6, ixN_of (by rw [List.length_map]; omega), ⟨_, _, rfl⟩, fun b o e => ?_, ?_, ns.set i (m + r' * n), ?_, by rw [List.length_set, hnl], fun j => ?_⟩
      · rw [upd_ne (ne_of_none e hD0)]
        exact s6 _ _ (s5 b o e)
      · rw [upd_ne qne]
        exact s6 _ _ eq5
      · rw [upd_same, List.map_set]
      · rw [getD_set (by omega)]
        have em : ns.getD i 0 = m := by
          rw [List.getD_eq_getElem?_getD, hm]
          rfl
        have en : ds.getD i 0 = n := by
          rw [List.getD_eq_getElem?_getD, hn]
          rfl
        by_cases e : j = i
        · subst e
          rw [if_pos rfl, if_pos (Nat.lt_succ_self _), ← em, hns j, if_neg (Nat.lt_irrefl _), en]
          omega
        · rw [if_neg e, hns j]
          by_cases c : j < i
          · rw [if_pos c, if_pos (by omega)]
          · rw [if_neg c, if_neg (by omega)]
    · rintro σ H5 ⟨⟨v5, v6, rfl⟩, s5, _, ns, eD, hnl, hns⟩
      rw [List.length_map] at hns
      have hform : ∀ j, ns.getD j 0 = l' * cs.getD j 0 + r' * ds.getD j 0 := fun j => by
        rw [hns j]
        by_cases c : j < ds.length
        · rw [if_pos c]
        · rw [if_neg c]
          have : ds.getD j 0 = 0 := by
            rw [List.getD_eq_getElem?_getD, List.getElem?_eq_none (by omega)]
            rfl
          rw [this]
          omega
      refine ⟨_, rfl, k H5 D ns s5 eD (by omega) (fun n hn => ?_) fun j => by rw [hform j, heq j]⟩
      obtain ⟨j, _, e⟩ := mem_getD hn
      rw [← e, hform j]
      have b1 := PySem.intBits_mul_le hl' (bits_getD hc j)
      have b2 := PySem.intBits_mul_le hr2 (bits_getD hd j)
      have := PySem.intBits_add_le b1 b2
      omega
end
end Ind

set_option Elab.async false
set_option linter.all false
set_option maxRecDepth 100000
set_option maxHeartbeats 4000000
set_option exponentiation.threshold 9000
namespace Ind
open PySem PySem.Spec PyProof.Rows L2
open Builtin.Int (intBits)
/-- trimmed(row) of a list -/
def spTrim : Sp := fun vs H Q _ => ∃ (p : Addr) (ns : List Int), vs = [.ref p] ∧ H p = some (.lst (ns.map V.int)) ∧ ns.length ≤ 1000 ∧
  ∀ (H' : Hp) (t : Addr) (ms : List Int), Same H H' → H' t = some (.lst (ms.map V.int)) → ms.length ≤ ns.length → (∀ n ∈ ms, n ∈ ns) → (∀ j, ms.getD j 0 = ns.getD j 0) → Q (.ref t) H'
/-- sums of ints -/
def sumI : Nat → (Nat → Int) → Int
  | 0, _ => 0
  | n + 1, f => sumI n f + f n
/-- the product's items, the first i of the left row -/
def cvI (as bs : List Int) (i j : Nat) : Int := sumI i fun t => if t ≤ j then as.getD t 0 * bs.getD (j - t) 0 else 0
theorem cv_succ (as bs : List Int) (i j : Nat) : cvI as bs (i + 1) j = cvI as bs i j + if i ≤ j then as.getD i 0 * bs.getD (j - i) 0 else 0 := rfl
theorem cv_bits {as bs : List Int} {k : Nat} (ha : ∀ n ∈ as, intBits n ≤ k) (hb : ∀ n ∈ bs, intBits n ≤ k) (j : Nat) : ∀ i, intBits (cvI as bs i j) ≤ 2 * k + i
  | 0 => Nat.le_trans (show intBits 0 ≤ 0 by decide) (Nat.zero_le _)
  | i + 1 => by
    have ih := cv_bits ha hb j i
    rw [cv_succ]
    have h2 : intBits (if i ≤ j then as.getD i 0 * bs.getD (j - i) 0 else 0) ≤ 2 * k + i := by
      split
      · have := PySem.intBits_mul_le (bits_getD ha i) (bits_getD hb (j - i))
        omega
      · exact Nat.le_trans (show intBits 0 ≤ 0 by decide) (Nat.zero_le _)
    have := PySem.intBits_add_le ih h2
    omega
/-- row_product of two tuples -/
def spRP : Sp := fun vs H Q _ => ∃ (p q : Addr) (as bs : List Int) (k : Nat), vs = [.ref p, .ref q] ∧ H p = some (.tup (as.map V.int)) ∧ H q = some (.tup (bs.map V.int)) ∧ as.length ≤ 60 ∧ bs.length ≤ 60 ∧ (∀ n ∈ as, intBits n ≤ k) ∧ (∀ n ∈ bs, intBits n ≤ k) ∧ k ≤ 1000000 ∧
  ∀ (H' : Hp) (t : Addr) (ns : List Int), Same H H' → H' t = some (.lst (ns.map V.int)) → ns.length ≤ as.length + bs.length → (∀ n ∈ ns, intBits n ≤ 2 * k + 100) → (∀ j, ns.getD j 0 = cvI as bs as.length j) → Q (.ref t) H'
/-- row_derivative of a tuple -/
def spRD : Sp := fun vs H Q _ => ∃ (p : Addr) (as : List Int) (k : Nat), vs = [.ref p] ∧ H p = some (.tup (as.map V.int)) ∧ as.length ≤ 100 ∧ (∀ n ∈ as, intBits n ≤ k) ∧ k ≤ 1000000 ∧
  ∀ (H' : Hp) (t : Addr) (ns : List Int), Same H H' → H' t = some (.lst (ns.map V.int)) → ns.length = as.length - 1 → (∀ n ∈ ns, intBits n ≤ k + 7) → (∀ j, ns.getD j 0 = ((j + 1 : Nat) : Int) * as.getD (j + 1) 0) → Q (.ref t) H'
theorem getD_take {ns : List Int} {i : Nat} (h : ∀ j, i ≤ j → ns.getD j 0 = 0) (j : Nat) : (ns.take i).getD j 0 = ns.getD j 0 := by
  rw [List.getD_eq_getElem?_getD, List.getElem?_take]
  by_cases c : j < i
  · rw [if_pos c, List.getD_eq_getElem?_getD]
  · rw [if_neg c, h j (by omega)]
    rfl
section
variable {P : Program} {w : World} {K : PySem.W.Frag} {mg : Str → Option Value} {base : Heap} {C Z CP : Addr}
abbrev nTm : List Str := ["row", "size"]
theorem scTm : FnScope nTm ["row"] (defScope sTr) := ⟨rfl, rfl, rfl, by decide +kernel, rfl, by decide +kernel, by decide +kernel⟩
theorem ok_trim {f : Addr} {fd : FuncData} (F : Fun K "trimmed" "trimmed" sTr f fd) (T : TxL K mg) : FnOk P w K mg base CX0 1 f fd ["row"] spTrim := by
  refine F.ok scTm (fun vs H Q E h => ?_) (fun cdv A outer s H vs Q E hr h => ?_)
  · obtain ⟨p, ns, rfl, _⟩ := h
    rfl
  · obtain ⟨p, ns, rfl, hp, hl, k⟩ := h
    refine ⟨_, pss_cons (ps_set (i := 1) scTm.nd rfl (Or.inl rfl) (pe_callB call_len_seq (by rfl) T.len PySem.boot_len (pa_cons (pv 0) pa_nil)))
      (C8.pss_cut (ps_while PassesOwn.never (PW.pt (pw_and (pt_cmpR op_gt (pv 1) pe_int (nomark _)) (pw_and1 (pt_cmpR op_eq (pe_ix ix_list (pv 0) (pe_op op_sub (pv 1) pe_int) fun _ _ => rfl) pe_int (nomark _)))))
        (pss_one (ps_set (i := 1) scTm.nd rfl (Or.inl rfl) (pe_op op_sub (pv 1) pe_int))))
      (pss_one (ps_ret (pe_slice sl_list (pv 0) po_none (po_some (pv 1)))))), ?_⟩
    refine ⟨_, rfl, p, _, rfl, .inl (SqL.of hp), ?_⟩
    rw [List.length_map]
    refine ⟨fun σ' H' => H' = H ∧ ∃ i : Nat, σ' = [some (.ref p), some (.int (i : Int))] ∧ i ≤ ns.length ∧ ∀ j, i ≤ j → ns.getD j 0 = 0, ?_, ?_⟩
    · refine while_by (fun σ' H' => H' = H ∧ ∃ i : Nat, σ' = [some (.ref p), some (.int (i : Int))] ∧ i ≤ ns.length ∧ ∀ j, i ≤ j → ns.getD j 0 = 0) (fun σ _ => match σ[1]? with | some (some (V.int y)) => y.toNat | _ => 0) ⟨rfl, ns.length, rfl, Nat.le_refl _, fun j hj => by rw [List.getD_eq_getElem?_getD, List.getElem?_eq_none hj]; rfl⟩ ?_ ?_
      · rintro σ H' ⟨rfl, i, rfl, hi, hz⟩
        refine ⟨_, rfl, _, _, rfl, rfl, _, rfl, ?_⟩
        rcases Nat.eq_zero_or_pos i with e | hpos
        · subst e
          rw [show decide ((0 : Int) < (((0 : Nat)) : Int)) = false from by decide]
          exact iteF (iteF ⟨rfl, 0, rfl, hi, hz⟩)
        · obtain ⟨n, rfl⟩ : ∃ n, i = n + 1 := ⟨i - 1, by omega⟩
          obtain ⟨m, hm⟩ : ∃ m, ns[n]? = some m := ⟨_, List.getElem?_eq_getElem (by omega)⟩
          have em : ns.getD n 0 = m := by
            rw [List.getD_eq_getElem?_getD, hm]
            rfl
          have e1 : ((n + 1 : Nat) : Int) - 1 = (n : Int) := by omega
          rw [show decide ((0 : Int) < ((n + 1 : Nat) : Int)) = true from decide_eq_true (by omega)]
          refine iteT ⟨_, rfl, _, rfl, _, _, rfl, rfl, p, _, _, V.int m, rfl, rfl, SqL.of hp, (by rw [e1]; exact atI_of (by rw [List.getElem?_map, hm]; rfl)), rfl, _, rfl, ite2 (fun c => ?_) (fun c => ?_)⟩
          · have hm0 : m = 0 := V.int.inj (of_decide_eq_true c)
            refine ⟨_, rfl, _, _, rfl, rfl, ⟨rfl, n, ?_, by omega, fun j hj => ?_⟩, ?_⟩
            · rw [← e1]
              rfl
            · by_cases e : j = n
              · rw [e, em, hm0]
              · exact hz j (by omega)
            · show (((n + 1 : Nat) : Int) - 1).toNat < ((n + 1 : Nat) : Int).toNat
              omega
          · exact ⟨rfl, n + 1, rfl, hi, hz⟩
      · rintro σ H' R R' hR ⟨v, e1, i, j, e2, e3, c, e4, h⟩
        refine ⟨v, e1, i, j, e2, e3, c, e4, ?_⟩
        cases c with
        | false => exact hR _ _ h
        | true =>
          obtain ⟨a0, a1, b0, b1, i1, j1, d1, d2, p2, x2, i2, u2, g1, g2, g3, g4, z1, c2, z2, h2⟩ := h
          exact ⟨a0, a1, b0, b1, i1, j1, d1, d2, p2, x2, i2, u2, g1, g2, g3, g4, z1, c2, z2, hR _ _ h2⟩
    rintro σ' H' ⟨rfl, i, rfl, hi, hz⟩
    refine ⟨_, rfl, _, rfl, _, rfl, p, _, rfl, SqL.of hp, fun t ht => ?_⟩
    have hcut : cutV (ns.map V.int) none (some (i : Int)) = (ns.take i).map V.int := by
      unfold cutV HT.sIx
      simp only [List.length_map]
      rw [if_neg (by omega)]
      show List.take (min (i : Int).toNat ns.length - 0) (List.drop 0 (ns.map V.int)) = _
      rw [Int.toNat_natCast, Nat.min_eq_left hi, Nat.sub_zero, List.drop_zero, List.map_take]
    rw [hcut]
    exact k _ t (ns.take i) (same_upd ht) upd_same (by rw [List.length_take]; omega) (fun n hn => List.mem_of_mem_take hn) (getD_take hz)
abbrev nRD : List Str := ["row", "k"]
end
end Ind

set_option Elab.async false
set_option linter.all false
set_option maxRecDepth 100000
set_option maxHeartbeats 4000000
set_option exponentiation.threshold 9000
namespace Ind
open PySem PySem.Spec PyProof.Rows L2
open Builtin.Int (intBits)
section
variable {P : Program} {w : World} {K : PySem.W.Frag} {mg : Str → Option Value} {base : Heap} {C Z CP : Addr}
abbrev nRP : List Str := ["a", "b", "found", "i", "n", "j", "m", "_"]
theorem scRP : FnScope nRP ["a", "b"] (defScope sRP) := ⟨rfl, rfl, rfl, by decide +kernel, rfl, by decide +kernel, by decide +kernel⟩
theorem ok_rp {f fT : Addr} {fd fdT : FuncData} (F : Fun K "row_product" "row_product" sRP f fd) (T : TxL K mg) (ge : mg "enumerate" = none) (GT : FnOk P w K mg base CX0 1 fT fdT ["row"] spTrim) (kT : PySem.W.keepIn K (.ref fT) = true) (bT : Binds K fdT ["row"] []) (gT : mg "trimmed" = some (.ref fT)) : FnOk P w K mg base CX0 2 f fd ["a", "b"] spRP := by
  refine F.ok scRP (fun vs H Q E h => ?_) (fun cdv A outer s H vs Q E hr h => ?_)
  · obtain ⟨p, q, as, bs, k, rfl, _⟩ := h
    rfl
  · obtain ⟨p, q, as, bs, kk, rfl, hp, hq, ha1, hb1, ha, hb, hk, k⟩ := h
    refine ⟨_, pss_cons (ps_setLc (i := 2) (own := [("_", 7)]) (g := gName 7) (tt := tYes) rfl scRP.nd rfl rfl rfl (pi_range1 (by rfl) T.range (pa_cons (pe_op op_sub (pe_op op_add (pe_callB call_len_seq (by rfl) T.len PySem.boot_len (pa_cons (pv 0) pa_nil)) (pe_callB call_len_seq (by rfl) T.len PySem.boot_len (pa_cons (pv 1) pa_nil))) pe_int) pa_nil)) (blkOk_by (N := nRP) (sc := defScope sRP) (by decide +kernel))
          (fun _ _ _ _ _ => pg_name (i := 7) scRP.nd rfl (Or.inl rfl)) (fun _ _ _ _ _ => pts_nil) (fun _ _ _ _ _ => pe_int))
      (pss_cons (ps_for PassesOwn.never rfl (pi_enumT (by rfl) ge (pa_cons (pv 0) pa_nil)) (pg_tup (by rfl) (pgs_cons (pg_name (i := 3) scRP.nd rfl (Or.inl rfl)) (pgs_cons (pg_name (i := 4) scRP.nd rfl (Or.inl rfl)) pgs_nil)))
          (pss_one (ps_if (pt_cmpR op_ne (pv 4) pe_int (nomark _)) (pss_one (ps_for PassesOwn.never rfl (pi_enumT (by rfl) ge (pa_cons (pv 1) pa_nil)) (pg_tup (by rfl) (pgs_cons (pg_name (i := 5) scRP.nd rfl (Or.inl rfl)) (pgs_cons (pg_name (i := 6) scRP.nd rfl (Or.inl rfl)) pgs_nil)))
              (pss_one (ps_asg (pe_op op_add (pe_ix ix_list (pv 2) (pe_op op_add (pv 3) (pv 5)) fun _ _ => rfl) (pe_op op_mulB (pv 4) (pv 6))) (pg_sub (pv 2) (pe_op op_add (pv 3) (pv 5)) set_list))))) pss_nil)))
      (pss_one (ps_ret (pe_call GT hr (by rfl) gT kT bT .nil pass0 (pa_cons (pv 2) pa_nil))))), ?_⟩
    refine ⟨_, rfl, p, _, rfl, .inr (SqT.of hp), _, rfl, q, _, rfl, .inr (SqT.of hq), _, _, rfl, rfl, _, _, rfl, rfl, _, rfl, ?_, ?_, fun D hD => ?_⟩
    · rw [List.length_map, List.length_map]
      omega
    · rw [List.length_map, List.length_map]
      omega
    rw [List.length_map, List.length_map, show ((as.length : Int) + (bs.length : Int) - 1).toNat = as.length + bs.length - 1 by omega]
    refine lc_range (lo := 0) (n := as.length + bs.length - 1) (fun i H2 => ColI D H H2 (List.replicate i 0)) (ColI.start hD) ?_ ?_
    · intro i H2 hi z
      refine ⟨rfl, ?_⟩
      rw [List.replicate_succ']
      refine z.push (n := 0) hD same_rfl ?_
      rw [List.length_replicate]
      omega
    rintro H2 z
    have qne : ∀ {b : Addr} {o : HO}, H b = some o → b ≠ D := fun {b o} e => ne_of_none e hD
    refine ⟨_, rfl, p, _, rfl, SqT.of (z.s _ _ hp), for_it (walk_enumT (K := K) (a := p) (xs := as.map V.int))
      (fun i σ H5 => (∃ v3 v4 v5 v6 : Option V, σ = [some (.ref p), some (.ref q), some (.ref D), v3, v4, v5, v6, none]) ∧ Same H H5 ∧ ∃ ns : List Int, H5 D = some (.lst (ns.map V.int)) ∧ ns.length = as.length + bs.length - 1 ∧ ∀ j, ns.getD j 0 = cvI as bs i j)
      ⟨⟨none, none, none, none, rfl⟩, z.s, _, z.at_, List.length_replicate .., fun j => by
        rw [List.getD_eq_getElem?_getD, List.getElem?_replicate]
        split <;> rfl⟩ (fun i σ H5 _ ⟨_, s5, _⟩ => SqT.of (s5 _ _ hp)) ?_ ?_⟩
    · rintro i x σ H5 H6 hi ⟨⟨v3, v4, v5, v6, rfl⟩, s5, ns, eD, hnl, hns⟩ ⟨T', x1, x2, rfl, hT, rfl, g1, g2⟩
      cases g1
      obtain ⟨n, hn, rfl⟩ := int_of g2
      have hil := (List.getElem?_eq_some_iff.mp hn).1
      have bn := ha n (List.mem_of_getElem? hn)
      have en : as.getD i 0 = n := by
        rw [List.getD_eq_getElem?_getD, hn]
        rfl
      have s6 : Same H5 (upd H5 T' (.tup [.int (i : Int), .int n])) := same_upd hT
      have eD6 := s6 _ _ eD
      have S6 := s5.trans s6
      refine ⟨T', _, rfl, SqT.of upd_same, rfl, _, _, rfl, _, _, rfl, rfl, ?_⟩
      refine ⟨_, rfl, rfl, _, rfl, ?_⟩
      by_cases c0 : n = 0
      · subst c0
        rw [show decide (V.int 0 = V.int 0) = true from decide_eq_true rfl]
        refine iteF ⟨⟨_, _, _, _, rfl⟩, S6, ns, eD6, hnl, fun j => ?_⟩
        rw [cv_succ, hns j, en]
        split <;> omega
      · rw [show decide (V.int n = V.int 0) = false from decide_eq_false (fun z => c0 (V.int.inj z))]
        refine iteT ?_
        refine ⟨_, rfl, q, _, rfl, SqT.of (S6 _ _ hq), for_it (walk_enumT (K := K) (a := q) (xs := bs.map V.int))
          (fun m σ H7 => (∃ v5 v6 : Option V, σ = [some (.ref p), some (.ref q), some (.ref D), some (.int (i : Int)), some (.int n), v5, v6, none]) ∧ Same H H7 ∧ ∃ ns : List Int, H7 D = some (.lst (ns.map V.int)) ∧ ns.length = as.length + bs.length - 1 ∧ ∀ j, ns.getD j 0 = cvI as bs i j + if i ≤ j ∧ j < i + m then n * bs.getD (j - i) 0 else 0)
          ⟨⟨v5, v6, rfl⟩, S6, ns, eD6, hnl, fun j => by rw [hns j, if_neg (by omega)]; omega⟩ (fun m σ H7 _ ⟨_, s7, _⟩ => SqT.of (s7 _ _ hq)) ?_ ?_⟩
        · rintro m x σ H7 H8 hm ⟨⟨v5, v6, rfl⟩, s7, ms, eD7, hml, hms⟩ ⟨T2, x1, x2, rfl, hT2, rfl, g3, g4⟩
          cases g3
          obtain ⟨y, hy, rfl⟩ := int_of g4
          have hml2 := (List.getElem?_eq_some_iff.mp hy).1
          have by_ := hb y (List.mem_of_getElem? hy)
          have ey : bs.getD m 0 = y := by
            rw [List.getD_eq_getElem?_getD, hy]
            rfl
          have s8 : Same H7 (upd H7 T2 (.tup [.int (m : Int), .int y])) := same_upd hT2
          have eD8 := s8 _ _ eD7
          obtain ⟨u, hu⟩ : ∃ u, ms[i + m]? = some u := ⟨_, List.getElem?_eq_getElem (by omega)⟩
          have eu : ms.getD (i + m) 0 = u := by
            rw [List.getD_eq_getElem?_getD, hu]
            rfl
          have eim : (i : Int) + (m : Int) = ((i + m : Nat) : Int) := by omega
          refine ⟨T2, _, rfl, SqT.of upd_same, rfl, _, _, rfl, _, _, rfl, rfl, ?_⟩
          refine ⟨_, rfl, _, rfl, _, rfl, _, _, rfl, rfl, D, _, _, V.int u, rfl, rfl, SqL.of eD8, (by rw [eim]; exact atI_of (by rw [List.getElem?_map, hu]; rfl)), _, rfl, _, rfl, _, _, rfl, rfl, (by show intBits n + intBits y ≤ 134217728; omega), _, _, rfl, rfl, ?_⟩
          refine ⟨_, rfl, _, rfl, _, rfl, _, _, rfl, rfl, D, ms.map V.int, (i : Int) + (m : Int), i + m, rfl, rfl, eD8, (by rw [eim]; exact ixN_of (by rw [List.length_map]; omega)), ⟨_, _, rfl⟩, fun b o e => ?_, ms.set (i + m) (u + n * y), ?_, by rw [List.length_set, hml], fun j => ?_⟩
          · rw [upd_ne (qne e)]
            exact s8 _ _ (s7 b o e)
          · rw [upd_same, List.map_set]
          · rw [getD_set (by omega)]
            by_cases e : j = i + m
            · subst e
              rw [if_pos rfl, if_pos (by omega), ← eu, hms (i + m), if_neg (by omega), show i + m - i = m by omega, ey]
              omega
            · rw [if_neg e, hms j]
              by_cases c : i ≤ j ∧ j < i + m
              · rw [if_pos c, if_pos (by omega)]
              · rw [if_neg c, if_neg (by omega)]
        · rintro σ H7 ⟨⟨v5, v6, rfl⟩, s7, ms, eD7, hml, hms⟩
          rw [List.length_map] at hms
          refine ⟨⟨_, _, _, _, rfl⟩, s7, ms, eD7, hml, fun j => ?_⟩
          rw [hms j, cv_succ, en]
          by_cases c : i ≤ j
          · by_cases c2 : j < i + bs.length
            · rw [if_pos ⟨c, c2⟩, if_pos c]
            · rw [if_neg (by omega), if_pos c]
              have : bs.getD (j - i) 0 = 0 := by
                rw [List.getD_eq_getElem?_getD, List.getElem?_eq_none (by omega)]
                rfl
              rw [this, Int.mul_zero]
          · rw [if_neg (by omega), if_neg c]
    · rintro σ H5 ⟨⟨v3, v4, v5, v6, rfl⟩, s5, ns, eD, hnl, hns⟩
      rw [List.length_map] at hns
      refine ⟨_, rfl, D, ns, rfl, eD, by omega, fun H6 t ms s6 ht hml hmm hmf => k H6 t ms (s5.trans s6) ht (by omega) (fun n hn => ?_) fun j => by rw [hmf j, hns j]⟩
      obtain ⟨j, _, e⟩ := mem_getD (hmm n hn)
      rw [← e, hns j]
      have := cv_bits ha hb j as.length
      omega
end
end Ind

set_option Elab.async false
set_option linter.all false
set_option maxRecDepth 100000
set_option maxHeartbeats 4000000
set_option exponentiation.threshold 9000
namespace Ind
open PySem PySem.Spec PyProof.Rows L2
open Builtin.Int (intBits)
abbrev sPAdd : Stmt := inClass (top 23) 1
abbrev sPSub : Stmt := inClass (top 23) 2
abbrev sPMul : Stmt := inClass (top 23) 3
abbrev sPNeg : Stmt := inClass (top 23) 4
/-- what an operation on polynomials promises: sizes, length, items -/
def ResQ (C CP : Addr) (k n : Nat) (f : Fr) (H : Hp) (Q : VK) : Prop := ∀ (H' : Hp) (t : Addr) (qs : List Q2), Same H H' → PolyAt C CP H' t qs → PSz k qs → qs.length ≤ n → (∀ j, rowF qs j = f j) → Q (.ref t) H'
def spPAdd (C CP : Addr) : Sp := fun vs H Q _ => ∃ (p q : Addr) (as bs : List Q2) (k : Nat), vs = [.ref p, .ref q] ∧ PolyAt C CP H p as ∧ PolyAt C CP H q bs ∧ PSz k as ∧ PSz k bs ∧ k ≤ 900 ∧ ResQ C CP (4 * k + 1) (max as.length bs.length) (fun j => rowF as j + rowF bs j) H Q
def spPSub (C CP : Addr) : Sp := fun vs H Q _ => ∃ (p q : Addr) (as bs : List Q2) (k : Nat), vs = [.ref p, .ref q] ∧ PolyAt C CP H p as ∧ PolyAt C CP H q bs ∧ PSz k as ∧ PSz k bs ∧ k ≤ 900 ∧ ResQ C CP (4 * k + 1) (max as.length bs.length) (fun j => rowF as j - rowF bs j) H Q
/-- the items of a product, over fractions -/
def cvR (as bs : List Q2) (j : Nat) : Rat := sumTo as.length fun t => if t ≤ j then rowF as t * rowF bs (j - t) else 0
def spPMul (C CP : Addr) : Sp := fun vs H Q _ => ∃ (p q : Addr) (as bs : List Q2) (k : Nat), vs = [.ref p, .ref q] ∧ PolyAt C CP H p as ∧ PolyAt C CP H q bs ∧ PSz k as ∧ PSz k bs ∧ k ≤ 900 ∧ as.length ≤ 50 ∧ bs.length ≤ 50 ∧ ResQ C CP (2 * k + 100) (as.length + bs.length) (cvR as bs) H Q
def spPNeg (C CP : Addr) : Sp := fun vs H Q _ => ∃ (p : Addr) (as : List Q2) (k : Nat), vs = [.ref p] ∧ PolyAt C CP H p as ∧ PSz k as ∧ k ≤ 4000 ∧ ResQ C CP k as.length (fun j => -rowF as j) H Q
theorem parts_len2 (B : Int) (qs : List Q2) : (partsOf B qs).length = qs.length := by
  unfold partsOf
  rw [List.length_map]
theorem psz_lcm {k : Nat} {qs : List Q2} (h : PSz k qs) : intBits ((lcmD qs : Nat) : Int) ≤ k ∧ ∀ n ∈ partsOf ((lcmD qs : Nat) : Int) qs, intBits n ≤ k := by
  obtain ⟨lo, _, M, m0, mb, hm⟩ := h
  have hd : ((lcmD qs : Nat) : Int) ∣ M := lcmD_dvd fun q hq => (hm q hq).1
  refine ⟨bits_dvd m0 hd mb, fun n hn => ?_⟩
  unfold partsOf at hn
  obtain ⟨q, hq, rfl⟩ := List.mem_map.mp hn
  refine PySem.intBits_le_of_natAbs ?_ (hm q hq).2
  have hp := (lo q hq).pos
  obtain ⟨c, hc⟩ := dvd_lcmD q hq
  obtain ⟨e, he⟩ := hd
  have h1 : ((lcmD qs : Nat) : Int).fdiv q.2 = c := by
    rw [hc, Int.mul_comm]
    exact Int.mul_fdiv_cancel _ (Int.ne_of_gt hp)
  have h2 : M.fdiv q.2 = c * e := by
    rw [he, hc, Int.mul_assoc, Int.mul_comm q.2]
    exact Int.mul_fdiv_cancel _ (Int.ne_of_gt hp)
  rw [h1, h2, ← Int.mul_assoc, Int.natAbs_mul (q.1 * c)]
  have he0 : e ≠ 0 := fun z => by
    rw [z, Int.mul_zero] at he
    omega
  exact Nat.le_mul_of_pos_right _ (by omega)
theorem num_fr {qs : List Q2} (lo : ∀ q ∈ qs, Lo q) (j : Nat) : (((partsOf ((lcmD qs : Nat) : Int) qs).getD j 0 : Int) : Rat) = (((lcmD qs : Nat) : Int) : Rat) * rowF qs j := by
  have := fr_parts (B := ((lcmD qs : Nat) : Int)) (qs := qs) (by have := lcmD_pos lo; omega) (fun q hq => ⟨(lo q hq).pos, dvd_lcmD q hq⟩) j
  exact this
/-- behind of_numbers -/
theorem res_of {C CP : Addr} {H H1 : Hp} {Q : VK} {k n : Nat} {f : Fr} {B : Int} {ns : List Int} (h : ResQ C CP k n f H Q) (hB : B ≠ 0) (hl : ns.length ≤ 100) (hn : ns.length ≤ n) (hb : intBits B ≤ k) (hbn : ∀ m ∈ ns, intBits m ≤ k) (hf : ∀ j, ((ns.getD j 0 : Int) : Rat) = ((B : Int) : Rat) * f j) (s : Same H H1) :
    ∀ (H' : Hp) (p : Addr), Same H1 H' → PolyAt C CP H' p (trimQ (overQ B ns)) → Q (.ref p) H' := fun H' p s' hp => by
  have ps := over_psz hB hl hb hbn
  have tl := trim_len (overQ B ns)
  rw [over_len] at tl
  refine h H' p _ (s.trans s') hp (psz_sub ps (fun q hq => trim_mem hq) (trim_len _)) (by omega) fun j => ?_
  rw [trim_row, over_row hB, hf]
  have := cst_ne hB
  grind
section
variable {P : Program} {w : World} {K : PySem.W.Frag} {mg : Str → Option Value} {base : Heap} {C Z CP : Addr}
/-- the facts of what the operations call -/
structure TxO (P : Program) (w : World) (K : PySem.W.Frag) (mg : Str → Option Value) (base : Heap) (C CP : Addr) (fN fS fP : Addr) (fdN fdS fdP : FuncData) : Prop where
  gN : mg "of_numbers" = some (.ref fN)
  kN : PySem.W.keepIn K (.ref fN) = true
  bN : Binds K fdN ["numbers", "below"] []
  fnN : FnOk P w K mg base CX0 45 fN fdN ["numbers", "below"] (spOfN C CP)
  gS : mg "row_sum" = some (.ref fS)
  kS : PySem.W.keepIn K (.ref fS) = true
  bS : Binds K fdS ["a", "left", "b", "right"] []
  fnS : FnOk P w K mg base CX0 1 fS fdS ["a", "left", "b", "right"] spRS
  gP : mg "row_product" = some (.ref fP)
  kP : PySem.W.keepIn K (.ref fP) = true
  bP : Binds K fdP ["a", "b"] []
  fnP : FnOk P w K mg base CX0 2 fP fdP ["a", "b"] spRP
  lcm : mg "lcm" = some (.builtin "math.lcm")
abbrev nPA : List Str := ["self", "other", "below", "left", "right"]
theorem scPA : FnScope nPA ["self", "other"] (defScope sPAdd) := ⟨rfl, rfl, rfl, by decide +kernel, rfl, by decide +kernel, by decide +kernel⟩
theorem scPS : FnScope nPA ["self", "other"] (defScope sPSub) := ⟨rfl, rfl, rfl, by decide +kernel, rfl, by decide +kernel, by decide +kernel⟩
/-- the least common multiple of two denominators -/
theorem lcm2 {a b : Nat} (ha : 0 < a) (hb : 0 < b) {k : Nat} (h1 : intBits ((a : Nat) : Int) ≤ k) (h2 : intBits ((b : Nat) : Int) ≤ k) : 0 < Nat.lcm a b ∧ intBits ((Nat.lcm a b : Nat) : Int) ≤ 2 * k ∧ ((Nat.lcm a b : Nat) : Int).fdiv ((a : Nat) : Int) * (a : Int) = ((Nat.lcm a b : Nat) : Int) ∧ ((Nat.lcm a b : Nat) : Int).fdiv ((b : Nat) : Int) * (b : Int) = ((Nat.lcm a b : Nat) : Int) := by
  have hp := Nat.lcm_pos ha hb
  have key : ∀ c : Nat, 0 < c → c ∣ Nat.lcm a b → ((Nat.lcm a b : Nat) : Int).fdiv ((c : Nat) : Int) * (c : Int) = ((Nat.lcm a b : Nat) : Int) := fun c hc ⟨d, hd⟩ => by
    rw [hd, Int.natCast_mul, Int.mul_comm (c : Int), Int.mul_fdiv_cancel _ (by omega)]
  refine ⟨hp, ?_, key a ha (Nat.dvd_lcm_left _ _), key b hb (Nat.dvd_lcm_right _ _)⟩
  have h3 := PySem.intBits_mul_le h1 h2
  refine PySem.intBits_le_of_natAbs ?_ (show intBits ((a : Int) * (b : Int)) ≤ 2 * k by omega)
  rw [Int.natAbs_mul, Int.natAbs_natCast, Int.natAbs_natCast, Int.natAbs_natCast]
  exact Nat.lcm_le_mul ha hb
theorem ok_padd {f fN fS fP : Addr} {fd fdN fdS fdP : FuncData} (F : Fun K "__add__" "Poly.__add__" sPAdd f fd) (TP : TxP K mg CP) (O : TxO P w K mg base C CP fN fS fP fdN fdS fdP) : FnOk P w K mg base CX0 46 f fd ["self", "other"] (spPAdd C CP) := by
  refine F.ok scPA (fun vs H Q E h => ?_) (fun cdv A outer s H vs Q E hr h => ?_)
  · obtain ⟨p, q, as, bs, k, rfl, _⟩ := h
    rfl
  · obtain ⟨p, q, as, bs, k, rfl, ⟨dp, rp, np, ep, _, hnp, _⟩, ⟨dq, rq, nq, eq, _, hnq, _⟩, za, zb, hk, res⟩ := h
    have h1 := hr.mono (show 1 ≤ 45 by decide)
    refine ⟨_, pss_cons (ps_set (i := 2) scPA.nd rfl (Or.inl rfl) (pe_callBfun cr_lcmC (by rfl) O.lcm (pa_cons (pe_fld (pv 0) rfl) (pa_cons (pe_fld (pv 1) rfl) pa_nil))))
      (pss_cons (ps_set (i := 3) scPA.nd rfl (Or.inl rfl) (pe_op op_fdivC (pv 2) (pe_fld (pv 0) rfl)))
      (pss_cons (ps_set (i := 4) scPA.nd rfl (Or.inl rfl) (pe_op op_fdivC (pv 2) (pe_fld (pv 1) rfl)))
      (pss_one (ps_ret (pe_call O.fnN hr (by rfl) O.gN O.kN O.bN .nil pass0 (pa_cons (pe_call O.fnS h1 (by rfl) O.gS O.kS O.bS .nil pass0 (pa_cons (pe_fld (pv 0) rfl) (pa_cons (pv 3) (pa_cons (pe_fld (pv 1) rfl) (pa_cons (pv 4) pa_nil))))) (pa_cons (pv 2) pa_nil))))))), ?_⟩
    obtain ⟨ba, na⟩ := psz_lcm za
    obtain ⟨bb, nb⟩ := psz_lcm zb
    have pa := lcmD_pos za.1
    have pb := lcmD_pos zb.1
    obtain ⟨hp, hb, hl, hr2⟩ := lcm2 pa pb ba bb
    refine ⟨_, rfl, p, CP, dp, _, _, rfl, ep, TP.cl, TP.nB, pf_bel _ _ _, _, rfl, q, CP, dq, _, _, rfl, eq, TP.cl, TP.nB, pf_bel _ _ _, ((lcmD as : Nat) : Int), ((lcmD bs : Nat) : Int), rfl, by omega, by omega, by omega, by omega, ?_⟩
    rw [Int.natAbs_natCast, Int.natAbs_natCast]
    refine ⟨_, rfl, _, rfl, p, CP, dp, _, _, rfl, ep, TP.cl, TP.nB, pf_bel _ _ _, _, _, rfl, rfl, ⟨by omega, by omega⟩, ?_⟩
    refine ⟨_, rfl, _, rfl, q, CP, dq, _, _, rfl, eq, TP.cl, TP.nB, pf_bel _ _ _, _, _, rfl, rfl, ⟨by omega, by omega⟩, ?_⟩
    have bl : intBits (((Nat.lcm (lcmD as) (lcmD bs) : Nat) : Int).fdiv ((lcmD as : Nat) : Int)) ≤ 2 * k := PySem.intBits_fdiv_le hb
    have br : intBits (((Nat.lcm (lcmD as) (lcmD bs) : Nat) : Int).fdiv ((lcmD bs : Nat) : Int)) ≤ 2 * k := PySem.intBits_fdiv_le hb
    generalize hL : ((Nat.lcm (lcmD as) (lcmD bs) : Nat) : Int) = L at hb hl hr2 bl br
    obtain ⟨l, el⟩ : ∃ l, L.fdiv ((lcmD as : Nat) : Int) = l := ⟨_, rfl⟩
    obtain ⟨r, er⟩ : ∃ r, L.fdiv ((lcmD bs : Nat) : Int) = r := ⟨_, rfl⟩
    rw [el] at hl bl
    rw [er] at hr2 br
    refine ⟨_, rfl, p, CP, dp, _, _, rfl, ep, TP.cl, TP.nN, pf_num _ _ _, _, rfl, _, rfl, q, CP, dq, _, _, rfl, eq, TP.cl, TP.nN, pf_num _ _ _, _, rfl, ?_⟩
    refine ⟨np, nq, partsOf ((lcmD as : Nat) : Int) as, partsOf ((lcmD bs : Nat) : Int) bs, l, r, 2 * k, (by show [V.ref np, V.int (L.fdiv ((lcmD as : Nat) : Int)), V.ref nq, V.int (L.fdiv ((lcmD bs : Nat) : Int))] = _; rw [el, er]), hnp, hnq, by rw [parts_len2]; exact za.2.1, by rw [parts_len2]; exact zb.2.1, bl, br, fun n hn => Nat.le_trans (na n hn) (by omega), fun n hn => Nat.le_trans (nb n hn) (by omega), by omega, fun H1 t ns s1 ht hnl hnb hnf => ?_⟩
    rw [parts_len2, parts_len2] at hnl
    have l1 := za.2.1
    have l2 := zb.2.1
    refine ⟨_, rfl, t, ns, L, 4 * k + 1, rfl, .inl ht, by omega, by omega, by omega, fun n hn => Nat.le_trans (hnb n hn) (by omega), by omega, res_of res (by omega) (by omega) (by omega) (by omega) (fun n hn => Nat.le_trans (hnb n hn) (by omega)) (fun j => ?_) s1⟩
    rw [hnf j, Rat.intCast_add, Rat.intCast_mul, Rat.intCast_mul, num_fr za.1, num_fr zb.1]
    have e1 : ((l : Int) : Rat) * (((lcmD as : Nat) : Int) : Rat) = ((L : Int) : Rat) := by rw [← Rat.intCast_mul, hl]
    have e2 : ((r : Int) : Rat) * (((lcmD bs : Nat) : Int) : Rat) = ((L : Int) : Rat) := by rw [← Rat.intCast_mul, hr2]
    grind
end
end Ind

set_option Elab.async false
set_option linter.all false
set_option maxRecDepth 100000
set_option maxHeartbeats 4000000
set_option exponentiation.threshold 9000
namespace Ind
open PySem PySem.Spec PyProof.Rows L2
open Builtin.Int (intBits)
section
variable {P : Program} {w : World} {K : PySem.W.Frag} {mg : Str → Option Value} {base : Heap} {C Z CP : Addr}
theorem ok_psub {f fN fS fP : Addr} {fd fdN fdS fdP : FuncData} (F : Fun K "__sub__" "Poly.__sub__" sPSub f fd) (TP : TxP K mg CP) (O : TxO P w K mg base C CP fN fS fP fdN fdS fdP) : FnOk P w K mg base CX0 46 f fd ["self", "other"] (spPSub C CP) := by
  refine F.ok scPS (fun vs H Q E h => ?_) (fun cdv A outer s H vs Q E hr h => ?_)
  · obtain ⟨p, q, as, bs, k, rfl, _⟩ := h
    rfl
  · obtain ⟨p, q, as, bs, k, rfl, ⟨dp, rp, np, ep, _, hnp, _⟩, ⟨dq, rq, nq, eq, _, hnq, _⟩, za, zb, hk, res⟩ := h
    have h1 := hr.mono (show 1 ≤ 45 by decide)
    refine ⟨_, pss_cons (ps_set (i := 2) scPS.nd rfl (Or.inl rfl) (pe_callBfun cr_lcmC (by rfl) O.lcm (pa_cons (pe_fld (pv 0) rfl) (pa_cons (pe_fld (pv 1) rfl) pa_nil))))
      (pss_cons (ps_set (i := 3) scPS.nd rfl (Or.inl rfl) (pe_op op_fdivC (pv 2) (pe_fld (pv 0) rfl)))
      (pss_cons (ps_set (i := 4) scPS.nd rfl (Or.inl rfl) (pe_op op_fdivC (pv 2) (pe_fld (pv 1) rfl)))
      (pss_one (ps_ret (pe_call O.fnN hr (by rfl) O.gN O.kN O.bN .nil pass0 (pa_cons (pe_call O.fnS h1 (by rfl) O.gS O.kS O.bS .nil pass0 (pa_cons (pe_fld (pv 0) rfl) (pa_cons (pv 3) (pa_cons (pe_fld (pv 1) rfl) (pa_cons (pe_un un_neg (pv 4)) pa_nil))))) (pa_cons (pv 2) pa_nil))))))), ?_⟩
    obtain ⟨ba, na⟩ := psz_lcm za
    obtain ⟨bb, nb⟩ := psz_lcm zb
    have pa := lcmD_pos za.1
    have pb := lcmD_pos zb.1
    obtain ⟨hp, hb, hl, hr2⟩ := lcm2 pa pb ba bb
    refine ⟨_, rfl, p, CP, dp, _, _, rfl, ep, TP.cl, TP.nB, pf_bel _ _ _, _, rfl, q, CP, dq, _, _, rfl, eq, TP.cl, TP.nB, pf_bel _ _ _, ((lcmD as : Nat) : Int), ((lcmD bs : Nat) : Int), rfl, by omega, by omega, by omega, by omega, ?_⟩
    rw [Int.natAbs_natCast, Int.natAbs_natCast]
    refine ⟨_, rfl, _, rfl, p, CP, dp, _, _, rfl, ep, TP.cl, TP.nB, pf_bel _ _ _, _, _, rfl, rfl, ⟨by omega, by omega⟩, ?_⟩
    refine ⟨_, rfl, _, rfl, q, CP, dq, _, _, rfl, eq, TP.cl, TP.nB, pf_bel _ _ _, _, _, rfl, rfl, ⟨by omega, by omega⟩, ?_⟩
    have bl : intBits (((Nat.lcm (lcmD as) (lcmD bs) : Nat) : Int).fdiv ((lcmD as : Nat) : Int)) ≤ 2 * k := PySem.intBits_fdiv_le hb
    have br : intBits (((Nat.lcm (lcmD as) (lcmD bs) : Nat) : Int).fdiv ((lcmD bs : Nat) : Int)) ≤ 2 * k := PySem.intBits_fdiv_le hb
    generalize hL : ((Nat.lcm (lcmD as) (lcmD bs) : Nat) : Int) = L at hb hl hr2 bl br
    obtain ⟨l, el⟩ : ∃ l, L.fdiv ((lcmD as : Nat) : Int) = l := ⟨_, rfl⟩
    obtain ⟨r, er⟩ : ∃ r, L.fdiv ((lcmD bs : Nat) : Int) = r := ⟨_, rfl⟩
    rw [el] at hl bl
    rw [er] at hr2 br
    refine ⟨_, rfl, p, CP, dp, _, _, rfl, ep, TP.cl, TP.nN, pf_num _ _ _, _, rfl, _, rfl, q, CP, dq, _, _, rfl, eq, TP.cl, TP.nN, pf_num _ _ _, _, rfl, _, rfl, ?_⟩
    refine ⟨np, nq, partsOf ((lcmD as : Nat) : Int) as, partsOf ((lcmD bs : Nat) : Int) bs, l, -r, 2 * k, (by show [V.ref np, V.int (L.fdiv ((lcmD as : Nat) : Int)), V.ref nq, V.int (-(L.fdiv ((lcmD bs : Nat) : Int)))] = _; rw [el, er]), hnp, hnq, by rw [parts_len2]; exact za.2.1, by rw [parts_len2]; exact zb.2.1, bl, bits_neg br, fun n hn => Nat.le_trans (na n hn) (by omega), fun n hn => Nat.le_trans (nb n hn) (by omega), by omega, fun H1 t ns s1 ht hnl hnb hnf => ?_⟩
    rw [parts_len2, parts_len2] at hnl
    have l1 := za.2.1
    have l2 := zb.2.1
    refine ⟨_, rfl, t, ns, L, 4 * k + 1, rfl, .inl ht, by omega, by omega, by omega, fun n hn => Nat.le_trans (hnb n hn) (by omega), by omega, res_of res (by omega) (by omega) (by omega) (by omega) (fun n hn => Nat.le_trans (hnb n hn) (by omega)) (fun j => ?_) s1⟩
    rw [hnf j, Rat.intCast_add, Rat.intCast_mul, Rat.intCast_mul, Rat.intCast_neg, num_fr za.1, num_fr zb.1]
    have e1 : ((l : Int) : Rat) * (((lcmD as : Nat) : Int) : Rat) = ((L : Int) : Rat) := by rw [← Rat.intCast_mul, hl]
    have e2 : ((r : Int) : Rat) * (((lcmD bs : Nat) : Int) : Rat) = ((L : Int) : Rat) := by rw [← Rat.intCast_mul, hr2]
    grind

abbrev nPM : List Str := ["self", "other"]
theorem scPM : FnScope nPM ["self", "other"] (defScope sPMul) := ⟨rfl, rfl, rfl, by decide +kernel, rfl, by decide +kernel, by decide +kernel⟩
theorem cv_fr {as bs : List Q2} (la : ∀ q ∈ as, Lo q) (lb : ∀ q ∈ bs, Lo q) (j : Nat) : ∀ i, ((cvI (partsOf ((lcmD as : Nat) : Int) as) (partsOf ((lcmD bs : Nat) : Int) bs) i j : Int) : Rat) = ((((lcmD as : Nat) : Int) * ((lcmD bs : Nat) : Int) : Int) : Rat) * sumTo i fun t => if t ≤ j then rowF as t * rowF bs (j - t) else 0
  | 0 => by
    show ((0 : Int) : Rat) = _ * 0
    grind
  | i + 1 => by
    have ih := cv_fr la lb j i
    rw [cv_succ, Rat.intCast_add, ih]
    show _ = _ * (sumTo i _ + (if i ≤ j then rowF as i * rowF bs (j - i) else 0))
    by_cases c : i ≤ j
    · rw [if_pos c, if_pos c, Rat.intCast_mul, Rat.intCast_mul, num_fr la, num_fr lb]
      grind
    · rw [if_neg c, if_neg c]
      grind
theorem ok_pmul {f fN fS fP : Addr} {fd fdN fdS fdP : FuncData} (F : Fun K "__mul__" "Poly.__mul__" sPMul f fd) (TP : TxP K mg CP) (O : TxO P w K mg base C CP fN fS fP fdN fdS fdP) : FnOk P w K mg base CX0 46 f fd ["self", "other"] (spPMul C CP) := by
  refine F.ok scPM (fun vs H Q E h => ?_) (fun cdv A outer s H vs Q E hr h => ?_)
  · obtain ⟨p, q, as, bs, k, rfl, _⟩ := h
    rfl
  · obtain ⟨p, q, as, bs, k, rfl, ⟨dp, rp, np, ep, _, hnp, _⟩, ⟨dq, rq, nq, eq, _, hnq, _⟩, za, zb, hk, l1, l2, res⟩ := h
    have h2 := hr.mono (show 2 ≤ 45 by decide)
    refine ⟨_, pss_one (ps_ret (pe_call O.fnN hr (by rfl) O.gN O.kN O.bN .nil pass0 (pa_cons (pe_call O.fnP h2 (by rfl) O.gP O.kP O.bP .nil pass0 (pa_cons (pe_fld (pv 0) rfl) (pa_cons (pe_fld (pv 1) rfl) pa_nil))) (pa_cons (pe_op op_mulB (pe_fld (pv 0) rfl) (pe_fld (pv 1) rfl)) pa_nil)))), ?_⟩
    obtain ⟨ba, na⟩ := psz_lcm za
    obtain ⟨bb, nb⟩ := psz_lcm zb
    have pa := lcmD_pos za.1
    have pb := lcmD_pos zb.1
    refine ⟨_, rfl, p, CP, dp, _, _, rfl, ep, TP.cl, TP.nN, pf_num _ _ _, _, rfl, q, CP, dq, _, _, rfl, eq, TP.cl, TP.nN, pf_num _ _ _, ?_⟩
    refine ⟨np, nq, partsOf ((lcmD as : Nat) : Int) as, partsOf ((lcmD bs : Nat) : Int) bs, k, rfl, hnp, hnq, by rw [parts_len2]; omega, by rw [parts_len2]; omega, na, nb, by omega, fun H1 t ns s1 ht hnl hnb hnf => ?_⟩
    rw [parts_len2, parts_len2] at hnl
    rw [parts_len2] at hnf
    have bm := PySem.intBits_mul_le ba bb
    refine ⟨_, rfl, p, CP, dp, _, _, rfl, s1 _ _ ep, TP.cl, TP.nB, pf_bel _ _ _, _, rfl, q, CP, dq, _, _, rfl, s1 _ _ eq, TP.cl, TP.nB, pf_bel _ _ _, _, _, rfl, rfl, (by show intBits _ + intBits _ ≤ 134217728; omega), ?_⟩
    have hne : ((lcmD as : Nat) : Int) * ((lcmD bs : Nat) : Int) ≠ 0 := Int.mul_ne_zero (by omega) (by omega)
    exact ⟨t, ns, _, 2 * k + 100, rfl, .inl ht, hne, by omega, by omega, hnb, by omega, res_of res hne (by omega) hnl (by omega) hnb (fun j => by
      rw [hnf j, cv_fr za.1 zb.1]
      rfl) s1⟩
abbrev nPN : List Str := ["self", "n"]
theorem scPN : FnScope nPN ["self"] (defScope sPNeg) := ⟨rfl, rfl, rfl, by decide +kernel, rfl, by decide +kernel, by decide +kernel⟩
theorem ok_pneg {f fN fS fP : Addr} {fd fdN fdS fdP : FuncData} (F : Fun K "__neg__" "Poly.__neg__" sPNeg f fd) (TP : TxP K mg CP) (O : TxO P w K mg base C CP fN fS fP fdN fdS fdP) : FnOk P w K mg base CX0 46 f fd ["self"] (spPNeg C CP) := by
  refine F.ok scPN (fun vs H Q E h => ?_) (fun cdv A outer s H vs Q E hr h => ?_)
  · obtain ⟨p, as, k, rfl, _⟩ := h
    rfl
  · obtain ⟨p, as, k, rfl, ⟨dp, rp, np, ep, _, hnp, _⟩, za, hk, res⟩ := h
    refine ⟨_, pss_one (ps_ret (pe_call O.fnN hr (by rfl) O.gN O.kN O.bN .nil pass0 (pa_cons (pe_lc (own := [("n", 1)]) (g := gName 1) (tt := tYes) (te := tUn (rU fun i => .int (-i)) (tVar 1)) rfl scPN.nd (pi_tup (pe_fld (pv 0) rfl)) (blkOk_by (N := nPN) (sc := defScope sPNeg) (by decide +kernel))
          (fun _ _ _ _ _ => pg_name (i := 1) scPN.nd rfl (Or.inl rfl)) (fun _ _ _ _ _ => pts_nil) (fun _ _ _ _ _ => pe_un un_neg (pv 1))) (pa_cons (pe_fld (pv 0) rfl) pa_nil)))), ?_⟩
    obtain ⟨ba, na⟩ := psz_lcm za
    have pa := lcmD_pos za.1
    have l1 := za.2.1
    refine ⟨_, rfl, p, CP, dp, _, _, rfl, ep, TP.cl, TP.nN, pf_num _ _ _, np, rfl, ⟨_, SqT.of hnp⟩, fun D hD => lc_tup (K := K) (a := np) (xs := (partsOf ((lcmD as : Nat) : Int) as).map V.int) (fun i H2 => ColI D H H2 (((partsOf ((lcmD as : Nat) : Int) as).take i).map fun n => -n)) (ColI.start hD) (fun i H2 _ z => .of (z.s _ _ hnp)) ?_ ?_⟩
    · rintro i x H2 hx z
      obtain ⟨n, hn, rfl⟩ := int_of hx
      have hi := (List.getElem?_eq_some_iff.mp hn).1
      rw [parts_len2] at hi
      refine ⟨rfl, _, rfl, _, rfl, ?_⟩
      rw [map_take_snoc hn]
      refine z.push hD same_rfl ?_
      rw [List.length_map, List.length_take, parts_len2]
      omega
    rintro H2 z
    rw [List.length_map, List.take_length] at z
    have hbn : ∀ m ∈ (partsOf ((lcmD as : Nat) : Int) as).map fun n => -n, intBits m ≤ k := fun m hm => by
      obtain ⟨n, hn, rfl⟩ := List.mem_map.mp hm
      exact bits_neg (na n hn)
    refine ⟨_, rfl, p, CP, dp, _, _, rfl, z.s _ _ ep, TP.cl, TP.nB, pf_bel _ _ _, ?_⟩
    refine ⟨D, _, _, k, rfl, .inl z.at_, by omega, by rw [List.length_map, parts_len2]; omega, ba, hbn, hk, res_of res (by omega) (by rw [List.length_map, parts_len2]; omega) (by rw [List.length_map, parts_len2]; exact Nat.le_refl _) ba hbn (fun j => ?_) z.s⟩
    rw [getD_map (by rfl), Rat.intCast_neg, num_fr za.1]
    grind
end
end Ind

set_option Elab.async false
set_option linter.all false
namespace Ind
/-! ### rows as power series -/
def cv (f g : Fr) : Fr := fun j => sumTo (j + 1) fun t => f t * g (j - t)
def tl (f : Fr) : Fr := fun j => f (j + 1)
def one1 : Fr := fun j => if j = 0 then 1 else 0
theorem sumTo_front (f : Fr) : ∀ n, sumTo (n + 1) f = f 0 + sumTo n fun t => f (t + 1)
  | 0 => by
    show (0 : Rat) + f 0 = f 0 + 0
    grind
  | n + 1 => by
    have ih := sumTo_front f n
    show sumTo (n + 1) f + f (n + 1) = f 0 + (sumTo n (fun t => f (t + 1)) + f (n + 1))
    rw [ih]
    grind
theorem cv_z (f g : Fr) : cv f g 0 = f 0 * g 0 := by
  show (0 : Rat) + f 0 * g (0 - 0) = _
  grind
theorem cv_s (f g : Fr) (n : Nat) : cv f g (n + 1) = f 0 * g (n + 1) + cv (tl f) g n := by
  unfold cv
  rw [sumTo_front]
  congr 1
  exact sumTo_congr fun t _ => by
    show f (t + 1) * g (n + 1 - (t + 1)) = f (t + 1) * g (n - t)
    rw [Nat.add_sub_add_right]
theorem cv_r (f g : Fr) (n : Nat) : cv f g (n + 1) = cv f (tl g) n + f (n + 1) * g 0 := by
  show sumTo (n + 1) _ + f (n + 1) * g (n + 1 - (n + 1)) = _
  rw [Nat.sub_self]
  congr 1
  exact sumTo_congr fun t h => by
    show f t * g (n + 1 - t) = f t * g (n - t + 1)
    rw [show n + 1 - t = n - t + 1 by omega]
theorem cv_comm (f g : Fr) : ∀ n, cv f g n = cv g f n := by
  intro n
  induction n generalizing f g with
  | zero =>
    rw [cv_z, cv_z]
    grind
  | succ n ih =>
    rw [cv_s, cv_r g f, ih]
    grind
theorem cv_lin (a : Rat) (f g h : Fr) (n : Nat) : cv (fun j => a * f j + g j) h n = a * cv f h n + cv g h n := by
  unfold cv
  have := sumTo_lin a 1 (n + 1) (fun t => f t * h (n - t)) (fun t => g t * h (n - t))
  rw [show a * sumTo (n + 1) (fun t => f t * h (n - t)) + sumTo (n + 1) (fun t => g t * h (n - t)) = a * sumTo (n + 1) (fun t => f t * h (n - t)) + 1 * sumTo (n + 1) (fun t => g t * h (n - t)) by grind, ← this]
  exact sumTo_congr fun t _ => by grind
theorem cv_assoc (f g h : Fr) : ∀ n, cv (cv f g) h n = cv f (cv g h) n := by
  intro n
  induction n generalizing f with
  | zero =>
    rw [cv_z, cv_z, cv_z, cv_z]
    grind
  | succ n ih =>
    rw [cv_s, cv_s f, cv_s g h, cv_z, ← ih (tl f)]
    have e : tl (cv f g) = fun j => f 0 * tl g j + cv (tl f) g j := by
      funext j
      show cv f g (j + 1) = _
      rw [cv_s]
      rfl
    rw [e, cv_lin]
    grind
theorem cv_one (f : Fr) : ∀ n, cv one1 f n = f n
  | 0 => by
    rw [cv_z]
    show (1 : Rat) * f 0 = _
    grind
  | n + 1 => by
    rw [cv_s]
    have : cv (tl one1) f n = 0 := by
      unfold cv
      rw [sumTo_congr (g := fun _ => 0) fun t _ => by
        show (if t + 1 = 0 then (1 : Rat) else 0) * _ = 0
        rw [if_neg (by omega)]
        grind]
      exact sumTo_zero _
    rw [this]
    show (1 : Rat) * f (n + 1) + 0 = _
    grind
/-- powers -/
def pw (f : Fr) : Nat → Fr
  | 0 => one1
  | k + 1 => cv (pw f k) f
theorem pw_one (f : Fr) : pw f 1 = f := funext fun n => cv_one f n
theorem pw_add (f : Fr) (a : Nat) : ∀ b, cv (pw f a) (pw f b) = pw f (a + b)
  | 0 => funext fun n => by
    show cv (pw f a) one1 n = pw f a n
    rw [cv_comm, cv_one]
  | b + 1 => funext fun n => by
    show cv (pw f a) (cv (pw f b) f) n = cv (pw f (a + b)) f n
    rw [← cv_assoc, pw_add f a b]
theorem sumTo_tail (f : Fr) {m : Nat} : ∀ {n : Nat}, m ≤ n → (∀ j, m ≤ j → f j = 0) → sumTo n f = sumTo m f
  | 0, h, _ => by
    have : m = 0 := by omega
    rw [this]
  | n + 1, h, z => by
    rcases Nat.lt_or_ge n m with c | c
    · rw [show m = n + 1 by omega]
    · show sumTo n f + f n = _
      rw [sumTo_tail f c z, z n c]
      grind
theorem cvR_cv (as bs : List Q2) (j : Nat) : cvR as bs j = cv (rowF as) (rowF bs) j := by
  unfold cvR cv
  have e1 : ∀ m, j + 1 ≤ m → sumTo m (fun t => if t ≤ j then rowF as t * rowF bs (j - t) else 0) = sumTo (j + 1) fun t => rowF as t * rowF bs (j - t) := fun m hm => by
    rw [sumTo_tail (m := j + 1) _ hm fun t ht => if_neg (by omega)]
    exact sumTo_congr fun t ht => if_pos (by omega)
  have e2 : ∀ m, as.length ≤ m → sumTo m (fun t => if t ≤ j then rowF as t * rowF bs (j - t) else 0) = sumTo as.length (fun t => if t ≤ j then rowF as t * rowF bs (j - t) else 0) := fun m hm =>
    sumTo_tail _ hm fun t ht => by
      rw [rowF_out ht]
      split <;> grind
  rw [← e2 (max as.length (j + 1)) (Nat.le_max_left _ _), e1 _ (Nat.le_max_right _ _)]
end Ind

set_option Elab.async false
set_option linter.all false
set_option maxRecDepth 100000
set_option maxHeartbeats 4000000
namespace Ind
open PySem PySem.Spec PyProof.Rows L2
section
variable {X : Cx} {CX : CXT} {n : Nat} {C f : Addr} {fd : FuncData} {ps : List Str} {sp : Sp} {E : XK}
/-- an own def that stands for an operator -/
structure OwnOp (X : Cx) (CX : CXT) (n : Nat) (C f : Addr) (m : Str) (fd : FuncData) (ps : List Str) (sp : Sp) (E : XK) : Prop where
  fn : FnOk X.prog X.w X.K X.mg X.base CX n f fd ps sp
  at_ : PySem.W.findIn X.K (.ref C) m = some (some (.ref f))
  isf : PySem.W.isFn X.K (.ref f) = true
  b : Binds X.K fd ps []
  px : Passes CX X E
  first : PySem.W.selfFirst X.K C = true
def rBinO (C : Addr) (sp : Sp) (E : XK) : R2 := fun x y H Q => ∃ a dx fs b dy gs, x = .ref a ∧ y = .ref b ∧ H a = some (.ins C dx fs) ∧ H b = some (.ins C dy gs) ∧ sp [x, y] H Q E
theorem op_binO {op : Operator} {m : Str} (hm : PySem.dunder op.info.2 = m) (G : OwnOp X CX n C f m fd ps sp E) (hr : Room n X.A) : OpR X (binaryOp op) (rBinO C sp E) := by
  intro pins s σ H x y v u Q I rx ry h
  obtain ⟨a, dx, fs, b, dy, gs, rfl, rfl, ha, hb, q⟩ := h
  cases (show v = Value.ref a from rx)
  cases (show u = Value.ref b from ry)
  obtain ⟨mA, O, _⟩ := ins_get I.hok ha
  obtain ⟨od, J, _⟩ := O.look
  obtain ⟨mB, O2, _⟩ := ins_get I.hok hb
  obtain ⟨od2, J2, _⟩ := O2.look
  obtain ⟨mm, hF⟩ := I.fr
  refine PySem.W.binop_K hF I.ok.mod.kin J J2.type G.first (by rw [hm]; exact G.at_) G.isf ?_
  refine wpAny_mono (run_fn (us := [.ref a, .ref b]) (vs := [.ref a, .ref b]) (dvs := []) G.fn hr G.b .nil G.px I (.cons rfl (.cons rfl .nil)) q) (fun w s' z => ?_) fun _ _ e => e
  obtain ⟨z', H', I', rz, qz⟩ := z
  have fin : EP X pins σ Q w s' := ⟨z', H', I', rz, qz⟩
  cases z' with
  | non => cases rz; exact fin
  | bl _ => cases rz; exact fin
  | int _ => obtain ⟨_, rfl⟩ := rz; exact fin
  | str _ => obtain ⟨_, rfl⟩ := rz; exact fin
  | byt _ => obtain ⟨_, rfl⟩ := rz; exact fin
  | flt _ => obtain ⟨_, rfl⟩ := rz; exact fin
  | ref _ => cases rz; exact fin
  | ty _ => cases rz; exact fin
def rNegO (C : Addr) (sp : Sp) (E : XK) : V → Hp → VK → Prop := fun x H Q => ∃ a dx fs, x = .ref a ∧ H a = some (.ins C dx fs) ∧ sp [x] H Q E
theorem un_negO (G : OwnOp X CX n C f "__neg__" fd ps sp E) (hr : Room n X.A) : UnR X (unaryOp .USub) (rNegO C sp E) := by
  intro pins s σ H x v Q I rx h
  obtain ⟨a, dx, fs, rfl, ha, q⟩ := h
  cases (show v = Value.ref a from rx)
  obtain ⟨mA, O, _⟩ := ins_get I.hok ha
  obtain ⟨od, J, _⟩ := O.look
  obtain ⟨mm, hF⟩ := I.fr
  exact PySem.W.ksp_neg hF I.ok.mod.kin J G.at_ G.isf (run_fn (us := [.ref a]) (vs := [.ref a]) (dvs := []) G.fn hr G.b .nil G.px I (.cons rfl .nil) q)
end
/-! ### a method whose error goes to a clause that looks at the slots -/
section
variable {X : Cx} {CX : CXT} {k : Nat} {C f : Addr} {m : Str} {fd : FuncData} {ps : List Str} {sp : Sp} {E : L2.St → XK} {o e : Expr} {es : List Expr} {ta : TE} {t : TA} {apos pos : Pos} {pl : Sem Bool}
def tMethS (C : Addr) (m : Str) (sp : Sp) (E : L2.St → XK) (ta : TE) (t : TA) : TE := fun σ H Q =>
  ta σ H fun x H1 => ∃ a dx fs, x = .ref a ∧ H1 a = some (.ins C dx fs) ∧ fs.lookup m = none ∧ t σ H1 fun vs H2 => sp (x :: vs) H2 Q (E σ)
theorem pe_methS0 (ho : PE X o ta) (c : Cls X.K C) (hm : Meth X.K C m f) (F : FnOk X.prog X.w X.K X.mg X.base CX k f fd ps sp) (hr : Room k X.A) (hb : Binds X.K fd ps []) (hx : ∀ σ, PassesAt CX X σ (E σ))
    (hv : eval (.Call (.Attribute o m apos) [] [] pos) X.env =
      (do let ov ← eval o X.env; standAt apos.atName; let (g, first) ← holding [ov] (getMethod ov m pl); callWith pos g first (backTo pos (starEach [] X.env)) (backToKw pos (keywordEach [] X.env))) := by rfl) :
    PE X (.Call (.Attribute o m apos) [] [] pos) (tMethS C m sp E ta tNil) := by
  constructor
  intro pins s σ H Q I h
  refine PySem.W.methodCall_KW (pl := pl) (thn (ho.run pins s σ H _ I h) fun u s1 z => ?_) hv
  obtain ⟨x, H1, I1, rx, a, dx, fs, rfl, ea, l, q⟩ := z
  cases (show u = Value.ref a from rx)
  exact getmeth_ok I1 ea c hm l (PySem.W.callWith_K0 (first := [.ref a]) I1.kIn hm.kp (run_fnS (us := [.ref a]) (vs := [.ref a]) F hr hb (hx σ) I1 (.cons rfl .nil) q))
theorem pe_methS1 (ho : PE X o ta) (c : Cls X.K C) (hm : Meth X.K C m f) (F : FnOk X.prog X.w X.K X.mg X.base CX k f fd ps sp) (hr : Room k X.A) (hb : Binds X.K fd ps []) (hx : ∀ σ, PassesAt CX X σ (E σ)) (ha : PA X (e :: es) t)
    (hst : starEach (e :: es) X.env = (false, eval e X.env) :: starEach es X.env := by rfl) (hpl : (backTo pos (starEach es X.env)).any (·.1) = false := by rfl)
    (hv : eval (.Call (.Attribute o m apos) (e :: es) [] pos) X.env =
      (do let ov ← eval o X.env; standAt apos.atName; let (g, first) ← holding [ov] (getMethod ov m pl); callWith pos g first (backTo pos (starEach (e :: es) X.env)) (backToKw pos (keywordEach [] X.env))) := by rfl) :
    PE X (.Call (.Attribute o m apos) (e :: es) [] pos) (tMethS C m sp E ta t) := by
  constructor
  intro pins s σ H Q I h
  refine PySem.W.methodCall_KW (pl := pl) (thn (ho.run pins s σ H _ I h) fun u s1 z => ?_) hv
  obtain ⟨x, H1, I1, rx, a, dx, fs, rfl, ea, l, q⟩ := z
  cases (show u = Value.ref a from rx)
  refine getmeth_ok I1 ea c hm l (PySem.W.callWith_K (first := [.ref a]) (h₀ := X.base) I.ok.mod.kin hm.kp (thn (ha.run pos pins s1 σ H1 _ I1 q) fun us s2 z2 => ?_) hst hpl)
  obtain ⟨vs, H2, I2, r, q2⟩ := z2
  exact ⟨I2.kIn, run_fnS (us := .ref a :: us) (vs := .ref a :: vs) F hr hb (hx σ) I2 (.cons rfl r) q2⟩
end
/-- an error that a def lets out goes on to whoever called it -/
theorem pass_on {X : Cx} {E : XK} (hs : X.stack = X.env :: X.outer) (hf : X.env.frame = some X.env.locals) (hex : X.ex = []) (t : Takes X (fun cls d _ H => E cls d H)) : Passes (L2.CX X.prog X.w) X E := passes_call t fun _ _ _ _ h => h
/-! ### lcm of small ints -/
def rLcm : List V → Hp → VK → Prop := fun vs H Q => ∃ a b : Int, vs = [.int a, .int b] ∧ (0 < a ∧ a < 2 ^ 60) ∧ (0 < b ∧ b < 2 ^ 60) ∧ Q (.int ((Nat.lcm a.natAbs b.natAbs : Nat) : Int)) H
theorem cr_lcm {X : Cx} : CallR X (.builtin "math.lcm") rLcm := by
  intro pins s σ H vs us Q I r h
  obtain ⟨a, b, rfl, ha, hb, q⟩ := h
  obtain ⟨t, u, rfl⟩ := Vals.int2 r
  have e : Nat.lcm 1 a.natAbs = a.natAbs := Nat.lcm_one_left _
  have hn : a.natAbs < 2 ^ 60 := by omega
  have hm : b.natAbs < 2 ^ 60 := by omega
  refine PySem.W.mg_lcm (by omega) (by omega) ?_ ?_
  · rw [e]
    have hp : 0 < Nat.lcm a.natAbs b.natAbs := Nat.lcm_pos (by omega) (by omega)
    have hle : Nat.lcm a.natAbs b.natAbs ≤ a.natAbs * b.natAbs := Nat.lcm_le_mul (by omega) (by omega)
    have hlt : a.natAbs * b.natAbs < 2 ^ 120 := Nat.lt_of_lt_of_le (Nat.mul_lt_mul'' hn hm) (by decide)
    have h2 : ((Nat.lcm a.natAbs b.natAbs : Nat) : Int).natAbs < 2 ^ 120 := by
      show Nat.lcm a.natAbs b.natAbs < 2 ^ 120
      omega
    have h3 := PySem.Flt.log2_lt_of (k := 120) (by decide) h2
    exact Nat.lt_of_lt_of_le h3 (by decide)
  · rw [e]
    exact ⟨.int _, H, I.tok _, ⟨_, rfl⟩, q⟩
end Ind

set_option Elab.async false
set_option linter.all false
namespace Ind
/-! ### division with remainder: one quotient, one remainder; multiplicities -/
/-- nothing from n on -/
def Fs (f : Fr) (n : Nat) : Prop := ∀ j, n ≤ j → f j = 0
theorem Fs.mono {f : Fr} {m n : Nat} (h : Fs f m) (l : m ≤ n) : Fs f n := fun j hj => h j (Nat.le_trans l hj)
theorem sumTo_only {f : Fr} {n : Nat} : ∀ {N : Nat}, n < N → (∀ t, t < N → t ≠ n → f t = 0) → sumTo N f = f n
  | 0, h, _ => absurd h (Nat.not_lt_zero _)
  | N + 1, h, z => by
    show sumTo N f + f N = f n
    by_cases e : n = N
    · subst e
      rw [sumTo_congr (g := fun _ => 0) fun j hj => z j (by omega) (by omega), sumTo_zero]
      grind
    · rw [sumTo_only (by omega) fun t ht hn => z t (by omega) hn, z N (by omega) (fun q => e q.symm)]
      grind
theorem cv_out {u b : Fr} {m n : Nat} (hu : Fs u n) (hb : Fs b m) : Fs (cv u b) (n + m) := fun j hj => by
  unfold cv
  rw [sumTo_congr (g := fun _ => 0) fun t _ => by
    by_cases c : n ≤ t
    · rw [hu t c]
      grind
    · rw [hb (j - t) (by omega)]
      grind]
  exact sumTo_zero _
theorem cv_top {u b : Fr} {m n : Nat} (hu : Fs u (n + 1)) (hb : Fs b (m + 1)) : cv u b (n + m) = u n * b m := by
  unfold cv
  rw [sumTo_only (n := n) (by omega) fun t _ hn => ?_]
  · rw [show n + m - n = m by omega]
  · by_cases c : n < t
    · rw [hu t c]
      grind
    · rw [hb (n + m - t) (by omega)]
      grind
theorem cv_zl (b : Fr) (j : Nat) : cv (fun _ => 0) b j = 0 := by
  unfold cv
  rw [sumTo_congr (g := fun _ => 0) fun t _ => by grind]
  exact sumTo_zero _
theorem uniq0 {u b : Fr} {m : Nat} (hb : Fs b (m + 1)) (h0 : b m ≠ 0) : ∀ N, Fs u N → (∀ j, m ≤ j → cv u b j = 0) → ∀ j, u j = 0
  | 0, hu, _ => fun j => hu j (Nat.zero_le _)
  | N + 1, hu, h => by
    have h1 := h (N + m) (by omega)
    rw [cv_top hu hb] at h1
    have h2 : u N = 0 := by
      rcases Rat.mul_eq_zero.mp h1 with e | e
      · exact e
      · exact absurd e h0
    refine uniq0 hb h0 N (fun j hj => ?_) h
    by_cases e : j = N
    · rw [e, h2]
    · exact hu j (by omega)
theorem div_uniq {s r s' r' b : Fr} {m N : Nat} (hb : Fs b (m + 1)) (h0 : b m ≠ 0) (hs : Fs s N) (hs' : Fs s' N) (hr : Fs r m) (hr' : Fs r' m) (h : ∀ j, cv s b j + r j = cv s' b j + r' j) : (∀ j, s j = s' j) ∧ ∀ j, r j = r' j := by
  have key : ∀ j, (fun j => (-1 : Rat) * s' j + s j) j = 0 := uniq0 hb h0 N (fun j hj => by
    show (-1 : Rat) * s' j + s j = 0
    rw [hs j hj, hs' j hj]
    grind) fun j hj => by
    rw [cv_lin]
    have := h j
    rw [hr j hj, hr' j hj] at this
    grind
  have e : ∀ j, s j = s' j := fun j => by
    have := key j
    grind
  refine ⟨e, fun j => ?_⟩
  have := h j
  rw [funext e] at this
  grind
theorem cancel {u v b : Fr} {m N : Nat} (hb : Fs b (m + 1)) (h0 : b m ≠ 0) (hu : Fs u N) (hv : Fs v N) (h : ∀ j, cv u b j = cv v b j) : ∀ j, u j = v j :=
  (div_uniq (r := fun _ => 0) (r' := fun _ => 0) hb h0 hu hv (fun _ _ => rfl) (fun _ _ => rfl) fun j => by rw [h j]).1
theorem fs_one : Fs one1 1 := fun j hj => by
  show (if j = 0 then (1 : Rat) else 0) = 0
  rw [if_neg (by omega)]
theorem fs_pw {b : Fr} {m : Nat} (hb : Fs b m) : ∀ k, ∃ n, Fs (pw b k) n
  | 0 => ⟨1, fs_one⟩
  | k + 1 => by
    obtain ⟨n, h⟩ := fs_pw hb k
    exact ⟨n + m, cv_out h hb⟩
theorem pw_swap (b p : Fr) (k : Nat) : cv (pw b (k + 1)) p = cv (cv (pw b k) p) b := funext fun j => by
  show cv (cv (pw b k) b) p j = _
  rw [cv_assoc, cv_assoc, funext (cv_comm b p)]
theorem cancel_pw {b p y : Fr} {m : Nat} (hb : Fs b (m + 1)) (h0 : b m ≠ 0) {n : Nat} (hp : Fs p n) (hy : Fs y n) : ∀ k, (∀ j, cv (pw b k) p j = cv (pw b k) y j) → ∀ j, p j = y j
  | 0, h => fun j => by
    have := h j
    rw [show pw b 0 = one1 from rfl, cv_one, cv_one] at this
    exact this
  | k + 1, h => by
    obtain ⟨t, ht⟩ := fs_pw hb k
    refine cancel_pw hb h0 hp hy k (cancel hb h0 (cv_out ht hp) (cv_out ht hy) fun j => ?_)
    rw [← pw_swap, ← pw_swap]
    exact h j
/-- b does not divide p -/
def Nd (b p : Fr) : Prop := ∀ (x : Fr) (N : Nat), Fs x N → ¬ ∀ j, cv x b j = p j
theorem nd_of {s r p b : Fr} {m N : Nat} (hb : Fs b (m + 1)) (h0 : b m ≠ 0) (hs : Fs s N) (hr : Fs r m) (h : ∀ j, p j = cv s b j + r j) {i : Nat} (hi : r i ≠ 0) : Nd b p := fun x M hx z => by
  have := (div_uniq (s := s) (r := r) (s' := x) (r' := fun _ => 0) (N := max N M) hb h0 (hs.mono (Nat.le_max_left _ _)) (hx.mono (Nat.le_max_right _ _)) hr (fun _ _ => rfl) fun j => by
    rw [← h j, z j]
    grind).2 i
  exact hi this
theorem mult_le {b p c : Fr} {m : Nat} (hb : Fs b (m + 1)) (h0 : b m ≠ 0) {n : Nat} (hp : Fs p n) (hc : Fs c n) (np : Nd b p) {k l : Nat} (h : ∀ j, cv (pw b k) p j = cv (pw b l) c j) : l ≤ k := by
  apply Nat.le_of_not_lt
  intro hl
  obtain ⟨e, rfl⟩ : ∃ e, l = k + (e + 1) := ⟨l - k - 1, by omega⟩
  obtain ⟨t, ht⟩ := fs_pw hb e
  obtain ⟨t2, ht2⟩ := fs_pw hb (e + 1)
  have key := cancel_pw (p := p) (y := cv (pw b (e + 1)) c) hb h0 (n := max n (t2 + n)) (hp.mono (Nat.le_max_left _ _)) ((cv_out ht2 hc).mono (Nat.le_max_right _ _)) k fun j => by
    rw [← cv_assoc, pw_add]
    exact h j
  exact np (cv (pw b e) c) _ (cv_out ht hc) fun j => by
    rw [key j, pw_swap]
theorem mult_eq {b p c : Fr} {m : Nat} (hb : Fs b (m + 1)) (h0 : b m ≠ 0) {n : Nat} (hp : Fs p n) (hc : Fs c n) (np : Nd b p) (nc : Nd b c) {k l : Nat} (h : ∀ j, cv (pw b k) p j = cv (pw b l) c j) : k = l :=
  Nat.le_antisymm (mult_le hb h0 hc hp nc fun j => (h j).symm) (mult_le hb h0 hp hc np h)
end Ind

set_option Elab.async false
set_option linter.all false
set_option maxRecDepth 100000
set_option maxHeartbeats 4000000
namespace Ind
open PySem PySem.Spec PyProof.Rows L2
open Builtin.Int (intBits)
/-! ### one step of a division of rows -/
theorem cv_delta (b : Fr) (s : Rat) (a j : Nat) : cv (fun t => if t = a then s else 0) b j = if a ≤ j then s * b (j - a) else 0 := by
  unfold cv
  by_cases c : a ≤ j
  · rw [if_pos c, sumTo_only (n := a) (by omega) fun t _ hn => by
      show (if t = a then s else 0) * _ = 0
      rw [if_neg hn]
      grind]
    show (if a = a then s else 0) * _ = _
    rw [if_pos rfl]
  · rw [if_neg c, sumTo_congr (g := fun _ => 0) fun t ht => by
      show (if t = a then s else 0) * _ = 0
      rw [if_neg (by omega)]
      grind]
    exact sumTo_zero _
theorem ld_step {A b R Q R' Q' : Fr} {c s : Rat} {a : Nat} (h : ∀ j, c * A j = cv Q b j + R j) (hq : ∀ j, Q' j = Q j + if j = a then s else 0) (hr : ∀ j, R' j = R j - if a ≤ j then s * b (j - a) else 0) (j : Nat) : c * A j = cv Q' b j + R' j := by
  have e : Q' = fun t => (1 : Rat) * (fun t => if t = a then s else 0) t + Q t := funext fun t => by
    rw [hq t]
    grind
  rw [hr j, e, cv_lin, cv_delta, h j]
  grind
theorem ld_scale {A b R Q R' Q' : Fr} {c c' f : Rat} (h : ∀ j, c * A j = cv Q b j + R j) (hc : c' = c * f) (hq : ∀ j, Q' j = f * Q j) (hr : ∀ j, R' j = f * R j) (j : Nat) : c' * A j = cv Q' b j + R' j := by
  have e : Q' = fun t => f * Q t + (fun _ => 0) t := funext fun t => by
    rw [hq t]
    grind
  rw [hr j, e, cv_lin, cv_zl, hc]
  have := h j
  grind
theorem ld_num {x l : Int} {m : Nat} (hl : l ≠ 0) (hm : intBits l ≤ m) : ∃ f s : Int, ((l.natAbs : Nat) : Int).fdiv ((Nat.gcd x.natAbs l.natAbs : Nat) : Int) = f ∧ 0 < f ∧ intBits f ≤ m ∧ (f * x).fdiv l = s ∧ s * l = f * x ∧ s.natAbs ≤ x.natAbs ∧ 0 < Nat.gcd x.natAbs l.natAbs ∧ intBits ((Nat.gcd x.natAbs l.natAbs : Nat) : Int) ≤ m := by
  have hg : 0 < Nat.gcd x.natAbs l.natAbs := Nat.gcd_pos_of_pos_right _ (by omega)
  obtain ⟨l', el⟩ := Nat.gcd_dvd_right x.natAbs l.natAbs
  obtain ⟨x', ex⟩ := Nat.gcd_dvd_left x.natAbs l.natAbs
  generalize Nat.gcd x.natAbs l.natAbs = g at hg el ex ⊢
  have hf : ((l.natAbs : Nat) : Int).fdiv ((g : Nat) : Int) = (l' : Int) := by
    rw [el, Int.natCast_mul, Int.mul_comm (g : Int), Int.mul_fdiv_cancel _ (by omega)]
  have hl' : 0 < l' := by
    rcases Nat.eq_zero_or_pos l' with e | e
    · rw [e, Nat.mul_zero] at el
      omega
    · exact e
  have d : l ∣ (l' : Int) * x := by
    refine Int.natAbs_dvd_natAbs.mp ⟨x', ?_⟩
    rw [Int.natAbs_mul, Int.natAbs_natCast, ex, el]
    rw [Nat.mul_comm g l', Nat.mul_assoc]
  obtain ⟨s, hs⟩ := d
  refine ⟨(l' : Int), s, hf, by omega, ?_, ?_, ?_, ?_, hg, ?_⟩
  · refine PySem.intBits_le_of_natAbs (y := l) ?_ hm
    rw [Int.natAbs_natCast, el]
    exact Nat.le_mul_of_pos_left _ hg
  · rw [hs, Int.mul_comm l, Int.mul_fdiv_cancel _ hl]
  · rw [hs, Int.mul_comm]
  · have h1 : l.natAbs * s.natAbs = l' * x.natAbs := by
      rw [← Int.natAbs_mul, ← hs, Int.natAbs_mul, Int.natAbs_natCast]
    have h2 : g * (l' * s.natAbs) = g * (l' * x') := by
      rw [← Nat.mul_assoc, ← el, h1, ex]
      rw [← Nat.mul_assoc, ← Nat.mul_assoc, Nat.mul_comm l' g]
    have h3 := Nat.eq_of_mul_eq_mul_left hl' (Nat.eq_of_mul_eq_mul_left hg h2)
    rw [h3, ex]
    exact Nat.le_mul_of_pos_left _ hg
  · refine PySem.intBits_le_of_natAbs (y := l) ?_ hm
    rw [Int.natAbs_natCast, el]
    exact Nat.le_mul_of_pos_right _ hl'
theorem bits_sub {x y : Int} {m n : Nat} (h1 : intBits x ≤ m) (h2 : intBits y ≤ n) : intBits (x - y) ≤ max m n + 1 := by
  rw [Int.sub_eq_add_neg]
  exact PySem.intBits_add_le h1 (PySem.intBits_neg_le h2)
abbrev sLd : Stmt := top 16
def spLd : Sp := fun vs H Q _ => ∃ (p q : Addr) (as bs : List Int) (m k d : Nat), vs = [.ref p, .ref q] ∧ H p = some (.tup (as.map V.int)) ∧ H q = some (.tup (bs.map V.int)) ∧ bs.length = m + 1 ∧ bs.getD m 0 ≠ 0 ∧ as.length ≤ 60 ∧ bs.length ≤ 60 ∧
  (∀ n ∈ as, intBits n ≤ k) ∧ (∀ n ∈ bs, intBits n ≤ d) ∧ k ≤ 100000 ∧ d ≤ 5000 ∧
  ∀ (H' : Hp) (t lq lr : Addr) (qs rs : List Int) (c : Int), Same H H' → H' t = some (.tup [.ref lq, .ref lr, .int c]) → H' lq = some (.lst (qs.map V.int)) → H' lr = some (.lst (rs.map V.int)) → 0 < c → qs.length = as.length - m → rs.length ≤ m →
    (∀ n ∈ qs, intBits n ≤ k + (as.length - m) * (d + 1)) → (∀ n ∈ rs, intBits n ≤ k + (as.length - m) * (d + 1)) → intBits c ≤ 1 + (as.length - m) * d → (∀ j, ((c : Int) : Rat) * fr as j = cv (fr qs) (fr bs) j + fr rs j) → Q (.ref t) H'
end Ind

set_option Elab.async false
set_option linter.all false
set_option maxRecDepth 100000
set_option maxHeartbeats 4000000
set_option exponentiation.threshold 9000
namespace Ind
open PySem PySem.Spec PyProof.Rows L2
open Builtin.Int (intBits)
section
variable {P : Program} {w : World} {K : PySem.W.Frag} {mg : Str → Option Value} {base : Heap} {C Z CP : Addr}
abbrev nLd : List Str := ["a", "b", "rest", "quotient", "scale", "last", "at", "factor", "share", "k", "_", "n"]
theorem scLd : FnScope nLd ["a", "b"] (defScope sLd) := ⟨rfl, rfl, rfl, by decide +kernel, rfl, by decide +kernel, by decide +kernel⟩
theorem last_at {ns : List Int} {x : Int} {n : Nat} (hl : ns.length = n + 1) (h : ns.getD n 0 = x) : atI (ns.map V.int) (-1) = some (V.int x) := by
  obtain ⟨u, hu⟩ : ∃ u, ns[n]? = some u := ⟨_, List.getElem?_eq_getElem (by omega)⟩
  have eu : u = x := by
    rw [List.getD_eq_getElem?_getD, hu] at h
    exact h
  subst eu
  have e : ns = ns.take n ++ [u] := by
    rw [← take_snoc hu, List.take_of_length_le (by omega)]
  rw [e, List.map_append]
  exact atI_last _ _
theorem fresh_back {H H' : Hp} {G : Addr} (s : Same H H') (h : H' G = none) : H G = none := by
  cases e : H G with
  | none => rfl
  | some o =>
    rw [s _ _ e] at h
    cases h
theorem rep_at (L t : Nat) : (List.replicate L (0 : Int)).getD t 0 = 0 := by
  rw [List.getD_eq_getElem?_getD, List.getElem?_replicate]
  split <;> rfl
theorem drop_at (ns : List Int) (j : Nat) : (ns.dropLast).getD j 0 = if j + 1 < ns.length then ns.getD j 0 else 0 := by
  rw [List.getD_eq_getElem?_getD, List.getD_eq_getElem?_getD, List.getElem?_dropLast]
  by_cases c : j < ns.length - 1
  · rw [if_pos c, if_pos (by omega)]
  · rw [if_neg c, if_neg (by omega)]
    rfl
theorem ok_ld {f fT : Addr} {fd fdT : FuncData} (F : Fun K "long_division" "long_division" sLd f fd) (T : TxL K mg) (TP : TxP K mg CP) (gg : mg "gcd" = some (.builtin "math.gcd")) (GT : FnOk P w K mg base CX0 1 fT fdT ["row"] spTrim) (kT : PySem.W.keepIn K (.ref fT) = true) (bT : Binds K fdT ["row"] []) (gT : mg "trimmed" = some (.ref fT)) : FnOk P w K mg base CX0 2 f fd ["a", "b"] spLd := by
  refine F.ok scLd (fun vs H Q E h => ?_) (fun cdv A outer s0 H vs Q E hr h => ?_)
  · obtain ⟨p, q, as, bs, m, k, d, rfl, _⟩ := h
    rfl
  · obtain ⟨p, q, as, bs, m, kk, d, rfl, hp, hq, hbl, hb0, ha1, hb1, ha, hb, hk, hd, k⟩ := h
    refine ⟨_, pss_cons (ps_set (i := 2) scLd.nd rfl (Or.inl rfl) (pe_callTy call_list_of (by rfl) TP.list (by decide +kernel) (pa_cons (pv 0) pa_nil)))
      (pss_cons (ps_setLc (i := 3) (own := [("_", 10)]) (g := gName 10) (tt := tYes) rfl scLd.nd rfl rfl rfl (pi_range1 (by rfl) T.range (pa_cons (pe_op op_add (pe_op op_sub (pe_callB call_len_seq (by rfl) T.len PySem.boot_len (pa_cons (pv 0) pa_nil)) (pe_callB call_len_seq (by rfl) T.len PySem.boot_len (pa_cons (pv 1) pa_nil))) pe_int) pa_nil)) (blkOk_by (N := nLd) (sc := defScope sLd) (by decide +kernel))
          (fun _ _ _ _ _ => pg_name (i := 10) scLd.nd rfl (Or.inl rfl)) (fun _ _ _ _ _ => pts_nil) (fun _ _ _ _ _ => pe_int))
      (pss_cons (ps_set (i := 4) scLd.nd rfl (Or.inl rfl) pe_int)
      (pss_cons (ps_set (i := 5) scLd.nd rfl (Or.inl rfl) (pe_ix ix_tup (pv 1) (pe_un un_neg pe_int) fun _ _ => rfl))
      (pss_cons (ps_for PassesOwn.never rfl (pi_range3 (by rfl) T.range (pa_cons (pe_op op_sub (pe_callB call_len_seq (by rfl) T.len PySem.boot_len (pa_cons (pv 0) pa_nil)) (pe_callB call_len_seq (by rfl) T.len PySem.boot_len (pa_cons (pv 1) pa_nil))) (pa_cons (pe_un un_neg pe_int) (pa_cons (pe_un un_neg pe_int) pa_nil)))) (pg_name (i := 6) scLd.nd rfl (Or.inl rfl))
        (pss_cons (ps_set (i := 7) scLd.nd rfl (Or.inr rfl) (pe_op op_fdivC (pe_callB call_abs (by rfl) T.abs (by decide +kernel) (pa_cons (pv 5) pa_nil)) (pe_callBfun cr_gcd (by rfl) gg (pa_cons (pe_ix ix_list (pv 2) (pe_un un_neg pe_int) fun _ _ => rfl) (pa_cons (pv 5) pa_nil)))))
        (C8.pss_cut (ps_if (pt_cmpR op_ne (pv 7) pe_int (nomark _))
            (pss_cons (ps_setLc (i := 2) (own := [("n", 11)]) (g := gName 11) (tt := tYes) rfl scLd.nd rfl rfl rfl (pi_list (pv 2)) (blkOk_by (N := nLd) (sc := defScope sLd) (by decide +kernel))
              (fun _ _ _ _ _ => pg_name (i := 11) scLd.nd rfl (Or.inl rfl)) (fun _ _ _ _ _ => pts_nil) (fun _ _ _ _ _ => pe_op op_mulB (pv 7) (pv 11)))
            (pss_cons (ps_setLc (i := 3) (own := [("n", 11)]) (g := gName 11) (tt := tYes) rfl scLd.nd rfl rfl rfl (pi_list (pv 3)) (blkOk_by (N := nLd) (sc := defScope sLd) (by decide +kernel))
              (fun _ _ _ _ _ => pg_name (i := 11) scLd.nd rfl (Or.inl rfl)) (fun _ _ _ _ _ => pts_nil) (fun _ _ _ _ _ => pe_op op_mulB (pv 7) (pv 11)))
            (pss_one (ps_set (i := 4) scLd.nd rfl (Or.inl rfl) (pe_op op_mulB (pv 4) (pv 7)))))) pss_nil)
        (pss_cons (ps_set (i := 8) scLd.nd rfl (Or.inl rfl) (pe_op op_fdivC (pe_ix ix_list (pv 2) (pe_un un_neg pe_int) fun _ _ => rfl) (pv 5)))
        (pss_cons (ps_asg (pv 8) (pg_sub (pv 3) (pv 6) set_list))
        (C8.pss_cut (ps_if (pt_cmpR op_ne (pv 8) pe_int (nomark _)) (pss_one (ps_for PassesOwn.never rfl (pi_range1 (by rfl) T.range (pa_cons (pe_op op_sub (pe_callB call_len_seq (by rfl) T.len PySem.boot_len (pa_cons (pv 1) pa_nil)) pe_int) pa_nil)) (pg_name (i := 9) scLd.nd rfl (Or.inl rfl))
            (pss_one (ps_asg (pe_op op_sub (pe_ix ix_list (pv 2) (pe_op op_add (pv 6) (pv 9)) fun _ _ => rfl) (pe_op op_mulB (pv 8) (pe_ix ix_tup (pv 1) (pv 9) fun _ _ => rfl))) (pg_sub (pv 2) (pe_op op_add (pv 6) (pv 9)) set_list))))) pss_nil)
        (pss_one (ps_expr (pe_bm0 PySem.F.plainAttrs_list PySem.F.slot_list_pop PySem.F.type_list_pop mt_pop (pv 2))))))))))
      (pss_one (ps_ret (pe_tup (pa_cons (pv 3) (pa_cons (pe_call GT hr (by rfl) gT kT bT .nil pass0 (pa_cons (pv 2) pa_nil)) (pa_cons (pv 4) pa_nil)))))))))), ?_⟩
    obtain ⟨l, el⟩ : ∃ l, bs.getD m 0 = l := ⟨_, rfl⟩
    rw [el] at hb0
    have bl : intBits l ≤ d := by rw [← el]; exact bits_getD hb m
    refine ⟨_, rfl, p, _, rfl, .inr (SqT.of hp), fun D1 hD1 => ?_⟩
    have sD1 : Same H (upd H D1 (.lst (as.map V.int))) := same_upd hD1
    refine ⟨_, rfl, p, _, rfl, .inr (SqT.of (sD1 _ _ hp)), _, rfl, q, _, rfl, .inr (SqT.of (sD1 _ _ hq)), _, _, rfl, rfl, _, _, rfl, rfl, _, rfl, ?_, ?_, fun D2 hD2 => ?_⟩
    · rw [List.length_map, List.length_map]
      omega
    · rw [List.length_map, List.length_map]
      omega
    rw [List.length_map, List.length_map, show ((as.length : Int) - (bs.length : Int) + 1).toNat = as.length - m by omega]
    obtain ⟨L, hL⟩ : ∃ L, as.length - m = L := ⟨_, rfl⟩
    rw [hL] at k ⊢
    refine lc_range (lo := 0) (n := L) (fun i H2 => ColI D2 (upd H D1 (.lst (as.map V.int))) H2 (List.replicate i 0)) (ColI.start hD2) ?_ ?_
    · intro i H2 hi z
      refine ⟨rfl, ?_⟩
      rw [List.replicate_succ']
      refine z.push (n := 0) hD2 same_rfl ?_
      rw [List.length_replicate]
      omega
    rintro H2 z
    have hD2H : H D2 = none := fresh_back sD1 hD2
    have nD : D1 ≠ D2 := ne_of_none upd_same hD2
    have hp2 := z.s _ _ (sD1 _ _ hp)
    have hq2 := z.s _ _ (sD1 _ _ hq)
    refine ⟨_, rfl, _, rfl, q, _, _, V.int l, rfl, rfl, SqT.of hq2, last_at hbl el, ?_⟩
    refine ⟨_, rfl, p, _, rfl, .inr (SqT.of hp2), _, rfl, q, _, rfl, .inr (SqT.of hq2), _, _, rfl, rfl, _, rfl, _, rfl, _, _, _, _, rfl, RgC.neg (by rw [List.length_map, List.length_map]; omega) (by rw [List.length_map, List.length_map]; omega) (by decide) (by decide), ?_⟩
    rw [List.length_map, List.length_map, show ((as.length : Int) - (bs.length : Int) - -1).toNat = L by omega]
    refine for_it (walk_rangeC (lo := (as.length : Int) - (bs.length : Int)) (c := -1) (n := L))
      (fun i σ H5 => ∃ (E1 E2 : Addr) (rs qs : List Int) (c : Int) (v6 v7 v8 v9 : Option V), σ = [some (.ref p), some (.ref q), some (.ref E1), some (.ref E2), some (.int c), some (.int l), v6, v7, v8, v9, none, none] ∧ Same H H5 ∧ H E1 = none ∧ H E2 = none ∧ E1 ≠ E2 ∧
        H5 E1 = some (.lst (rs.map V.int)) ∧ H5 E2 = some (.lst (qs.map V.int)) ∧ rs.length = as.length - i ∧ qs.length = L ∧ (∀ n ∈ rs, intBits n ≤ kk + i * (d + 1)) ∧ (∀ n ∈ qs, intBits n ≤ kk + i * (d + 1)) ∧ 0 < c ∧ intBits c ≤ 1 + i * d ∧ (∀ t, t < L - i → qs.getD t 0 = 0) ∧
        ∀ j, ((c : Int) : Rat) * fr as j = cv (fr qs) (fr bs) j + fr rs j)
      ⟨D1, D2, as, List.replicate L 0, 1, none, none, none, none, rfl, sD1.trans z.s, hD1, hD2H, nD, z.s _ _ upd_same, z.at_, by omega, List.length_replicate .., fun n hn => Nat.le_trans (ha n hn) (Nat.le_add_right _ _), fun n hn => by
        rw [List.eq_of_mem_replicate hn]
        exact Nat.zero_le _, by decide, Nat.le_trans (show intBits 1 ≤ 1 by decide) (Nat.le_add_right _ _), fun t _ => rep_at L t, fun j => by
        rw [show fr (List.replicate L 0) = fun _ => 0 from funext fun t => by
          unfold fr
          rw [rep_at]
          rfl, cv_zl]
        show (1 : Rat) * _ = _
        grind⟩ (fun i σ H5 _ _ => trivial) ?_ ?_
    · rintro i x0 σ H0 H5 hi ⟨E1, E2, rs, qs, c, v6, v7, v8, v9, rfl, s5, f1, f2, nE, e1, e2, hrl, hql, hrb, hqb, hc0, hcb, hqz, hid⟩ y
      obtain ⟨rfl, ey⟩ := y
      obtain ⟨a, ea⟩ : ∃ a : Nat, L = a + 1 + i := ⟨L - 1 - i, by omega⟩
      have eat : (as.length : Int) - (bs.length : Int) + (i : Nat) * (-1) = ((a : Nat) : Int) := by omega
      have hrl' : rs.length = a + m + 1 := by omega
      obtain ⟨x, ex⟩ : ∃ x, rs.getD (a + m) 0 = x := ⟨_, rfl⟩
      have bx : intBits x ≤ kk + i * (d + 1) := by rw [← ex]; exact bits_getD hrb _
      obtain ⟨f, s, ef, hf0, hfb, es, hsl, hsx, hg0, hgb⟩ := ld_num (x := x) hb0 bl
      have hi60 : i * (d + 1) ≤ 60 * 5001 := Nat.mul_le_mul (by omega) (by omega)
      have hi61 : i * d ≤ 60 * 5000 := Nat.mul_le_mul (by omega) (by omega)
      generalize hR : kk + i * (d + 1) = R at hrb hqb bx
      have bs_ : intBits s ≤ R := PySem.intBits_le_of_natAbs hsx bx
      have ey2 : x0 = V.int ((a : Nat) : Int) := ey.trans (by show V.int _ = _; rw [eat])
      subst ey2
      refine ⟨_, rfl, _, rfl, _, rfl, _, rfl, E1, _, _, V.int x, rfl, rfl, SqL.of e1, last_at hrl' ex, _, rfl, _, _, rfl, _, _, rfl, rfl, ⟨by omega, by omega⟩, ?_⟩
      dsimp only
      rw [abs_nat, ef]
      refine ⟨fun σ' H6 => ∃ (E1 E2 : Addr) (rs1 qs1 : List Int) (c1 : Int), σ' = [some (.ref p), some (.ref q), some (.ref E1), some (.ref E2), some (.int c1), some (.int l), some (.int (a : Int)), some (.int f), v8, v9, none, none] ∧ Same H H6 ∧ H E1 = none ∧ H E2 = none ∧ E1 ≠ E2 ∧
        H6 E1 = some (.lst (rs1.map V.int)) ∧ H6 E2 = some (.lst (qs1.map V.int)) ∧ rs1.length = a + m + 1 ∧ qs1.length = L ∧ (∀ n ∈ rs1, intBits n ≤ R + d) ∧ (∀ n ∈ qs1, intBits n ≤ R + d) ∧ 0 < c1 ∧ intBits c1 ≤ 1 + i * d + d ∧ (∀ t, t < L - i → qs1.getD t 0 = 0) ∧
        (∀ j, ((c1 : Int) : Rat) * fr as j = cv (fr qs1) (fr bs) j + fr rs1 j) ∧ rs1.getD (a + m) 0 = f * x, ?_, ?_⟩
      · refine ⟨_, rfl, rfl, _, rfl, ?_⟩
        by_cases cf : f = 1
        · rw [show decide (V.int f = V.int 1) = true from decide_eq_true (by rw [cf])]
          refine iteF ⟨E1, E2, rs, qs, c, rfl, s5, f1, f2, nE, e1, e2, hrl', hql, fun n hn => Nat.le_trans (hrb n hn) (Nat.le_add_right _ _), fun n hn => Nat.le_trans (hqb n hn) (Nat.le_add_right _ _), hc0, by omega, hqz, hid, ?_⟩
          rw [ex, cf]
          omega
        · rw [show decide (V.int f = V.int 1) = false from decide_eq_false (fun z => cf (V.int.inj z))]
          refine iteT ?_
          have mapb : ∀ {ns : List Int}, (∀ n ∈ ns, intBits n ≤ R) → ∀ u ∈ ns.map (fun n => f * n), intBits u ≤ R + d := fun {ns} h u hu => by
            obtain ⟨n, hn, rfl⟩ := List.mem_map.mp hu
            have := PySem.intBits_mul_le hfb (h n hn)
            omega
          refine ⟨_, rfl, E1, rfl, ⟨_, SqL.of e1⟩, fun G1 hG1 => lc_list (K := K) (a := E1) (xs := rs.map V.int) (fun t H6 => ColI G1 H5 H6 ((rs.take t).map fun n => f * n)) (ColI.start hG1) (fun t H6 _ z => z.s.seq (SqL.of e1)) ?_ ?_⟩
          · rintro t y H6 hy z
            obtain ⟨n, hn, rfl⟩ := int_of hy
            have hi := (List.getElem?_eq_some_iff.mp hn).1
            have bn := hrb n (List.mem_of_getElem? hn)
            refine ⟨rfl, _, rfl, _, rfl, _, _, rfl, rfl, (by show intBits f + intBits n ≤ 134217728; omega), ?_⟩
            rw [map_take_snoc hn]
            refine z.push hG1 same_rfl ?_
            rw [List.length_map, List.length_take]
            omega
          rintro H6 z1
          rw [List.length_map, List.take_length] at z1
          have e26 := z1.s _ _ e2
          refine ⟨_, rfl, E2, rfl, ⟨_, SqL.of e26⟩, fun G2 hG2 => lc_list (K := K) (a := E2) (xs := qs.map V.int) (fun t H7 => ColI G2 H6 H7 ((qs.take t).map fun n => f * n)) (ColI.start hG2) (fun t H7 _ z => z.s.seq (SqL.of e26)) ?_ ?_⟩
          · rintro t y H7 hy z
            obtain ⟨n, hn, rfl⟩ := int_of hy
            have hi := (List.getElem?_eq_some_iff.mp hn).1
            have bn := hqb n (List.mem_of_getElem? hn)
            refine ⟨rfl, _, rfl, _, rfl, _, _, rfl, rfl, (by show intBits f + intBits n ≤ 134217728; omega), ?_⟩
            rw [map_take_snoc hn]
            refine z.push hG2 same_rfl ?_
            rw [List.length_map, List.length_take]
            omega
          rintro H7 z2
          rw [List.length_map, List.take_length] at z2
          have bc := PySem.intBits_mul_le hcb hfb
          refine ⟨_, rfl, _, rfl, _, _, rfl, rfl, (by show intBits c + intBits f ≤ 134217728; omega), ?_⟩
          have fG1 : H G1 = none := fresh_back s5 hG1
          have fG2 : H G2 = none := fresh_back (s5.trans z1.s) hG2
          refine ⟨G1, G2, _, _, c * f, rfl, (s5.trans z1.s).trans z2.s, fG1, fG2, ne_of_none z1.at_ hG2, z2.s _ _ z1.at_, z2.at_, by rw [List.length_map]; exact hrl', by rw [List.length_map]; exact hql, mapb hrb, mapb hqb, Int.mul_pos hc0 hf0, bc, fun t ht => ?_, ?_, ?_⟩
          · rw [getD_map (f := fun n => f * n) (by omega), hqz t ht]
            omega
          · exact ld_scale hid (f := ((f : Int) : Rat)) (by rw [Rat.intCast_mul]) (fun j => by
              unfold fr
              rw [getD_map (f := fun n => f * n) (by omega), Rat.intCast_mul]) (fun j => by
              unfold fr
              rw [getD_map (f := fun n => f * n) (by omega), Rat.intCast_mul])
          · rw [getD_map (f := fun n => f * n) (by omega), ex]
      clear hid hrb hqb e1 e2 f1 f2 nE hql hqz hcb hc0 s5 ex hrl hrl'
      rintro σ' H6 ⟨E1, E2, rs1, qs1, c1, rfl, s6, f1, f2, nE, e1, e2, hrl, hql, hrb, hqb, hc0, hcb, hqz, hid, hx⟩
      refine ⟨_, rfl, _, rfl, E1, _, _, V.int (f * x), rfl, rfl, SqL.of e1, last_at hrl hx, _, rfl, _, _, rfl, rfl, ⟨hb0, by omega⟩, ?_⟩
      dsimp only
      rw [es]
      refine ⟨_, rfl, _, rfl, _, rfl, E2, qs1.map V.int, _, a, rfl, rfl, e2, ixN_of (by rw [List.length_map]; omega), ?_⟩
      have hq0 : qs1.getD a 0 = 0 := hqz a (by omega)
      have s7 : Same H (upd H6 E2 (.lst ((qs1.map V.int).set a (V.int s)))) := fun b o e => by
        rw [upd_ne (ne_of_none e f2)]
        exact s6 b o e
      have e17 : (upd H6 E2 (.lst ((qs1.map V.int).set a (V.int s)))) E1 = some (.lst (rs1.map V.int)) := by
        rw [upd_ne nE]
        exact e1
      have e27 : (upd H6 E2 (.lst ((qs1.map V.int).set a (V.int s)))) E2 = some (.lst ((qs1.set a s).map V.int)) := by
        rw [upd_same, List.map_set]
      generalize (upd H6 E2 (.lst ((qs1.map V.int).set a (V.int s)))) = H7 at s7 e17 e27 ⊢
      refine ⟨fun σ' H8 => ∃ (v9 : Option V) (rs2 : List Int), σ' = [some (.ref p), some (.ref q), some (.ref E1), some (.ref E2), some (.int c1), some (.int l), some (.int (a : Int)), some (.int f), some (.int s), v9, none, none] ∧ Same H H8 ∧
        H8 E1 = some (.lst (rs2.map V.int)) ∧ H8 E2 = some (.lst ((qs1.set a s).map V.int)) ∧ rs2.length = a + m + 1 ∧ ∀ j, rs2.getD j 0 = rs1.getD j 0 - if a ≤ j ∧ j < a + m then s * bs.getD (j - a) 0 else 0, ?_, ?_⟩
      · refine ⟨_, rfl, rfl, _, rfl, ?_⟩
        by_cases cs : s = 0
        · rw [show decide (V.int s = V.int 0) = true from decide_eq_true (by rw [cs])]
          refine iteF ⟨v9, rs1, rfl, s7, e17, e27, hrl, fun j => ?_⟩
          rw [cs]
          split <;> omega
        · rw [show decide (V.int s = V.int 0) = false from decide_eq_false (fun z => cs (V.int.inj z))]
          refine iteT ?_
          refine ⟨_, rfl, q, _, rfl, .inr (SqT.of (s7 _ _ hq)), _, _, rfl, rfl, _, rfl, (by rw [List.length_map]; omega), (by rw [List.length_map]; omega), ?_⟩
          rw [List.length_map, show ((bs.length : Int) - 1).toNat = m by omega]
          refine for_it (walk_range (lo := 0) (n := m))
            (fun t σ H8 => ∃ (v9 : Option V) (ms : List Int), σ = [some (.ref p), some (.ref q), some (.ref E1), some (.ref E2), some (.int c1), some (.int l), some (.int (a : Int)), some (.int f), some (.int s), v9, none, none] ∧ Same H H8 ∧
              H8 E1 = some (.lst (ms.map V.int)) ∧ H8 E2 = some (.lst ((qs1.set a s).map V.int)) ∧ ms.length = a + m + 1 ∧ ∀ j, ms.getD j 0 = rs1.getD j 0 - if a ≤ j ∧ j < a + t then s * bs.getD (j - a) 0 else 0)
            ⟨v9, rs1, rfl, s7, e17, e27, hrl, fun j => by rw [if_neg (by omega)]; omega⟩ (fun t σ H8 _ _ => trivial) ?_ ?_
          · rintro t y σ H0 H8 ht ⟨v9', ms, rfl, s8, e18, e28, hml, hms⟩ yy
            obtain ⟨rfl, rfl⟩ := yy
            obtain ⟨u, hu⟩ : ∃ u, ms[a + t]? = some u := ⟨_, List.getElem?_eq_getElem (by omega)⟩
            have eu : ms.getD (a + t) 0 = u := by
              rw [List.getD_eq_getElem?_getD, hu]
              rfl
            obtain ⟨v, hv⟩ : ∃ v, bs[t]? = some v := ⟨_, List.getElem?_eq_getElem (by omega)⟩
            have ev : bs.getD t 0 = v := by
              rw [List.getD_eq_getElem?_getD, hv]
              rfl
            have bv := hb v (List.mem_of_getElem? hv)
            have eat2 : ((a : Nat) : Int) + (0 + (t : Int)) = ((a + t : Nat) : Int) := by omega
            refine ⟨_, rfl, _, rfl, _, rfl, _, _, rfl, rfl, E1, _, _, V.int u, rfl, rfl, SqL.of e18, (by rw [eat2]; exact atI_of (by rw [List.getElem?_map, hu]; rfl)), _, rfl, _, rfl, _, rfl, q, _, _, V.int v, rfl, rfl, SqT.of (s8 _ _ hq), (by rw [Int.zero_add]; exact atI_of (by rw [List.getElem?_map, hv]; rfl)), _, _, rfl, rfl, (by show intBits s + intBits v ≤ 134217728; omega), _, _, rfl, rfl, ?_⟩
            refine ⟨_, rfl, _, rfl, _, rfl, _, _, rfl, rfl, E1, ms.map V.int, _, a + t, rfl, rfl, e18, (by rw [eat2]; exact ixN_of (by rw [List.length_map]; omega)), some (.int (0 + (t : Int))), ms.set (a + t) (u - s * v), rfl, fun b o e => ?_, by rw [upd_same, List.map_set], by rw [upd_ne nE.symm]; exact e28, by rw [List.length_set]; exact hml, fun j => ?_⟩
            · rw [upd_ne (ne_of_none e f1)]
              exact s8 b o e
            · rw [getD_set (by omega)]
              by_cases e : j = a + t
              · subst e
                rw [if_pos rfl, if_pos (by omega), ← eu, hms, if_neg (by omega), show a + t - a = t by omega, ev]
                omega
              · rw [if_neg e, hms j]
                by_cases c : a ≤ j ∧ j < a + t
                · rw [if_pos c, if_pos (by omega)]
                · rw [if_neg c, if_neg (by omega)]
          · rintro σ H8 ⟨v9', ms, rfl, s8, e18, e28, hml, hms⟩
            exact ⟨v9', ms, rfl, s8, e18, e28, hml, hms⟩
      rintro σ' H8 ⟨v9', rs2, rfl, s8, e18, e28, h2l, h2⟩
      obtain ⟨u, hu⟩ : ∃ u, rs2[a + m]? = some u := ⟨_, List.getElem?_eq_getElem (by omega)⟩
      refine ⟨_, rfl, .inl ⟨rfl, _, SqL.of e18⟩, E1, _, V.int u, rfl, rfl, e18, ?_, ?_⟩
      · rw [List.length_map, h2l, Nat.add_sub_cancel, List.getElem?_map, hu]
        rfl
      have hdl : ∀ j, (rs2.dropLast).getD j 0 = if j < a + m then rs2.getD j 0 else 0 := fun j => by
        rw [drop_at, h2l]
        by_cases c : j < a + m
        · rw [if_pos c, if_pos (by omega)]
        · rw [if_neg c, if_neg (by omega)]
      have step1 : (i + 1) * (d + 1) = i * (d + 1) + (d + 1) := by rw [Nat.add_mul _ 1, Nat.one_mul]
      have step2 : (i + 1) * d = i * d + d := by rw [Nat.add_mul _ 1, Nat.one_mul]
      refine ⟨E1, E2, rs2.dropLast, qs1.set a s, c1, _, _, _, v9', rfl, fun b o e => ?_, f1, f2, nE, by rw [upd_same, ← List.map_dropLast], by rw [upd_ne nE.symm]; exact e28, by rw [List.length_dropLast]; omega, by rw [List.length_set]; exact hql, fun n hn => ?_, fun n hn => ?_, hc0, by omega, fun t ht => ?_, ?_⟩
      · rw [upd_ne (ne_of_none e f1)]
        exact s8 b o e
      · obtain ⟨j, _, e⟩ := mem_getD hn
        rw [← e, hdl]
        split
        · rw [h2]
          have q1 := bits_getD hrb j
          by_cases c : a ≤ j ∧ j < a + m
          · rw [if_pos c]
            have q2 := PySem.intBits_mul_le bs_ (bits_getD hb (j - a))
            have := bits_sub q1 q2
            omega
          · rw [if_neg c, Int.sub_zero]
            omega
        · exact Nat.zero_le _
      · rcases List.mem_or_eq_of_mem_set hn with h | h
        · have := hqb n h
          omega
        · rw [h]
          omega
      · rw [getD_set (by omega), if_neg (by omega)]
        exact hqz t (by omega)
      · refine ld_step (a := a) (s := ((s : Int) : Rat)) hid (fun j => ?_) fun j => ?_
        · unfold fr
          rw [getD_set (by omega)]
          by_cases c : j = a
          · subst c
            rw [if_pos rfl, if_pos rfl, hq0]
            show _ = (0 : Rat) + _
            grind
          · rw [if_neg c, if_neg c]
            grind
        · unfold fr
          rw [hdl]
          by_cases c : j < a + m
          · rw [if_pos c, h2, Rat.intCast_sub]
            by_cases c2 : a ≤ j
            · rw [if_pos ⟨c2, c⟩, if_pos c2, Rat.intCast_mul]
            · rw [if_neg (by omega), if_neg c2]
              rfl
          · rw [if_neg c, if_pos (by omega)]
            by_cases c3 : j = a + m
            · subst c3
              rw [hx, show a + m - a = m by omega, el, ← hsl, Rat.intCast_mul]
              show (0 : Rat) = _
              grind
            · rw [show rs1.getD j 0 = 0 by
                rw [List.getD_eq_getElem?_getD, List.getElem?_eq_none (by omega)]
                rfl, show bs.getD (j - a) 0 = 0 by
                rw [List.getD_eq_getElem?_getD, List.getElem?_eq_none (by omega)]
                rfl]
              show (0 : Rat) = 0 - _ * 0
              grind
    · rintro σ H5 ⟨E1, E2, rs, qs, c, v6, v7, v8, v9, rfl, s5, f1, f2, nE, e1, e2, hrl, hql, hrb, hqb, hc0, hcb, hqz, hid⟩
      refine ⟨_, rfl, _, rfl, E1, rs, rfl, e1, by omega, fun H6 t ms s6 ht hml hmm hmf => ?_⟩
      refine ⟨_, rfl, (by show 3 ≤ sizeLine; decide), fun t2 ht2 => ?_⟩
      have s7 := same_upd (o := .tup [V.ref E2, V.ref t, V.int c]) ht2
      refine k _ t2 E2 t qs ms c ((s5.trans s6).trans s7) upd_same (s7 _ _ (s6 _ _ e2)) (s7 _ _ ht) hc0 hql (by omega) hqb (fun n hn => hrb n (hmm n hn)) hcb fun j => ?_
      rw [hid j]
      unfold fr
      rw [hmf]
end
end Ind

set_option Elab.async false
set_option linter.all false
set_option maxRecDepth 100000
set_option maxHeartbeats 4000000
namespace Ind
open PySem PySem.Spec PyProof.Rows L2
/-! ### an own operator whose error goes to a clause that looks at the slots -/
section
variable {X : Cx} {CX : CXT} {n : Nat} {C f : Addr} {fd : FuncData} {ps : List Str} {sp : Sp} {E : L2.St → XK} {a b : Expr} {ta tb : TE} {pos : Pos}
structure OwnOpS (X : Cx) (CX : CXT) (n : Nat) (C f : Addr) (m : Str) (fd : FuncData) (ps : List Str) (sp : Sp) (E : L2.St → XK) : Prop where
  fn : FnOk X.prog X.w X.K X.mg X.base CX n f fd ps sp
  at_ : PySem.W.findIn X.K (.ref C) m = some (some (.ref f))
  isf : PySem.W.isFn X.K (.ref f) = true
  b : Binds X.K fd ps []
  px : ∀ σ, PassesAt CX X σ (E σ)
  first : PySem.W.selfFirst X.K C = true
def tBinS (C : Addr) (sp : Sp) (E : L2.St → XK) (ta tb : TE) : TE := fun σ H Q => ta σ H fun x H1 => tb σ H1 fun y H2 => rBinO C sp (E σ) x y H2 Q
theorem pe_binS {op : Operator} {m : Str} (hm : PySem.dunder op.info.2 = m) (G : OwnOpS X CX n C f m fd ps sp E) (hr : Room n X.A) (ha : PE X a ta) (hb : PE X b tb) : PE X (.BinOp a op b pos) (tBinS C sp E ta tb) := by
  refine ⟨fun pins s σ H Q I h => ?_⟩
  refine wpAny_BinOp (binT ha hb I h fun v u s2 x y H2 I2 rx ry q => ?_)
  obtain ⟨a, dx, fs, b, dy, gs, rfl, rfl, ha, hb, q⟩ := q
  cases (show v = Value.ref a from rx)
  cases (show u = Value.ref b from ry)
  obtain ⟨mA, O, _⟩ := ins_get I2.hok ha
  obtain ⟨od, J, _⟩ := O.look
  obtain ⟨mB, O2, _⟩ := ins_get I2.hok hb
  obtain ⟨od2, J2, _⟩ := O2.look
  obtain ⟨mm, hF⟩ := I2.fr
  refine PySem.W.binop_K hF I2.ok.mod.kin J J2.type G.first (by rw [hm]; exact G.at_) G.isf ?_
  refine wpAny_mono (run_fnS (us := [.ref a, .ref b]) (vs := [.ref a, .ref b]) G.fn hr G.b (G.px σ) I2 (.cons rfl (.cons rfl .nil)) q) (fun w s' z => ?_) fun _ _ e => e
  obtain ⟨z', H', I', rz, qz⟩ := z
  have fin : EP X pins σ Q w s' := ⟨z', H', I', rz, qz⟩
  cases z' with
  | non => cases rz; exact fin
  | bl _ => cases rz; exact fin
  | int _ => obtain ⟨_, rfl⟩ := rz; exact fin
  | str _ => obtain ⟨_, rfl⟩ := rz; exact fin
  | byt _ => obtain ⟨_, rfl⟩ := rz; exact fin
  | flt _ => obtain ⟨_, rfl⟩ := rz; exact fin
  | ref _ => cases rz; exact fin
  | ty _ => cases rz; exact fin
end
end Ind

set_option Elab.async false
set_option linter.all false
set_option maxRecDepth 100000
set_option maxHeartbeats 4000000
set_option exponentiation.threshold 9000
namespace Ind
open PySem PySem.Spec PyProof.Rows L2
open Builtin.Int (intBits)
abbrev sPDg : Stmt := inClass (top 23) 10
abbrev sPIz : Stmt := inClass (top 23) 11
abbrev sPDb : Stmt := inClass (top 23) 23
abbrev sPFd : Stmt := inClass (top 23) 5
abbrev sPMd : Stmt := inClass (top 23) 6
abbrev sPEq : Stmt := inClass (top 23) 7
abbrev sPDs : Stmt := inClass (top 23) 21
def spPDg (C CP : Addr) : Sp := fun vs H Q _ => ∃ (p : Addr) (as : List Q2), vs = [.ref p] ∧ PolyAt C CP H p as ∧ Q (.int ((as.length : Int) - 1)) H
def spPIz (C CP : Addr) : Sp := fun vs H Q _ => ∃ (p : Addr) (as : List Q2), vs = [.ref p] ∧ PolyAt C CP H p as ∧ Q (.bl (decide (as.length = 0))) H
section
variable {P : Program} {w : World} {K : PySem.W.Frag} {mg : Str → Option Value} {base : Heap} {C Z CP : Addr}
abbrev nSf : List Str := ["self"]
theorem scPDg : FnScope nSf ["self"] (defScope sPDg) := ⟨rfl, rfl, rfl, by decide +kernel, rfl, by decide +kernel, by decide +kernel⟩
theorem scPIz : FnScope nSf ["self"] (defScope sPIz) := ⟨rfl, rfl, rfl, by decide +kernel, rfl, by decide +kernel, by decide +kernel⟩
theorem paired_len {α β : Type} {F : α → β → Prop} : ∀ {xs : List α} {ys : List β}, Paired F xs ys → xs.length = ys.length
  | _, _, .nil => rfl
  | _, _, .cons _ t => congrArg Nat.succ (paired_len t)
theorem ok_pdg {f : Addr} {fd : FuncData} (F : Fun K "degree" "Poly.degree" sPDg f fd) (T : TxL K mg) (TP : TxP K mg CP) : FnOk P w K mg base CX0 1 f fd ["self"] (spPDg C CP) := by
  refine F.ok scPDg (fun vs H Q E h => ?_) (fun cdv A outer s H vs Q E hr h => ?_)
  · obtain ⟨p, as, rfl, _⟩ := h
    rfl
  · obtain ⟨p, as, rfl, ⟨dp, rp, np, ep, ⟨pa, era, qa⟩, hnp, _⟩, k⟩ := h
    refine ⟨_, pss_one (ps_ret (pe_op op_sub (pe_callB call_len_seq (by rfl) T.len PySem.boot_len (pa_cons (pe_fld (pv 0) rfl) pa_nil)) pe_int)), ?_⟩
    refine ⟨_, rfl, p, CP, dp, _, _, rfl, ep, TP.cl, TP.nR, pf_row _ _ _, rp, _, rfl, .inr (SqT.of era), _, _, rfl, rfl, ?_⟩
    rw [List.length_map, paired_len qa]
    exact k
theorem ok_piz {f : Addr} {fd : FuncData} (F : Fun K "is_zero" "Poly.is_zero" sPIz f fd) (T : TxL K mg) (TP : TxP K mg CP) : FnOk P w K mg base CX0 1 f fd ["self"] (spPIz C CP) := by
  refine F.ok scPIz (fun vs H Q E h => ?_) (fun cdv A outer s H vs Q E hr h => ?_)
  · obtain ⟨p, as, rfl, _⟩ := h
    rfl
  · obtain ⟨p, as, rfl, ⟨dp, rp, np, ep, ⟨pa, era, qa⟩, hnp, _⟩, k⟩ := h
    refine ⟨_, pss_one (ps_ret (pe_cmpR op_eq (pe_callB call_len_seq (by rfl) T.len PySem.boot_len (pa_cons (pe_fld (pv 0) rfl) pa_nil)) pe_int (nomark _))), ?_⟩
    refine ⟨_, rfl, p, CP, dp, _, _, rfl, ep, TP.cl, TP.nR, pf_row _ _ _, rp, _, rfl, .inr (SqT.of era), rfl, ?_⟩
    rw [List.length_map, paired_len qa]
    rw [show decide (V.int ((as.length : Nat) : Int) = V.int 0) = decide (as.length = 0) by
      by_cases e : as.length = 0
      · rw [e]; rfl
      · rw [decide_eq_false e, decide_eq_false (fun z => e (by have := V.int.inj z; omega))]]
    exact k
end
end Ind

set_option Elab.async false
set_option linter.all false
set_option maxRecDepth 100000
set_option maxHeartbeats 4000000
set_option exponentiation.threshold 9000
namespace Ind
open PySem PySem.Spec PyProof.Rows L2
open Builtin.Int (intBits)
theorem PolyAt.trim {C CP : Addr} {H : Hp} {p : Addr} {qs : List Q2} (h : PolyAt C CP H p qs) : Trim qs := let ⟨_, _, _, _, _, _, t⟩ := h; t
theorem cv_sc (a : Rat) (f h : Fr) (n : Nat) : cv (fun j => a * f j) h n = a * cv f h n := by
  have e : (fun j => a * f j) = fun j => a * f j + (fun _ => 0) j := funext fun j => by grind
  rw [e, cv_lin, cv_zl]
  grind
theorem cv_scr (a : Rat) (f h : Fr) (n : Nat) : cv f (fun j => a * h j) n = a * cv f h n := by
  rw [cv_comm, cv_sc, cv_comm]
theorem trim_top {bs : List Q2} {m : Nat} (ht : Trim bs) (lo : ∀ q ∈ bs, Lo q) (h : bs.length = m + 1) : rowF bs m ≠ 0 := by
  obtain ⟨q, hq⟩ : ∃ q, bs[m]? = some q := ⟨_, List.getElem?_eq_getElem (by omega)⟩
  have e : bs.getLast? = some q := by
    rw [List.getLast?_eq_getElem?, h]
    exact hq
  unfold rowF
  rw [getD_q hq]
  exact rv_ne (lo q (List.mem_of_getElem? hq)) (ht q e)
/-- the size of what a division gives -/
def gDv (k d L : Nat) : Nat := k + L * (d + 1) + d + 1
def gDr (k d L : Nat) : Nat := k + L * (d + 1) + 1
def spPDb (C Z CP : Addr) : Sp := fun vs H Q E => ∃ (p q : Addr) (as bs : List Q2), vs = [.ref p, .ref q] ∧ PolyAt C CP H p as ∧ PolyAt C CP H q bs ∧ (bs = [] → E (.ref Z) none H) ∧
  (bs ≠ [] → ∃ k d : Nat, PSz k as ∧ PSz d bs ∧ as.length ≤ 60 ∧ bs.length ≤ 60 ∧ gDv k d (as.length + 1 - bs.length) ≤ 4000 ∧
    ∀ (H' : Hp) (t u v : Addr) (qs rs : List Q2), Same H H' → H' t = some (.tup [.ref u, .ref v]) → PolyAt C CP H' u qs → PolyAt C CP H' v rs → PSz (gDv k d (as.length + 1 - bs.length)) qs → PSz (gDr k d (as.length + 1 - bs.length)) rs →
      qs.length ≤ as.length + 1 - bs.length → rs.length < bs.length → (∀ j, rowF as j = cv (rowF qs) (rowF bs) j + rowF rs j) → Q (.ref t) H')
section
variable {P : Program} {w : World} {K : PySem.W.Frag} {mg : Str → Option Value} {base : Heap} {C Z CP : Addr}
abbrev nPDb : List Str := ["self", "other", "quotient", "rest", "scale", "below", "n"]
theorem scPDb : FnScope nPDb ["self", "other"] (defScope sPDb) := ⟨rfl, rfl, rfl, by decide +kernel, rfl, by decide +kernel, by decide +kernel⟩
theorem ok_pdb {f fIz fL fN fS fP : Addr} {fd fdIz fdL fdN fdS fdP : FuncData} (F : Fun K "divided_by" "Poly.divided_by" sPDb f fd) (R : TxR K mg C Z) (TP : TxP K mg CP) (O : TxO P w K mg base C CP fN fS fP fdN fdS fdP)
    (GI : FnOk P w K mg base CX0 1 fIz fdIz ["self"] (spPIz C CP)) (bI : Binds K fdIz ["self"] []) (mI : Meth K CP "is_zero" fIz)
    (GL : FnOk P w K mg base CX0 2 fL fdL ["a", "b"] spLd) (kL : PySem.W.keepIn K (.ref fL) = true) (bL : Binds K fdL ["a", "b"] []) (gL : mg "long_division" = some (.ref fL)) : FnOk P w K mg base (L2.CX P w) 46 f fd ["self", "other"] (spPDb C Z CP) := by
  refine F.okX scPDb (fun vs H Q E h => ?_) (fun cdv A outer s H vs Q E hr h => ?_)
  · obtain ⟨p, q, as, bs, rfl, _⟩ := h
    rfl
  · obtain ⟨p, q, as, bs, rfl, hpa, hpb, kz, res⟩ := h
    have h1 := hr.mono (show 1 ≤ 45 by decide)
    have h2 := hr.mono (show 2 ≤ 45 by decide)
    refine ⟨_, pss_cons (ps_if (pt_val (pe_meth0 (pv 1) TP.cl mI GI h1 bI .nil pass0)) (pss_one (ps_raise rfl (takes_of rfl rfl rfl rfl) (pmk_own PySem.F.excBase_ValueError R.xZ R.gZ R.kZ (raises_own R.bZ R.tZ) rfl))) pss_nil)
      (pss_cons (ps_asg (pe_call GL h2 (by rfl) gL kL bL .nil pass0 (pa_cons (pe_fld (pv 0) rfl) (pa_cons (pe_fld (pv 1) rfl) pa_nil))) (pg_tup (by rfl) (pgs_cons (pg_name (i := 2) scPDb.nd rfl (Or.inl rfl)) (pgs_cons (pg_name (i := 3) scPDb.nd rfl (Or.inl rfl)) (pgs_cons (pg_name (i := 4) scPDb.nd rfl (Or.inl rfl)) pgs_nil)))))
      (pss_cons (ps_set (i := 5) scPDb.nd rfl (Or.inl rfl) (pe_op op_mulB (pv 4) (pe_fld (pv 0) rfl)))
      (pss_one (ps_ret (pe_tup (pa_cons (pe_call O.fnN hr (by rfl) O.gN O.kN O.bN .nil pass0 (pa_cons (pe_lc (own := [("n", 6)]) (g := gName 6) (tt := tYes) (te := tOp (rI (fun i j => intBits i + intBits j ≤ 134217728) fun i j => .int (i * j)) (tVar 6) (tFld K (tVar 1) "_below")) rfl scPDb.nd (pi_list (pv 2)) (blkOk_by (N := nPDb) (sc := defScope sPDb) (by decide +kernel))
          (fun _ _ _ _ _ => pg_name (i := 6) scPDb.nd rfl (Or.inl rfl)) (fun _ _ _ _ _ => pts_nil) (fun _ _ _ _ _ => pe_op op_mulB (pv 6) (pe_fld (pv 1) rfl))) (pa_cons (pv 5) pa_nil))) (pa_cons (pe_call O.fnN hr (by rfl) O.gN O.kN O.bN .nil pass0 (pa_cons (pv 3) (pa_cons (pv 5) pa_nil))) pa_nil))))))), ?_⟩
    have hpa' := hpa
    have hpb' := hpb
    obtain ⟨dp, rp, np, ep, _, hnp, _⟩ := hpa'
    obtain ⟨dq, rq, nq, eq, _, hnq, htb⟩ := hpb'
    refine ⟨_, rfl, q, dq, _, rfl, eq, by rfl, q, bs, rfl, hpb, _, rfl, ite2 (fun c => ?_) (fun c => ?_)⟩
    · exact kz (List.length_eq_zero_iff.mp (of_decide_eq_true c))
    have c : ¬ bs.length = 0 := fun z => c (decide_eq_true z)
    obtain ⟨m, hm⟩ : ∃ m, bs.length = m + 1 := ⟨bs.length - 1, by omega⟩
    obtain ⟨k, d, za, zb, la, lb, hk, res⟩ := res fun e => c (by rw [e]; rfl)
    obtain ⟨ba, na⟩ := psz_lcm za
    obtain ⟨bb, nb⟩ := psz_lcm zb
    have pa := lcmD_pos za.1
    have pb := lcmD_pos zb.1
    have topb := trim_top htb zb.1 hm
    have hBa := cst_ne (show ((lcmD as : Nat) : Int) ≠ 0 by omega)
    have hBb := cst_ne (show ((lcmD bs : Nat) : Int) ≠ 0 by omega)
    have eL : as.length - m = as.length + 1 - bs.length := by omega
    obtain ⟨L, hL⟩ : ∃ L, as.length + 1 - bs.length = L := ⟨_, rfl⟩
    rw [hL] at hk res eL
    have hk' := hk
    unfold gDv at hk'
    refine ⟨_, rfl, p, CP, dp, _, _, rfl, ep, TP.cl, TP.nN, pf_num _ _ _, _, rfl, q, CP, dq, _, _, rfl, eq, TP.cl, TP.nN, pf_num _ _ _, ?_⟩
    refine ⟨np, nq, partsOf ((lcmD as : Nat) : Int) as, partsOf ((lcmD bs : Nat) : Int) bs, m, k, d, rfl, hnp, hnq, by rw [parts_len2]; exact hm, fun z => ?_, by rw [parts_len2]; exact la, by rw [parts_len2]; exact lb, na, nb, by omega, by omega, fun H1 t lq lr qs rs cc s1 ht hlq hlr hc0 hql hrl hqb hrb hcb hid => ?_⟩
    · have e := num_fr zb.1 m
      rw [z] at e
      have : (((lcmD bs : Nat) : Int) : Rat) * rowF bs m = 0 := e.symm
      rcases Rat.mul_eq_zero.mp this with e | e
      · exact hBb e
      · exact topb e
    rw [parts_len2, eL] at hql hqb hrb hcb
    refine ⟨t, _, rfl, SqT.of ht, rfl, _, _, rfl, _, _, rfl, _, _, rfl, rfl, ?_⟩
    have ep1 := s1 _ _ ep
    have eq1 := s1 _ _ eq
    have hLd : L * (d + 1) = L * d + L := by rw [Nat.mul_add, Nat.mul_one]
    have hB0 : cc * ((lcmD as : Nat) : Int) ≠ 0 := Int.mul_ne_zero (by omega) (by omega)
    have bB := PySem.intBits_mul_le hcb ba
    refine ⟨_, rfl, _, rfl, p, CP, dp, _, _, rfl, ep1, TP.cl, TP.nB, pf_bel _ _ _, _, _, rfl, rfl, (by show intBits cc + intBits _ ≤ 134217728; omega), ?_⟩
    refine ⟨_, rfl, lq, rfl, ⟨_, SqL.of hlq⟩, fun D hD => lc_list (K := K) (a := lq) (xs := qs.map V.int) (fun i H2 => ColI D H1 H2 ((qs.take i).map fun n => n * ((lcmD bs : Nat) : Int))) (ColI.start hD) (fun i H2 _ z => z.s.seq (SqL.of hlq)) ?_ ?_⟩
    · rintro i x H2 hx z
      obtain ⟨n, hn, rfl⟩ := int_of hx
      have hi := (List.getElem?_eq_some_iff.mp hn).1
      have bn := hqb n (List.mem_of_getElem? hn)
      refine ⟨rfl, _, rfl, _, rfl, q, CP, dq, _, _, rfl, z.s _ _ eq1, TP.cl, TP.nB, pf_bel _ _ _, _, _, rfl, rfl, (by show intBits n + intBits _ ≤ 134217728; omega), ?_⟩
      rw [map_take_snoc hn]
      refine z.push hD same_rfl ?_
      rw [List.length_map, List.length_take]
      omega
    rintro H2 z
    rw [List.length_map, List.take_length] at z
    have hbn : ∀ u ∈ qs.map fun n => n * ((lcmD bs : Nat) : Int), intBits u ≤ gDv k d L := fun u hu => by
      obtain ⟨n, hn, rfl⟩ := List.mem_map.mp hu
      have := PySem.intBits_mul_le (hqb n hn) bb
      unfold gDv
      omega
    have hbr : ∀ u ∈ rs, intBits u ≤ gDv k d L := fun u hu => by
      have := hrb u hu
      unfold gDv
      omega
    have hbB : intBits (cc * ((lcmD as : Nat) : Int)) ≤ gDv k d L := by
      unfold gDv
      omega
    refine ⟨_, rfl, D, _, _, gDv k d L, rfl, .inl z.at_, hB0, by rw [List.length_map]; omega, hbB, hbn, hk, fun H3 u s3 hu => ?_⟩
    have hlr3 := s3 _ _ (z.s _ _ hlr)
    refine ⟨_, rfl, _, rfl, lr, rs, _, gDv k d L, rfl, .inl hlr3, hB0, by omega, hbB, hbr, hk, fun H4 v s4 hv => ?_⟩
    refine ⟨(by show 2 ≤ sizeLine; decide), fun t2 ht2 => ?_⟩
    have s5 := same_upd (o := .tup [V.ref u, V.ref v]) ht2
    have q1 := over_psz hB0 (ns := qs.map fun n => n * ((lcmD bs : Nat) : Int)) (by rw [List.length_map]; omega) hbB hbn
    have hbr2 : ∀ u ∈ rs, intBits u ≤ gDr k d L := fun u hu => by
      have := hrb u hu
      unfold gDr
      omega
    have hbB2 : intBits (cc * ((lcmD as : Nat) : Int)) ≤ gDr k d L := by
      unfold gDr
      omega
    have q2 := over_psz hB0 (ns := rs) (by omega) hbB2 hbr2
    have l1 := trim_len (overQ (cc * ((lcmD as : Nat) : Int)) (qs.map fun n => n * ((lcmD bs : Nat) : Int)))
    have l2 := trim_len (overQ (cc * ((lcmD as : Nat) : Int)) rs)
    rw [over_len, List.length_map] at l1
    rw [over_len] at l2
    refine res _ t2 u v _ _ ((((s1.trans z.s).trans s3).trans s4).trans s5) upd_same ((PolyAt.stb C CP).same (s4.trans s5) hu) ((PolyAt.stb C CP).same s5 hv) (psz_sub q1 (fun q hq => trim_mem hq) (trim_len _)) (psz_sub q2 (fun q hq => trim_mem hq) (trim_len _)) (by omega) (by omega) fun j => ?_
    have hcc := cst_ne (show cc ≠ 0 by omega)
    have e1 : rowF (trimQ (overQ (cc * ((lcmD as : Nat) : Int)) (qs.map fun n => n * ((lcmD bs : Nat) : Int)))) = fun t => ((((lcmD bs : Nat) : Int) : Rat) / (((cc * ((lcmD as : Nat) : Int) : Int)) : Rat)) * fr qs t := funext fun t => by
      rw [trim_row, over_row hB0, getD_map (f := fun n => n * ((lcmD bs : Nat) : Int)) (by omega), Rat.intCast_mul]
      show _ = _ * ((qs.getD t 0 : Int) : Rat)
      have := cst_ne hB0
      grind
    have e2 : fr (partsOf ((lcmD bs : Nat) : Int) bs) = fun t => (((lcmD bs : Nat) : Int) : Rat) * rowF bs t := funext fun t => num_fr zb.1 t
    have e3 := hid j
    rw [e2, cv_scr] at e3
    rw [show fr (partsOf ((lcmD as : Nat) : Int) as) j = (((lcmD as : Nat) : Int) : Rat) * rowF as j from num_fr za.1 j] at e3
    rw [e1, cv_sc, trim_row, over_row hB0]
    have e4 : fr rs j = ((rs.getD j 0 : Int) : Rat) := rfl
    rw [e4] at e3
    rw [Rat.intCast_mul]
    generalize cv (fr qs) (rowF bs) j = X at e3 ⊢
    generalize ((rs.getD j 0 : Int) : Rat) = Y at e3 ⊢
    generalize ((cc : Int) : Rat) = c1 at e3 hcc ⊢
    generalize (((lcmD as : Nat) : Int) : Rat) = a1 at e3 hBa ⊢
    generalize (((lcmD bs : Nat) : Int) : Rat) = b1 at e3 hBb ⊢
    have : rowF as j = (b1 * X + Y) / (c1 * a1) := by
      rw [← e3]
      grind
    rw [this]
    grind
end
end Ind

set_option Elab.async false
set_option linter.all false
set_option maxRecDepth 100000
set_option maxHeartbeats 4000000
set_option exponentiation.threshold 9000
namespace Ind
open PySem PySem.Spec PyProof.Rows L2
open Builtin.Int (intBits)
/-- sizes at which a division is told -/
structure DvSz (k d : Nat) (as bs : List Q2) : Prop where
  a : PSz k as
  b : PSz d bs
  la : as.length ≤ 60
  lb : bs.length ≤ 60
  le : gDv k d (as.length + 1 - bs.length) ≤ 4000
/-- quotient and remainder -/
structure DvOk (k d : Nat) (as bs qs rs : List Q2) : Prop where
  q : PSz (gDv k d (as.length + 1 - bs.length)) qs
  r : PSz (gDr k d (as.length + 1 - bs.length)) rs
  tq : Trim qs
  tr : Trim rs
  lq : qs.length ≤ as.length + 1 - bs.length
  lr : rs.length < bs.length
  id : ∀ j, rowF as j = cv (rowF qs) (rowF bs) j + rowF rs j
def spDv2 (C Z CP : Addr) : Sp := fun vs H Q E => ∃ (p q : Addr) (as bs : List Q2), vs = [.ref p, .ref q] ∧ PolyAt C CP H p as ∧ PolyAt C CP H q bs ∧ (bs = [] → E (.ref Z) none H) ∧
  (bs ≠ [] → ∃ k d : Nat, DvSz k d as bs ∧ ∀ (H' : Hp) (t u v : Addr) (qs rs : List Q2), Same H H' → H' t = some (.tup [.ref u, .ref v]) → PolyAt C CP H' u qs → PolyAt C CP H' v rs → DvOk k d as bs qs rs → Q (.ref t) H')
def spFd (C Z CP : Addr) : Sp := fun vs H Q E => ∃ (p q : Addr) (as bs : List Q2), vs = [.ref p, .ref q] ∧ PolyAt C CP H p as ∧ PolyAt C CP H q bs ∧ (bs = [] → E (.ref Z) none H) ∧
  (bs ≠ [] → ∃ k d : Nat, DvSz k d as bs ∧ ∀ (H' : Hp) (u : Addr) (qs rs : List Q2), Same H H' → PolyAt C CP H' u qs → DvOk k d as bs qs rs → Q (.ref u) H')
def spMd (C Z CP : Addr) : Sp := fun vs H Q E => ∃ (p q : Addr) (as bs : List Q2), vs = [.ref p, .ref q] ∧ PolyAt C CP H p as ∧ PolyAt C CP H q bs ∧ (bs = [] → E (.ref Z) none H) ∧
  (bs ≠ [] → ∃ k d : Nat, DvSz k d as bs ∧ ∀ (H' : Hp) (u : Addr) (qs rs : List Q2), Same H H' → PolyAt C CP H' u rs → DvOk k d as bs qs rs → Q (.ref u) H')
def spDs (C CP : Addr) : Sp := fun vs H Q _ => ∃ (p q : Addr) (as bs : List Q2), vs = [.ref p, .ref q] ∧ PolyAt C CP H p bs ∧ PolyAt C CP H q as ∧ (bs = [] → Q (.bl (decide (as.length = 0))) H) ∧
  (bs ≠ [] → ∃ k d : Nat, DvSz k d as bs ∧ ∀ (H' : Hp) (qs rs : List Q2), Same H H' → DvOk k d as bs qs rs → Q (.bl (decide (rs.length = 0))) H')
def spEqP (C CP : Addr) : Sp := fun vs H Q _ => ∃ (p q : Addr) (as : List Q2), vs = [.ref p, .ref q] ∧ PolyAt C CP H p as ∧ PolyAt C CP H q as ∧ Q (.bl true) H
def iD (n : Int) : PyData := .int n
theorem dp_ints {K : PySem.W.Frag} {H : Hp} : ∀ ns : List Int, DpAll K H (ns.map V.int) (ns.map iD)
  | [] => .nil
  | n :: ns => .cons (.int n) (dp_ints ns)
theorem iDs_lay : ∀ ns : List Int, PyData.canLayAll0 (ns.map iD) = true
  | [] => by simp [PyData.canLayAll0]
  | n :: ns => by simp [PyData.canLayAll0, iDs_lay ns, iD, PyData.canLay0]
theorem iDs_depth : ∀ ns : List Int, PyData.depthAll (ns.map iD) ≤ 1
  | [] => by simp [PyData.depthAll]
  | n :: ns => by
    have := iDs_depth ns
    simp only [List.map_cons, PyData.depthAll, iD, PyData.depth]
    omega
theorem shape_ints (ns : List Int) : SeqAt.shaped (.tuple (ns.map iD)) = true := by
  have := iDs_depth ns
  show ((PyData.tuple (ns.map iD)).canLay0 && decide ((PyData.tuple (ns.map iD)).depth ≤ 64)) = true
  rw [Bool.and_eq_true]
  exact ⟨by simp only [PyData.canLay0]; exact iDs_lay ns, decide_eq_true (by simp only [PyData.depth]; omega)⟩
section
variable {P : Program} {w : World} {K : PySem.W.Frag} {mg : Str → Option Value} {base : Heap} {C Z CP : Addr}
theorem dv2 {f : Addr} {fd : FuncData} (h : FnOk P w K mg base (L2.CX P w) 46 f fd ["self", "other"] (spPDb C Z CP)) : FnOk P w K mg base (L2.CX P w) 46 f fd ["self", "other"] (spDv2 C Z CP) :=
  h.imp fun vs H Q E ⟨p, q, as, bs, e, ha, hb, kz, k⟩ => ⟨p, q, as, bs, e, ha, hb, kz, fun c => let ⟨k1, d, z, r⟩ := k c; ⟨k1, d, z.a, z.b, z.la, z.lb, z.le, fun H' t u v qs rs s ht hu hv q1 q2 q3 q4 q5 => r H' t u v qs rs s ht hu hv ⟨q1, q2, hu.trim, hv.trim, q3, q4, q5⟩⟩⟩
abbrev nSO : List Str := ["self", "other"]
theorem scFd : FnScope nSO ["self", "other"] (defScope sPFd) := ⟨rfl, rfl, rfl, by decide +kernel, rfl, by decide +kernel, by decide +kernel⟩
theorem scMd : FnScope nSO ["self", "other"] (defScope sPMd) := ⟨rfl, rfl, rfl, by decide +kernel, rfl, by decide +kernel, by decide +kernel⟩
theorem ok_fd {f fD : Addr} {fd fdD : FuncData} (F : Fun K "__floordiv__" "Poly.__floordiv__" sPFd f fd) (TP : TxP K mg CP) (GD : FnOk P w K mg base (L2.CX P w) 46 fD fdD ["self", "other"] (spDv2 C Z CP)) (bD : Binds K fdD ["self", "other"] []) (mD : Meth K CP "divided_by" fD) : FnOk P w K mg base (L2.CX P w) 47 f fd ["self", "other"] (spFd C Z CP) := by
  refine F.okX scFd (fun vs H Q E h => ?_) (fun cdv A outer s H vs Q E hr h => ?_)
  · obtain ⟨p, q, as, bs, rfl, _⟩ := h
    rfl
  · obtain ⟨p, q, as, bs, rfl, hpa, hpb, kz, res⟩ := h
    refine ⟨_, pss_one (ps_ret (pe_ix ix_tup (pe_meth (E := E) (pv 0) TP.cl mD GD hr bD .nil (passes_call (takes_of rfl rfl rfl rfl) fun _ _ _ _ h => h) (pa_cons (pv 1) pa_nil)) pe_int fun _ _ => rfl)), ?_⟩
    have hpa' := hpa
    obtain ⟨dp, rp, np, ep, _⟩ := hpa'
    refine ⟨_, rfl, p, dp, _, rfl, ep, by rfl, _, rfl, p, q, as, bs, rfl, hpa, hpb, kz, fun c => ?_⟩
    obtain ⟨k, d, z, r⟩ := res c
    exact ⟨k, d, z, fun H' t u v qs rs s ht hu hv ok => ⟨t, _, _, V.ref u, rfl, rfl, SqT.of ht, atI_of (k := 0) rfl, r H' u qs rs s hu ok⟩⟩
theorem ok_md {f fD : Addr} {fd fdD : FuncData} (F : Fun K "__mod__" "Poly.__mod__" sPMd f fd) (TP : TxP K mg CP) (GD : FnOk P w K mg base (L2.CX P w) 46 fD fdD ["self", "other"] (spDv2 C Z CP)) (bD : Binds K fdD ["self", "other"] []) (mD : Meth K CP "divided_by" fD) : FnOk P w K mg base (L2.CX P w) 47 f fd ["self", "other"] (spMd C Z CP) := by
  refine F.okX scMd (fun vs H Q E h => ?_) (fun cdv A outer s H vs Q E hr h => ?_)
  · obtain ⟨p, q, as, bs, rfl, _⟩ := h
    rfl
  · obtain ⟨p, q, as, bs, rfl, hpa, hpb, kz, res⟩ := h
    refine ⟨_, pss_one (ps_ret (pe_ix ix_tup (pe_meth (E := E) (pv 0) TP.cl mD GD hr bD .nil (passes_call (takes_of rfl rfl rfl rfl) fun _ _ _ _ h => h) (pa_cons (pv 1) pa_nil)) pe_int fun _ _ => rfl)), ?_⟩
    have hpa' := hpa
    obtain ⟨dp, rp, np, ep, _⟩ := hpa'
    refine ⟨_, rfl, p, dp, _, rfl, ep, by rfl, _, rfl, p, q, as, bs, rfl, hpa, hpb, kz, fun c => ?_⟩
    obtain ⟨k, d, z, r⟩ := res c
    exact ⟨k, d, z, fun H' t u v qs rs s ht hu hv ok => ⟨t, _, _, V.ref v, rfl, rfl, SqT.of ht, atI_of (k := 1) rfl, r H' v qs rs s hv ok⟩⟩
/-- an own operator that may raise, where it stands -/
structure OwnR (P : Program) (w : World) (K : PySem.W.Frag) (mg : Str → Option Value) (base : Heap) (CP : Addr) (m : Str) (sp : Sp) (f : Addr) (fd : FuncData) : Prop where
  fn : FnOk P w K mg base (L2.CX P w) 47 f fd ["self", "other"] sp
  at_ : PySem.W.findIn K (.ref CP) m = some (some (.ref f))
  isf : PySem.W.isFn K (.ref f) = true
  b : Binds K fd ["self", "other"] []
  first : PySem.W.selfFirst K CP = true
abbrev nSQ : List Str := ["self", "q"]
theorem scDs : FnScope nSQ ["self", "q"] (defScope sPDs) := ⟨rfl, rfl, rfl, by decide +kernel, rfl, by decide +kernel, by decide +kernel⟩
theorem ok_ds {f fIz fM : Addr} {fd fdIz fdM : FuncData} (F : Fun K "divides" "Poly.divides" sPDs f fd) (TP : TxP K mg CP)
    (GI : FnOk P w K mg base CX0 1 fIz fdIz ["self"] (spPIz C CP)) (bI : Binds K fdIz ["self"] []) (mI : Meth K CP "is_zero" fIz) (OM : OwnR P w K mg base CP "__mod__" (spMd C Z CP) fM fdM) : FnOk P w K mg base CX0 48 f fd ["self", "q"] (spDs C CP) := by
  refine F.ok scDs (fun vs H Q E h => ?_) (fun cdv A outer s H vs Q E hr h => ?_)
  · obtain ⟨p, q, as, bs, rfl, _⟩ := h
    rfl
  · obtain ⟨p, q, as, bs, rfl, hpb, hpa, kz, res⟩ := h
    have h1 := hr.mono (show 1 ≤ 47 by decide)
    refine ⟨_, pss_cons (ps_if (pt_val (pe_meth0 (pv 0) TP.cl mI GI h1 bI .nil pass0)) (pss_one (ps_ret (pe_meth0 (pv 1) TP.cl mI GI h1 bI .nil pass0))) pss_nil)
      (pss_one (ps_ret (pe_meth0 (pe_op (op_binO (E := E0) (m := "__mod__") (by rfl) ⟨OM.fn, OM.at_, OM.isf, OM.b, passL, OM.first⟩ hr) (pv 1) (pv 0)) TP.cl mI GI h1 bI .nil pass0))), ?_⟩
    have hpa' := hpa
    have hpb' := hpb
    obtain ⟨da, _, _, ea, _⟩ := hpa'
    obtain ⟨db, _, _, eb, _⟩ := hpb'
    refine ⟨_, rfl, p, db, _, rfl, eb, by rfl, p, bs, rfl, hpb, _, rfl, ite2 (fun c => ?_) (fun c => ?_)⟩
    · exact ⟨_, rfl, q, da, _, rfl, ea, by rfl, q, as, rfl, hpa, kz (List.length_eq_zero_iff.mp (of_decide_eq_true c))⟩
    have c : bs ≠ [] := fun z => c (decide_eq_true (by rw [z]; rfl))
    obtain ⟨k, d, z, r⟩ := res c
    refine ⟨_, rfl, _, rfl, q, da, _, p, db, _, rfl, rfl, ea, eb, q, p, as, bs, rfl, hpa, hpb, fun z => absurd z c, fun _ => ⟨k, d, z, fun H' u qs rs s hu ok => ?_⟩⟩
    have hu' := hu
    obtain ⟨du, _, _, eu, _⟩ := hu'
    exact ⟨u, du, _, rfl, eu, by rfl, u, rs, rfl, hu, r H' qs rs s ok⟩
theorem scEqP : FnScope nSO ["self", "other"] (defScope sPEq) := ⟨rfl, rfl, rfl, by decide +kernel, rfl, by decide +kernel, by decide +kernel⟩
theorem ok_eqp {f : Addr} {fd : FuncData} (F : Fun K "__eq__" "Poly.__eq__" sPEq f fd) (T : TxL K mg) (TP : TxP K mg CP) (I : TxI K CP) : FnOk P w K mg base CX0 1 f fd ["self", "other"] (spEqP C CP) := by
  refine F.ok scEqP (fun vs H Q E h => ?_) (fun cdv A outer s H vs Q E hr h => ?_)
  · obtain ⟨p, q, as, rfl, _⟩ := h
    rfl
  · obtain ⟨p, q, as, rfl, ⟨dp, rp, np, ep, _, hnp, _⟩, ⟨dq, rq, nq, eq, _, hnq, _⟩, k⟩ := h
    refine ⟨_, pss_one (ps_ret (pe_and (pe_callB call_isi (by rfl) T.isinstance boot_isi (pa_cons (pv 1) (pa_cons (pe_glob (v := .ref CP) rfl TP.mgP rfl) pa_nil)))
      (pe_and (pe_cmpR (op_eqD hr.units) (pe_fld (pv 0) rfl) (pe_fld (pv 1) rfl) (nomark _)) (pe_one (pe_cmpR op_eq (pe_fld (pv 0) rfl) (pe_fld (pv 1) rfl) (nomark _)))))), ?_⟩
    refine ⟨_, rfl, _, _, _, _, true, rfl, ClsV.own CP, .base (.ins eq TP.cl I.ha I.hn I.ht I.hm), I.kC, true, rfl, iteT ?_⟩
    refine ⟨_, rfl, p, CP, dp, _, _, rfl, ep, TP.cl, TP.nN, pf_num _ _ _, _, rfl, q, CP, dq, _, _, rfl, eq, TP.cl, TP.nN, pf_num _ _ _, .tuple ((partsOf ((lcmD as : Nat) : Int) as).map iD), .tuple ((partsOf ((lcmD as : Nat) : Int) as).map iD), .tup (SqT.of hnp) (dp_ints _), .tup (SqT.of hnq) (dp_ints _), shape_ints _, shape_ints _, _, rfl, ?_⟩
    rw [SeqAt.eqv_refl _ (SeqAt.canLay_of_shaped (shape_ints _))]
    refine iteT ⟨_, rfl, p, CP, dp, _, _, rfl, ep, TP.cl, TP.nB, pf_bel _ _ _, _, rfl, q, CP, dq, _, _, rfl, eq, TP.cl, TP.nB, pf_bel _ _ _, rfl, ?_⟩
    rw [show decide (V.int ((lcmD as : Nat) : Int) = V.int ((lcmD as : Nat) : Int)) = true from decide_eq_true rfl]
    exact k
end
end Ind

set_option Elab.async false
set_option linter.all false
set_option maxRecDepth 100000
set_option maxHeartbeats 4000000
namespace Ind
open PySem PySem.Spec PyProof.Rows L2
open Builtin.Int (intBits)
abbrev sRat : Stmt := top 35
abbrev sAdd : Stmt := top 36
abbrev sMul : Stmt := top 37
/-- sizes far below the most -/
def Bd (x : Int) : Prop := intBits x ≤ 30000000
theorem bd2 {x y : Int} (h1 : Bd x) (h2 : Bd y) : intBits x + intBits y ≤ 134217728 := by
  unfold Bd at h1 h2
  omega
def PairAt (H : Hp) (p : Addr) (a b : Int) : Prop := H p = some (.tup [.int a, .int b])
theorem PairAt.same {H H' : Hp} {p : Addr} {a b : Int} (x : PairAt H p a b) (s : Same H H') : PairAt H' p a b := s _ _ x
def spRatT : Sp := fun vs H Q _ => ∃ n d : Int, vs = [.int n, .int d] ∧ d ≠ 0 ∧ ∀ (H' : Hp) (t : Addr), Same H H' → PairAt H' t (nN n d) (nD n d) → Q (.ref t) H'
def spAddT : Sp := fun vs H Q _ => ∃ (p q : Addr) (a b c d : Int), vs = [.ref p, .ref q] ∧ PairAt H p a b ∧ PairAt H q c d ∧ b ≠ 0 ∧ d ≠ 0 ∧ Bd a ∧ Bd b ∧ Bd c ∧ Bd d ∧
  ∀ (H' : Hp) (t : Addr), Same H H' → PairAt H' t (nN (a * d + c * b) (b * d)) (nD (a * d + c * b) (b * d)) → Q (.ref t) H'
def spMulT : Sp := fun vs H Q _ => ∃ (p q : Addr) (a b c d : Int), vs = [.ref p, .ref q] ∧ PairAt H p a b ∧ PairAt H q c d ∧ b ≠ 0 ∧ d ≠ 0 ∧ Bd a ∧ Bd b ∧ Bd c ∧ Bd d ∧
  ∀ (H' : Hp) (t : Addr), Same H H' → PairAt H' t (nN (a * c) (b * d)) (nD (a * c) (b * d)) → Q (.ref t) H'
section
variable {P : Program} {w : World} {K : PySem.W.Frag} {mg : Str → Option Value} {base : Heap} {C Z : Addr}
theorem scRat : FnScope ["n", "d", "common"] ["n", "d"] (defScope sRat) := ⟨rfl, rfl, rfl, by decide +kernel, rfl, by decide +kernel, by decide +kernel⟩
theorem ok_rat {f fG : Addr} {fd fdG : FuncData} (hN : base.NoSeer) (hT : P.given.tree = none) (F : Fun K "_law_rat" "_law_rat" sRat f fd) (T : TxL K mg) (FG : Fun K "_law_gcd" "_law_gcd" sGcd fG fdG) (bG : Binds K fdG ["a", "b"] []) (gG : mg "_law_gcd" = some (.ref fG)) :
    FnOk P w K mg base CX0 41 f fd ["n", "d"] spRatT := by
  have GG : FnOk P w K mg base CX0 1 fG fdG ["a", "b"] spGcdI := ok_gcd FG T
  refine F.ok (k := 40) scRat (fun vs H Q E h => ?_) (fun cdv A outer s H vs Q E hr h => ?_)
  · obtain ⟨n, d, rfl, _⟩ := h
    rfl
  · obtain ⟨n, d, rfl, hd, k⟩ := h
    have far : Far (cxOf CX0 P w K mg base ["n", "d", "common"] "_law_rat" (defScope sRat) f cdv A outer s H E).nox := ⟨hN, hT, rfl, rfl, rfl, hr⟩
    refine ⟨_, pss_cons (ps_set (i := 2) scRat.nd rfl (Or.inl rfl) (pe_call GG (hr.mono (by decide)) (by rfl) gG FG.kp bG .nil pass0 (pa_cons (pv 0) (pa_cons (pv 1) pa_nil))))
      (C8.pss_cut (ps_if (pt_cmpR op_lt (pv 1) pe_int (nomark _)) (pss_one (ps_set (i := 2) scRat.nd rfl (Or.inl rfl) (pe_un un_neg (pv 2)))) pss_nil)
      (pss_one (ps_ret (pe_tup (pa_cons (pe_op (op_fdivB far) (pv 0) (pv 2)) (pa_cons (pe_op (op_fdivB far) (pv 1) (pv 2)) pa_nil)))))), ?_⟩
    refine ⟨_, rfl, _, rfl, n, d, rfl, ?_⟩
    refine ⟨fun σ' H' => H' = H ∧ σ' = [some (.int n), some (.int d), some (.int (cg n d))], ?_, ?_⟩
    · refine ⟨_, rfl, _, _, rfl, rfl, _, rfl, ite2 (fun c => ?_) (fun c => ?_)⟩
      · have hneg : d < 0 := of_decide_eq_true c
        refine ⟨_, rfl, _, rfl, rfl, ?_⟩
        unfold cg
        rw [if_pos hneg]
        rfl
      · have hneg : ¬ d < 0 := fun z => c (decide_eq_true z)
        refine ⟨rfl, ?_⟩
        unfold cg
        rw [if_neg hneg]
        rfl
    · rintro σ' H' ⟨rfl, rfl⟩
      exact ⟨_, rfl, _, rfl, _, _, rfl, rfl, cg_ne hd, _, rfl, _, rfl, _, _, rfl, rfl, cg_ne hd, (by show 2 ≤ sizeLine; decide), fun t ht => k _ t (same_upd ht) upd_same⟩
theorem scAdd : FnScope ["a", "b"] ["a", "b"] (defScope sAdd) := ⟨rfl, rfl, rfl, by decide +kernel, rfl, by decide +kernel, by decide +kernel⟩
theorem scMul : FnScope ["a", "b"] ["a", "b"] (defScope sMul) := ⟨rfl, rfl, rfl, by decide +kernel, rfl, by decide +kernel, by decide +kernel⟩
theorem ok_addT {f fR : Addr} {fd fdR : FuncData} (F : Fun K "_law_add" "_law_add" sAdd f fd) (GR : FnOk P w K mg base CX0 41 fR fdR ["n", "d"] spRatT) (kR : PySem.W.keepIn K (.ref fR) = true) (bR : Binds K fdR ["n", "d"] []) (gR : mg "_law_rat" = some (.ref fR)) :
    FnOk P w K mg base CX0 42 f fd ["a", "b"] spAddT := by
  refine F.ok scAdd (fun vs H Q E h => ?_) (fun cdv A outer s H vs Q E hr h => ?_)
  · obtain ⟨p, q, a, b, c, d, rfl, _⟩ := h
    rfl
  · obtain ⟨p, q, a, b, c, d, rfl, hp, hq, h1, h2, ba, bb, bc, bd, k⟩ := h
    refine ⟨_, pss_one (ps_ret (pe_call GR hr (by rfl) gR kR bR .nil pass0 (pa_cons (pe_op op_add (pe_op op_mulB (pe_ix ix_tup (pv 0) pe_int fun _ _ => rfl) (pe_ix ix_tup (pv 1) pe_int fun _ _ => rfl)) (pe_op op_mulB (pe_ix ix_tup (pv 1) pe_int fun _ _ => rfl) (pe_ix ix_tup (pv 0) pe_int fun _ _ => rfl)))
      (pa_cons (pe_op op_mulB (pe_ix ix_tup (pv 0) pe_int fun _ _ => rfl) (pe_ix ix_tup (pv 1) pe_int fun _ _ => rfl)) pa_nil)))), ?_⟩
    refine ⟨_, rfl, p, _, _, _, rfl, rfl, SqT.of hp, atI_of (k := 0) rfl, _, rfl, q, _, _, _, rfl, rfl, SqT.of hq, atI_of (k := 1) rfl, _, _, rfl, rfl, bd2 ba bd, _, rfl, q, _, _, _, rfl, rfl, SqT.of hq, atI_of (k := 0) rfl, _, rfl, p, _, _, _, rfl, rfl, SqT.of hp, atI_of (k := 1) rfl, _, _, rfl, rfl, bd2 bc bb, _, _, rfl, rfl, ?_⟩
    refine ⟨_, rfl, p, _, _, _, rfl, rfl, SqT.of hp, atI_of (k := 1) rfl, _, rfl, q, _, _, _, rfl, rfl, SqT.of hq, atI_of (k := 1) rfl, _, _, rfl, rfl, bd2 bb bd, ?_⟩
    exact ⟨_, _, rfl, Int.mul_ne_zero h1 h2, k⟩
theorem ok_mulT {f fR : Addr} {fd fdR : FuncData} (F : Fun K "_law_mul" "_law_mul" sMul f fd) (GR : FnOk P w K mg base CX0 41 fR fdR ["n", "d"] spRatT) (kR : PySem.W.keepIn K (.ref fR) = true) (bR : Binds K fdR ["n", "d"] []) (gR : mg "_law_rat" = some (.ref fR)) :
    FnOk P w K mg base CX0 42 f fd ["a", "b"] spMulT := by
  refine F.ok scMul (fun vs H Q E h => ?_) (fun cdv A outer s H vs Q E hr h => ?_)
  · obtain ⟨p, q, a, b, c, d, rfl, _⟩ := h
    rfl
  · obtain ⟨p, q, a, b, c, d, rfl, hp, hq, h1, h2, ba, bb, bc, bd, k⟩ := h
    refine ⟨_, pss_one (ps_ret (pe_call GR hr (by rfl) gR kR bR .nil pass0 (pa_cons (pe_op op_mulB (pe_ix ix_tup (pv 0) pe_int fun _ _ => rfl) (pe_ix ix_tup (pv 1) pe_int fun _ _ => rfl))
      (pa_cons (pe_op op_mulB (pe_ix ix_tup (pv 0) pe_int fun _ _ => rfl) (pe_ix ix_tup (pv 1) pe_int fun _ _ => rfl)) pa_nil)))), ?_⟩
    refine ⟨_, rfl, p, _, _, _, rfl, rfl, SqT.of hp, atI_of (k := 0) rfl, _, rfl, q, _, _, _, rfl, rfl, SqT.of hq, atI_of (k := 0) rfl, _, _, rfl, rfl, bd2 ba bc, ?_⟩
    refine ⟨_, rfl, p, _, _, _, rfl, rfl, SqT.of hp, atI_of (k := 1) rfl, _, rfl, q, _, _, _, rfl, rfl, SqT.of hq, atI_of (k := 1) rfl, _, _, rfl, rfl, bd2 bb bd, ?_⟩
    exact ⟨_, _, rfl, Int.mul_ne_zero h1 h2, k⟩
end
end Ind

set_option Elab.async false
set_option linter.all false
set_option maxRecDepth 100000
set_option maxHeartbeats 4000000
set_option exponentiation.threshold 9000
namespace Ind
open PySem PySem.Spec PyProof.Rows L2
open Builtin.Int (intBits)
abbrev sSm : Stmt := top 40
/-! ### the law's sums and products over pairs -/
def Bg (q : Q2) : Prop := Bd q.1 ∧ Bd q.2
theorem Bq.bg {m : Nat} {q : Q2} (h : Bq m q) (l : m ≤ 30000000) : Bg q := ⟨Nat.le_trans h.1 l, Nat.le_trans h.2 l⟩
def spRatQ : Sp := fun vs H Q _ => ∃ n d : Int, vs = [.int n, .int d] ∧ d ≠ 0 ∧ ∀ (H' : Hp) (t : Addr), Same H H' → PairQ H' t (mkq n d) → Q (.ref t) H'
def spAddQ : Sp := fun vs H Q _ => ∃ (p r : Addr) (a b : Q2), vs = [.ref p, .ref r] ∧ PairQ H p a ∧ PairQ H r b ∧ a.2 ≠ 0 ∧ b.2 ≠ 0 ∧ Bg a ∧ Bg b ∧ ∀ (H' : Hp) (t : Addr), Same H H' → PairQ H' t (addq a b) → Q (.ref t) H'
def spMulQ : Sp := fun vs H Q _ => ∃ (p r : Addr) (a b : Q2), vs = [.ref p, .ref r] ∧ PairQ H p a ∧ PairQ H r b ∧ a.2 ≠ 0 ∧ b.2 ≠ 0 ∧ Bg a ∧ Bg b ∧ ∀ (H' : Hp) (t : Addr), Same H H' → PairQ H' t (mulq a b) → Q (.ref t) H'
/-- data of pairs -/
def pD (q : Q2) : PyData := .tuple [.int q.1, .int q.2]
theorem dp_pair {K : PySem.W.Frag} {H : Hp} {p : Addr} {q : Q2} (h : PairQ H p q) : Dp K H (.ref p) (pD q) := .tup (SqT.of h) (.cons (.int _) (.cons (.int _) .nil))
theorem dp_all {β : Type} {K : PySem.W.Frag} {H : Hp} {F : FH β} {D : β → PyData} (hF : ∀ p b, F H p b → Dp K H (.ref p) (D b)) : ∀ {ps : List Addr} {bs : List β}, Paired (F H) ps bs → DpAll K H (ps.map V.ref) (bs.map D)
  | _, _, .nil => .nil
  | _, _, .cons a t => .cons (hF _ _ a) (dp_all hF t)
theorem pDs_lay : ∀ qs : List Q2, PyData.canLayAll0 (qs.map pD) = true
  | [] => by simp [PyData.canLayAll0]
  | q :: qs => by simp [PyData.canLayAll0, pDs_lay qs, pD, PyData.canLay0]
theorem pDs_depth : ∀ qs : List Q2, PyData.depthAll (qs.map pD) ≤ 1
  | [] => by simp [PyData.depthAll]
  | q :: qs => by
    have := pDs_depth qs
    simp only [List.map_cons, PyData.depthAll, pD, PyData.depth]
    omega
theorem shape_of {d : PyData} (h1 : d.canLay0 = true) (h2 : d.depth ≤ 64) : SeqAt.shaped d = true := by
  show (d.canLay0 && decide (d.depth ≤ 64)) = true
  rw [Bool.and_eq_true]
  exact ⟨h1, decide_eq_true h2⟩
theorem shape_list (qs : List Q2) : SeqAt.shaped (.list (qs.map pD)) = true := by
  have := pDs_depth qs
  exact shape_of (by simp only [PyData.canLay0]; exact pDs_lay qs) (by simp only [PyData.depth]; omega)
theorem shape_tup (qs : List Q2) : SeqAt.shaped (.tuple (qs.map pD)) = true := by
  have := pDs_depth qs
  exact shape_of (by simp only [PyData.canLay0]; exact pDs_lay qs) (by simp only [PyData.depth]; omega)
theorem shape_pair (q : Q2) : SeqAt.shaped (pD q) = true := shape_of (by simp [pD, PyData.canLay0, PyData.canLayAll0]) (by simp [pD, PyData.depth, PyData.depthAll])
theorem eqv_shape {d : PyData} (h : SeqAt.shaped d = true) : PyData.eqv d d = true := SeqAt.eqv_refl d (SeqAt.canLay_of_shaped h)
theorem none_in : ∀ qs : List Q2, ((qs.map pD).any fun z => PyData.eqv z .none) = false
  | [] => rfl
  | q :: qs => by
    rw [List.map_cons, List.any_cons, none_in qs]
    rfl
def spPairs (C : Addr) : Sp := fun vs H Q _ => ∃ (p : Addr) (qs : List Q2) (n : Nat), vs = [.ref p, .int (n : Int)] ∧ Tp (RatQ C) H p qs ∧ qs.length = n ∧ (∀ q ∈ qs, Lo q) ∧ n ≤ 100 ∧ ∀ (H' : Hp) (t : Addr), Same H H' → Tp PairQ H' t qs → Q (.ref t) H'
/-- a list or a tuple of pairs -/
def PLT : FH (List Q2) := fun H p qs => Ls PairQ H p qs ∨ Tp PairQ H p qs
theorem PLT.same {H H' : Hp} {p : Addr} {qs : List Q2} (s : Same H H') (x : PLT H p qs) : PLT H' p qs := x.imp (Ls.same PairQ.stb s) (VecP.stb.same s)
def spRts (C : Addr) : Sp := fun vs H Q _ => ∃ (p : Addr) (qs : List Q2), vs = [.ref p] ∧ PLT H p qs ∧ (∀ q ∈ qs, Lo q) ∧ qs.length ≤ 100 ∧ ∀ (H' : Hp) (t : Addr), Same H H' → Tp (RatQ C) H' t qs → Q (.ref t) H'
/-- a small number -/
structure Sm (q : Q2) : Prop where
  lo : Lo q
  bq : Bq 4 q
  dv : q.2 ∣ 60
def smq (n d : Int) : Q2 := mkq (n.fmod 19 - 9) (d.fmod 5 + 1)
theorem small_dvd {e : Int} (h : 0 < e) (h2 : e ≤ 5) : e ∣ 60 := by
  rcases (show e = 1 ∨ e = 2 ∨ e = 3 ∨ e = 4 ∨ e = 5 by omega) with rfl | rfl | rfl | rfl | rfl <;> decide
theorem sm_mk (n d : Int) : Sm (smq n d) := by
  have h1 := fmod_in (x := n) (b := 19) (by decide)
  have h2 := fmod_in (x := d) (b := 5) (by decide)
  have hd : d.fmod 5 + 1 ≠ 0 := by omega
  refine ⟨lo_mk hd, bq_mk (PySem.intBits_le_iff.mpr (by omega)) (PySem.intBits_le_iff.mpr (by omega)), ?_⟩
  have h3 := nD_pos (n := n.fmod 19 - 9) hd
  have e := nD_mul (n := n.fmod 19 - 9) hd
  have h4 : nD (n.fmod 19 - 9) (d.fmod 5 + 1) ∣ d.fmod 5 + 1 := ⟨_, e⟩
  have h5 := Int.le_of_dvd (by omega) h4
  exact small_dvd h3 (by show nD _ _ ≤ 5; omega)
def spSm : Sp := fun vs H Q _ => ∃ n d : Int, vs = [.int n, .int d] ∧ ∀ (H' : Hp) (t : Addr), Same H H' → PairQ H' t (smq n d) → Q (.ref t) H'
section
variable {P : Program} {w : World} {K : PySem.W.Frag} {mg : Str → Option Value} {base : Heap} {C Z CM : Addr}
theorem ratQ {f : Addr} {fd : FuncData} (h : FnOk P w K mg base CX0 41 f fd ["n", "d"] spRatT) : FnOk P w K mg base CX0 41 f fd ["n", "d"] spRatQ :=
  h.imp fun vs H Q E ⟨n, d, e, hd, k⟩ => ⟨n, d, e, hd, fun H' t s z => k H' t s z⟩
theorem addQ {f : Addr} {fd : FuncData} (h : FnOk P w K mg base CX0 42 f fd ["a", "b"] spAddT) : FnOk P w K mg base CX0 42 f fd ["a", "b"] spAddQ :=
  h.imp fun vs H Q E ⟨p, r, a, b, e, h1, h2, h3, h4, h5, h6, k⟩ => ⟨p, r, a.1, a.2, b.1, b.2, e, h1, h2, h3, h4, h5.1, h5.2, h6.1, h6.2, fun H' t s z => k H' t s z⟩
theorem mulQ {f : Addr} {fd : FuncData} (h : FnOk P w K mg base CX0 42 f fd ["a", "b"] spMulT) : FnOk P w K mg base CX0 42 f fd ["a", "b"] spMulQ :=
  h.imp fun vs H Q E ⟨p, r, a, b, e, h1, h2, h3, h4, h5, h6, k⟩ => ⟨p, r, a.1, a.2, b.1, b.2, e, h1, h2, h3, h4, h5.1, h5.2, h6.1, h6.2, fun H' t s z => k H' t s z⟩
theorem scSm : FnScope ["n", "d"] ["n", "d"] (defScope sSm) := ⟨rfl, rfl, rfl, by decide +kernel, rfl, by decide +kernel, by decide +kernel⟩
theorem ok_small {f fR : Addr} {fd fdR : FuncData} (F : Fun K "_law_small" "_law_small" sSm f fd) (GR : FnOk P w K mg base CX0 41 fR fdR ["n", "d"] spRatQ) (kR : PySem.W.keepIn K (.ref fR) = true) (bR : Binds K fdR ["n", "d"] []) (gR : mg "_law_rat" = some (.ref fR)) :
    FnOk P w K mg base CX0 42 f fd ["n", "d"] spSm := by
  refine F.ok scSm (fun vs H Q E h => ?_) (fun cdv A outer s H vs Q E hr h => ?_)
  · obtain ⟨n, d, rfl, _⟩ := h
    rfl
  · obtain ⟨n, d, rfl, k⟩ := h
    refine ⟨_, pss_one (ps_ret (pe_call GR hr (by rfl) gR kR bR .nil pass0 (pa_cons (pe_op op_sub (pe_op op_modN (pv 0) pe_int) pe_int) (pa_cons (pe_op op_add (pe_op op_modN (pv 1) pe_int) pe_int) pa_nil)))), ?_⟩
    have h2 := fmod_in (x := d) (b := 5) (by decide)
    exact ⟨_, rfl, _, _, rfl, rfl, (by show (19 : Int) ≠ 0; decide), _, _, rfl, rfl, _, rfl, _, _, rfl, rfl, (by show (5 : Int) ≠ 0; decide), _, _, rfl, rfl, _, _, rfl, (by show d.fmod 5 + 1 ≠ 0; omega), k⟩
end
end Ind

set_option Elab.async false
set_option linter.all false
set_option maxRecDepth 100000
set_option maxHeartbeats 4000000
set_option exponentiation.threshold 9000
namespace Ind
open PySem PySem.Spec PyProof.Rows L2
open Builtin.Int (intBits)
theorem psz_mono {k m : Nat} {qs : List Q2} (h : PSz k qs) (hk : k ≤ m) : PSz m qs := by
  obtain ⟨lo, l, M, m0, mb, hm⟩ := h
  exact ⟨lo, l, M, m0, Nat.le_trans mb hk, fun q hq => ⟨(hm q hq).1, Nat.le_trans (hm q hq).2 hk⟩⟩
theorem fs_row (qs : List Q2) : Fs (rowF qs) qs.length := fun j hj => rowF_out hj
/-- a number whose M-fold is an int of at most B -/
def Mq (M : Int) (B : Nat) (q : Q2) : Prop := Lo q ∧ ∃ z : Int, ((z : Int) : Rat) = ((M : Int) : Rat) * rv q ∧ z.natAbs ≤ B
theorem mq_parts {M z : Int} {q : Q2} (lo : Lo q) (h : ((z : Int) : Rat) = ((M : Int) : Rat) * rv q) : q.2 ∣ M ∧ q.1 * M.fdiv q.2 = z := by
  have hd := cst_ne lo.ne
  have e : ((z : Int) : Rat) * ((q.2 : Int) : Rat) = ((M : Int) : Rat) * ((q.1 : Int) : Rat) := by
    rw [h]
    unfold rv
    grind
  have e2 : z * q.2 = M * q.1 := by
    rw [← Rat.intCast_mul, ← Rat.intCast_mul] at e
    exact_mod_cast e
  have d : q.2 ∣ M := by
    refine Int.natAbs_dvd_natAbs.mp ?_
    have h1 : q.2.natAbs ∣ M.natAbs * q.1.natAbs := by
      rw [← Int.natAbs_mul, ← e2, Int.natAbs_mul]
      exact Nat.dvd_mul_left _ _
    exact (Nat.Coprime.symm (show Nat.Coprime q.1.natAbs q.2.natAbs from lo.low)).dvd_of_dvd_mul_right h1
  refine ⟨d, ?_⟩
  obtain ⟨c, hc⟩ := d
  have hf : M.fdiv q.2 = c := by
    rw [hc, Int.mul_comm]
    exact Int.mul_fdiv_cancel _ (Int.ne_of_gt lo.pos)
  rw [hf]
  have : q.2 * (q.1 * c) = q.2 * z := by
    rw [Int.mul_comm q.2 z, e2, hc]
    rw [Int.mul_comm q.1 c, Int.mul_assoc]
  exact Int.eq_of_mul_eq_mul_left lo.ne this
theorem mq_abs {M : Int} {B : Nat} {q : Q2} (hM : 0 < M) (h : Mq M B q) : q.1.natAbs ≤ B ∧ q.2.natAbs ≤ M.natAbs := by
  obtain ⟨lo, z, e, hz⟩ := h
  obtain ⟨d, ez⟩ := mq_parts lo e
  obtain ⟨c, hc⟩ := d
  have hf : M.fdiv q.2 = c := by
    rw [hc, Int.mul_comm]
    exact Int.mul_fdiv_cancel _ (Int.ne_of_gt lo.pos)
  rw [hf] at ez
  have hc0 : c ≠ 0 := fun e => by
    rw [e, Int.mul_zero] at hc
    omega
  constructor
  · have : z.natAbs = q.1.natAbs * c.natAbs := by rw [← ez, Int.natAbs_mul]
    have h2 := Nat.le_mul_of_pos_right q.1.natAbs (show 0 < c.natAbs by omega)
    omega
  · rw [hc, Int.natAbs_mul]
    exact Nat.le_mul_of_pos_right _ (by omega)
theorem mq_bq {M : Int} {B m : Nat} {q : Q2} (hM : 0 < M) (h : Mq M B q) (h1 : B < 2 ^ m) (h2 : M.natAbs < 2 ^ m) : Bq m q := by
  obtain ⟨a, b⟩ := mq_abs hM h
  exact ⟨PySem.intBits_le_iff.mpr (by omega), PySem.intBits_le_iff.mpr (by omega)⟩
theorem mq_psz {M : Int} {B m : Nat} {qs : List Q2} (hM : 0 < M) (h : ∀ q ∈ qs, Mq M B q) (h1 : B < 2 ^ m) (h2 : M.natAbs < 2 ^ m) (hl : qs.length ≤ 100) : PSz m qs := by
  refine ⟨fun q hq => (h q hq).1, hl, M, hM, PySem.intBits_le_iff.mpr h2, fun q hq => ?_⟩
  obtain ⟨lo, z, e, hz⟩ := h q hq
  obtain ⟨d, ez⟩ := mq_parts lo e
  exact ⟨d, by rw [ez]; exact PySem.intBits_le_iff.mpr (by omega)⟩
theorem mq_mono {M : Int} {B B' : Nat} {q : Q2} (h : Mq M B q) (l : B ≤ B') : Mq M B' q := let ⟨lo, z, e, hz⟩ := h; ⟨lo, z, e, Nat.le_trans hz l⟩
theorem mq_add {M : Int} {B1 B2 : Nat} {a b : Q2} (ha : Mq M B1 a) (hb : Mq M B2 b) : Mq M (B1 + B2) (addq a b) := by
  obtain ⟨la, z, ez, hz⟩ := ha
  obtain ⟨lb, y, ey, hy⟩ := hb
  refine ⟨lo_add la.ne lb.ne, z + y, ?_, by omega⟩
  rw [rv_add la.ne lb.ne, Rat.intCast_add, ez, ey]
  grind
theorem mq_mul {M N : Int} {B1 B2 : Nat} {a b : Q2} (ha : Mq M B1 a) (hb : Mq N B2 b) : Mq (M * N) (B1 * B2) (mulq a b) := by
  obtain ⟨la, z, ez, hz⟩ := ha
  obtain ⟨lb, y, ey, hy⟩ := hb
  refine ⟨lo_mul la.ne lb.ne, z * y, ?_, by rw [Int.natAbs_mul]; exact Nat.mul_le_mul hz hy⟩
  rw [rv_mul la.ne lb.ne, Rat.intCast_mul, Rat.intCast_mul, ez, ey]
  grind
theorem mq_up {M : Int} {B : Nat} {q : Q2} (h : Mq M B q) (c : Nat) : Mq (M * c) (B * c) q := by
  obtain ⟨lo, z, e, hz⟩ := h
  refine ⟨lo, z * (c : Int), ?_, by rw [Int.natAbs_mul, Int.natAbs_natCast]; exact Nat.mul_le_mul_right _ hz⟩
  rw [Rat.intCast_mul, Rat.intCast_mul, e]
  grind
theorem mq_q0 (M : Int) (B : Nat) : Mq M B q0 := ⟨lo_q0, 0, by rw [rv_q0]; show (0 : Rat) = _; grind, Nat.zero_le _⟩
theorem mq_sm {q : Q2} (h : Sm q) : Mq 60 900 q := by
  obtain ⟨lo, bq, d⟩ := h
  obtain ⟨c, hc⟩ := d
  refine ⟨lo, q.1 * c, ?_, ?_⟩
  · rw [hc, Rat.intCast_mul, Rat.intCast_mul]
    have := cst_ne lo.ne
    unfold rv
    grind
  · have hp := lo.pos
    have h1 : q.1.natAbs < 2 ^ 4 := PySem.intBits_le_iff.mp bq.1
    have h2 : c.natAbs ≤ 60 := by
      have e : (60 : Int).natAbs = q.2.natAbs * c.natAbs := by rw [hc, Int.natAbs_mul]
      have := Nat.le_mul_of_pos_left c.natAbs (show 0 < q.2.natAbs by omega)
      have e2 : (60 : Int).natAbs = 60 := rfl
      omega
    rw [Int.natAbs_mul]
    have := Nat.mul_le_mul (show q.1.natAbs ≤ 15 by omega) h2
    omega
/-! ### the row without the zeros at its end, by a walk from the end -/
theorem trim_walk {qs : List Q2} {i : Nat} {q : Q2} (h : qs[i]? = some q) (z : q.1 = 0) : trimQ (qs.take i) = trimQ (qs.take (i + 1)) := by
  rw [take_snoc h, trim_snoc z]
theorem trim_stop {qs : List Q2} {i : Nat} {q : Q2} (h : qs[i]? = some q) (z : q.1 ≠ 0) : trimQ (qs.take (i + 1)) = qs.take (i + 1) := by
  rw [take_snoc h, trim_id z]
theorem trim_fs {qs : List Q2} {n : Nat} (ht : Trim qs) (lo : ∀ q ∈ qs, Lo q) (h : Fs (rowF qs) n) : qs.length ≤ n := by
  apply Nat.le_of_not_lt
  intro hl
  obtain ⟨m, hm⟩ : ∃ m, qs.length = m + 1 := ⟨qs.length - 1, by omega⟩
  exact trim_top ht lo hm (h m (by omega))
end Ind

set_option Elab.async false
set_option linter.all false
set_option maxRecDepth 100000
set_option maxHeartbeats 4000000
set_option exponentiation.threshold 9000
namespace Ind
open PySem PySem.Spec PyProof.Rows L2
open Builtin.Int (intBits)
abbrev sLt : Stmt := top 41
abbrev sLa : Stmt := top 42
theorem tp_at {β : Type} {F : FH β} {H : Hp} {t : Addr} {bs : List β} {i : Nat} {b : β} (h : Tp F H t bs) (hb : bs[i]? = some b) : ∃ (ps : List Addr) (p : Addr), H t = some (.tup (ps.map V.ref)) ∧ (ps.map V.ref)[i]? = some (V.ref p) ∧ F H p b := by
  obtain ⟨ps, e, q⟩ := h
  obtain ⟨p, hp, f⟩ := Paired.at2 q hb
  exact ⟨ps, p, e, ref_at hp, f⟩
theorem ls_at {β : Type} {F : FH β} {H : Hp} {t : Addr} {bs : List β} {i : Nat} {b : β} (h : Ls F H t bs) (hb : bs[i]? = some b) : ∃ (ps : List Addr) (p : Addr), H t = some (.lst (ps.map V.ref)) ∧ (ps.map V.ref)[i]? = some (V.ref p) ∧ F H p b := by
  obtain ⟨ps, e, q⟩ := h
  obtain ⟨p, hp, f⟩ := Paired.at2 q hb
  exact ⟨ps, p, e, ref_at hp, f⟩
theorem at_d {qs : List Q2} {j : Nat} (h : j < qs.length) : ∃ q, qs[j]? = some q ∧ qs.getD j q0 = q ∧ q ∈ qs := by
  have e : qs[j]? = some qs[j] := List.getElem?_eq_getElem h
  exact ⟨qs[j], e, getD_q e, List.mem_of_getElem? e⟩
theorem paired_take {α β : Type} {F : α → β → Prop} : ∀ {xs : List α} {ys : List β}, Paired F xs ys → ∀ i, Paired F (xs.take i) (ys.take i)
  | _, _, _, 0 => .nil
  | _, _, .nil, _ + 1 => .nil
  | _, _, .cons a t, i + 1 => .cons a (paired_take t i)
def spLt : Sp := fun vs H Q _ => ∃ (l : Addr) (qs : List Q2), vs = [.ref l] ∧ Ls PairQ H l qs ∧ qs.length ≤ 1000 ∧ ∀ (H' : Hp) (t : Addr), Same H H' → Tp PairQ H' t (trimQ qs) → Q (.ref t) H'
/-- the sum of two rows, the first i items -/
def adR (as bs : List Q2) (i : Nat) : List Q2 := (List.range i).map fun j => addq (as.getD j q0) (bs.getD j q0)
theorem adR_len (as bs : List Q2) (i : Nat) : (adR as bs i).length = i := by
  unfold adR
  rw [List.length_map, List.length_range]
theorem adR_succ (as bs : List Q2) (i : Nat) : adR as bs (i + 1) = adR as bs i ++ [addq (as.getD i q0) (bs.getD i q0)] := by
  unfold adR
  rw [List.range_succ, List.map_append]
  rfl
theorem adR_mem {as bs : List Q2} {i : Nat} {q : Q2} (h : q ∈ adR as bs i) : ∃ j, q = addq (as.getD j q0) (bs.getD j q0) := by
  unfold adR at h
  obtain ⟨j, _, rfl⟩ := List.mem_map.mp h
  exact ⟨j, rfl⟩
theorem lo_getD {qs : List Q2} (h : ∀ q ∈ qs, Lo q) (j : Nat) : Lo (qs.getD j q0) := by
  by_cases c : j < qs.length
  · obtain ⟨q, _, e, hm⟩ := at_d c
    rw [e]
    exact h q hm
  · rw [getD_out (by omega)]
    exact lo_q0
theorem mq_getD {qs : List Q2} {M : Int} {B : Nat} (h : ∀ q ∈ qs, Mq M B q) (j : Nat) : Mq M B (qs.getD j q0) := by
  by_cases c : j < qs.length
  · obtain ⟨q, _, e, hm⟩ := at_d c
    rw [e]
    exact h q hm
  · rw [getD_out (by omega)]
    exact mq_q0 _ _
theorem adR_row {as bs : List Q2} {i : Nat} (la : ∀ q ∈ as, Lo q) (lb : ∀ q ∈ bs, Lo q) (h1 : as.length ≤ i) (h2 : bs.length ≤ i) (j : Nat) : rowF (adR as bs i) j = rowF as j + rowF bs j := by
  by_cases c : j < i
  · have e : (adR as bs i)[j]? = some (addq (as.getD j q0) (bs.getD j q0)) := by
      unfold adR
      rw [List.getElem?_map, List.getElem?_range c]
      rfl
    show rv ((adR as bs i).getD j q0) = _
    rw [getD_q e, rv_add (lo_getD la j).ne (lo_getD lb j).ne]
    rfl
  · rw [rowF_out (by rw [adR_len]; omega), rowF_out (by omega), rowF_out (by omega)]
    grind
def spLa : Sp := fun vs H Q _ => ∃ (p r : Addr) (as bs : List Q2) (M : Int) (B1 B2 : Nat), vs = [.ref p, .ref r] ∧ Tp PairQ H p as ∧ Tp PairQ H r bs ∧ as.length ≤ 100 ∧ bs.length ≤ 100 ∧ 0 < M ∧ M.natAbs < 2 ^ 200 ∧ B1 < 2 ^ 200 ∧ B2 < 2 ^ 200 ∧ (∀ q ∈ as, Mq M B1 q) ∧ (∀ q ∈ bs, Mq M B2 q) ∧
  ∀ (H' : Hp) (t : Addr) (rs : List Q2), Same H H' → Tp PairQ H' t rs → Trim rs → (∀ q ∈ rs, Mq M (B1 + B2) q) → rs.length ≤ max as.length bs.length → (∀ j, rowF rs j = rowF as j + rowF bs j) → Q (.ref t) H'
section
variable {P : Program} {w : World} {K : PySem.W.Frag} {mg : Str → Option Value} {base : Heap} {C Z CP : Addr}
abbrev nLt : List Str := ["row", "size"]
theorem scLt : FnScope nLt ["row"] (defScope sLt) := ⟨rfl, rfl, rfl, by decide +kernel, rfl, by decide +kernel, by decide +kernel⟩
theorem ok_lt {f : Addr} {fd : FuncData} (F : Fun K "_law_trim" "_law_trim" sLt f fd) (T : TxL K mg) (TP : TxP K mg CP) : FnOk P w K mg base CX0 1 f fd ["row"] spLt := by
  refine F.ok scLt (fun vs H Q E h => ?_) (fun cdv A outer s H vs Q E hr h => ?_)
  · obtain ⟨l, qs, rfl, _⟩ := h
    rfl
  · obtain ⟨l, qs, rfl, hL, hn, k⟩ := h
    refine ⟨_, pss_cons (ps_set (i := 1) scLt.nd rfl (Or.inl rfl) (pe_callB call_len_seq (by rfl) T.len PySem.boot_len (pa_cons (pv 0) pa_nil)))
      (C8.pss_cut (ps_while PassesOwn.never (PW.pt (pw_and (pt_cmpR op_gt (pv 1) pe_int (nomark _)) (pw_and1 (pt_cmpR op_eq (pe_ix ix_tup (pe_ix ix_list (pv 0) (pe_op op_sub (pv 1) pe_int) fun _ _ => rfl) pe_int fun _ _ => rfl) pe_int (nomark _)))))
        (pss_one (ps_set (i := 1) scLt.nd rfl (Or.inl rfl) (pe_op op_sub (pv 1) pe_int))))
      (pss_one (ps_ret (pe_callTy call_tuple_of (by rfl) TP.tuple (by decide +kernel) (pa_cons (pe_slice sl_list (pv 0) po_none (po_some (pv 1))) pa_nil))))), ?_⟩
    obtain ⟨pa, ea, qa⟩ := hL
    have hlen := qa.length
    refine ⟨_, rfl, l, _, rfl, .inl (SqL.of ea), ?_⟩
    rw [List.length_map, hlen]
    refine ⟨fun σ' H' => H' = H ∧ ∃ i : Nat, σ' = [some (.ref l), some (.int (i : Int))] ∧ i ≤ qs.length ∧ trimQ qs = qs.take i, ?_, ?_⟩
    · refine while_by (fun σ' H' => H' = H ∧ ∃ i : Nat, σ' = [some (.ref l), some (.int (i : Int))] ∧ i ≤ qs.length ∧ trimQ (qs.take i) = trimQ qs) (fun σ _ => match σ[1]? with | some (some (V.int y)) => y.toNat | _ => 0) ⟨rfl, qs.length, rfl, Nat.le_refl _, by rw [List.take_length]⟩ ?_ ?_
      · rintro σ H' ⟨rfl, i, rfl, hi, hz⟩
        refine ⟨_, rfl, _, _, rfl, rfl, _, rfl, ?_⟩
        rcases Nat.eq_zero_or_pos i with e | hpos
        · subst e
          rw [show decide ((0 : Int) < (((0 : Nat)) : Int)) = false from by decide]
          exact iteF (iteF ⟨rfl, 0, rfl, hi, by rw [← hz]; rfl⟩)
        · obtain ⟨n, rfl⟩ : ∃ n, i = n + 1 := ⟨i - 1, by omega⟩
          obtain ⟨q, hq, _, hm⟩ := at_d (qs := qs) (j := n) (by omega)
          obtain ⟨a, ha, hqa⟩ := Paired.at2 qa hq
          have e1 : ((n + 1 : Nat) : Int) - 1 = (n : Int) := by omega
          rw [show decide ((0 : Int) < ((n + 1 : Nat) : Int)) = true from decide_eq_true (by omega)]
          refine iteT ⟨_, rfl, _, rfl, _, _, rfl, rfl, l, _, _, V.ref a, rfl, rfl, SqL.of ea, (by rw [e1]; exact atI_of (ref_at ha)), a, _, _, V.int q.1, rfl, rfl, SqT.of hqa, atI_of (k := 0) rfl, rfl, _, rfl, ite2 (fun c => ?_) (fun c => ?_)⟩
          · have hq0 : q.1 = 0 := V.int.inj (of_decide_eq_true c)
            refine ⟨_, rfl, _, _, rfl, rfl, ⟨rfl, n, ?_, by omega, by rw [trim_walk hq hq0, hz]⟩, ?_⟩
            · rw [← e1]
              rfl
            · show (((n + 1 : Nat) : Int) - 1).toNat < ((n + 1 : Nat) : Int).toNat
              omega
          · have hq0 : q.1 ≠ 0 := fun z => c (decide_eq_true (by rw [z]))
            exact ⟨rfl, n + 1, rfl, hi, by rw [← hz, trim_stop hq hq0]⟩
      · rintro σ H' R1 R2 hR ⟨v, e1, i, j, e2, e3, c, e4, h⟩
        refine ⟨v, e1, i, j, e2, e3, c, e4, ?_⟩
        cases c with
        | false => exact hR _ _ h
        | true =>
          obtain ⟨a0, a1, b0, b1, i1, j1, d1, d2, p2, x2, i2, u2, g1, g2, g3, g4, p3, x3, i3, u3, g5, g6, g7, g8, z1, c2, z2, h2⟩ := h
          exact ⟨a0, a1, b0, b1, i1, j1, d1, d2, p2, x2, i2, u2, g1, g2, g3, g4, p3, x3, i3, u3, g5, g6, g7, g8, z1, c2, z2, hR _ _ h2⟩
    rintro σ' H' ⟨rfl, i, rfl, hi, hz⟩
    refine ⟨_, rfl, _, rfl, _, rfl, l, _, rfl, SqL.of ea, fun t ht => ?_⟩
    have hcut : cutV (pa.map V.ref) none (some (i : Int)) = (pa.take i).map V.ref := by
      unfold cutV HT.sIx
      simp only [List.length_map]
      rw [if_neg (by omega)]
      show List.take (min (i : Int).toNat pa.length - 0) (List.drop 0 (pa.map V.ref)) = _
      rw [Int.toNat_natCast, Nat.min_eq_left (by omega), Nat.sub_zero, List.drop_zero, List.map_take]
    rw [hcut]
    have s1 : Same H' (upd H' t (.lst ((pa.take i).map V.ref))) := same_upd ht
    refine ⟨t, _, rfl, .inl ⟨SqL.of upd_same, fun t2 ht2 => ?_⟩⟩
    have s2 := same_upd (o := .tup ((pa.take i).map V.ref)) ht2
    refine k _ t2 (s1.trans s2) ?_
    rw [hz]
    exact ⟨pa.take i, upd_same, Paired.imp (fun _ _ f => PairQ.stb.same (s1.trans s2) f) (paired_take qa i)⟩
abbrev nLa : List Str := ["p", "q", "out", "k", "a", "b"]
theorem scLa : FnScope nLa ["p", "q"] (defScope sLa) := ⟨rfl, rfl, rfl, by decide +kernel, rfl, by decide +kernel, by decide +kernel⟩
theorem ok_la {f fT fA : Addr} {fd fdT fdA : FuncData} (F : Fun K "_law_padd" "_law_padd" sLa f fd) (T : TxL K mg) (gM : mg "max" = none) (GT : FnOk P w K mg base CX0 1 fT fdT ["row"] spLt) (kT : PySem.W.keepIn K (.ref fT) = true) (bT : Binds K fdT ["row"] []) (gT : mg "_law_trim" = some (.ref fT))
    (GA : FnOk P w K mg base CX0 42 fA fdA ["a", "b"] spAddQ) (kA : PySem.W.keepIn K (.ref fA) = true) (bA : Binds K fdA ["a", "b"] []) (gA : mg "_law_add" = some (.ref fA)) : FnOk P w K mg base CX0 43 f fd ["p", "q"] spLa := by
  refine F.ok scLa (fun vs H Q E h => ?_) (fun cdv A outer s H vs Q E hr h => ?_)
  · obtain ⟨p, r, as, bs, M, B1, B2, rfl, _⟩ := h
    rfl
  · obtain ⟨p, r, as, bs, M, B1, B2, rfl, hp, hq, la, lb, hM, hM2, hB1, hB2, ha, hb, k⟩ := h
    have h1 := hr.mono (show 1 ≤ 42 by decide)
    refine ⟨_, pss_cons (ps_set (i := 2) scLa.nd rfl (Or.inl rfl) (pe_lst pa_nil))
      (pss_cons (ps_for PassesOwn.never rfl (pi_range1 (by rfl) T.range (pa_cons (pe_callB (call_max2 rfl) (by rfl) gM (by decide +kernel) (pa_cons (pe_callB call_len_seq (by rfl) T.len PySem.boot_len (pa_cons (pv 0) pa_nil)) (pa_cons (pe_callB call_len_seq (by rfl) T.len PySem.boot_len (pa_cons (pv 1) pa_nil)) pa_nil))) pa_nil)) (pg_name (i := 3) scLa.nd rfl (Or.inl rfl))
        (C8.pss_cut (ps_set (i := 4) scLa.nd rfl (Or.inl rfl) (pe_ifExp (pt_cmpR op_lt (pv 3) (pe_callB call_len_seq (by rfl) T.len PySem.boot_len (pa_cons (pv 0) pa_nil)) (nomark _)) (pe_ix ix_tup (pv 0) (pv 3) fun _ _ => rfl) (pe_tup (pa_cons pe_int (pa_cons pe_int pa_nil)))))
        (C8.pss_cut (ps_set (i := 5) scLa.nd rfl (Or.inl rfl) (pe_ifExp (pt_cmpR op_lt (pv 3) (pe_callB call_len_seq (by rfl) T.len PySem.boot_len (pa_cons (pv 1) pa_nil)) (nomark _)) (pe_ix ix_tup (pv 1) (pv 3) fun _ _ => rfl) (pe_tup (pa_cons pe_int (pa_cons pe_int pa_nil)))))
        (pss_one (ps_expr (pe_bm PySem.F.plainAttrs_list PySem.F.slot_list_append PySem.F.type_list_append mt_append (pv 2) (pa_cons (pe_call GA hr (by rfl) gA kA bA .nil pass0 (pa_cons (pv 4) (pa_cons (pv 5) pa_nil))) pa_nil)))))))
      (pss_one (ps_ret (pe_call GT h1 (by rfl) gT kT bT .nil pass0 (pa_cons (pv 2) pa_nil))))), ?_⟩
    obtain ⟨pa, ea, qa⟩ := id hp
    obtain ⟨pb, eb, qb⟩ := id hq
    have e1 := qa.length
    have e2 := qb.length
    refine ⟨(by show 0 ≤ sizeLine; decide), fun D hD => ?_⟩
    have sD : Same H (upd H D (.lst [])) := same_upd hD
    have emax : (if (((pb.map V.ref).length : Nat) : Int) > (((pa.map V.ref).length : Nat) : Int) then (((pb.map V.ref).length : Nat) : Int) else (((pa.map V.ref).length : Nat) : Int)) = ((max as.length bs.length : Nat) : Int) := by
      rw [List.length_map, List.length_map, e1, e2]
      split <;> omega
    refine ⟨_, rfl, p, _, rfl, .inr (SqT.of (sD _ _ ea)), _, rfl, r, _, rfl, .inr (SqT.of (sD _ _ eb)), _, _, rfl, ((max as.length bs.length : Nat) : Int), congrArg (fun z => [V.int z]) emax, by omega, by omega, ?_⟩
    rw [Int.toNat_natCast]
    have mA : ∀ q ∈ as, Lo q := fun q hq => (ha q hq).1
    have mB : ∀ q ∈ bs, Lo q := fun q hq => (hb q hq).1
    have bg : ∀ {B : Nat} {q : Q2}, B < 2 ^ 200 → Mq M B q → Bg q := fun {B q} h1 h2 => (mq_bq (m := 200) hM h2 h1 hM2).bg (by decide)
    have pick : ∀ {cs : List Q2} {x : Addr} {D2 : Ends} {H5 : Hp} {i : Nat} {cnt : Nat}, True := fun {_ _ _ _ _ _} => trivial
    refine for_it (walk_range (lo := 0) (n := max as.length bs.length))
      (fun i σ H5 => ∃ v3 v4 v5 : Option V, σ = [some (.ref p), some (.ref r), some (.ref D), v3, v4, v5] ∧ Col PairQ D H H5 (adR as bs i))
      ⟨none, none, none, rfl, Col.start hD⟩ (fun i σ H5 _ _ => trivial) ?_ ?_
    · rintro i x σ H0 H5 hi ⟨v3, v4, v5, rfl, z⟩ y
      obtain ⟨rfl, ey⟩ := y
      have ey2 : x = V.int (i : Int) := ey.trans (by show V.int _ = _; rw [Int.zero_add])
      subst ey2
      refine ⟨fun σ' H6 => ∃ t : Addr, σ' = [some (.ref p), some (.ref r), some (.ref D), some (.int (i : Int)), some (.ref t), v5] ∧ Same H5 H6 ∧ PairQ H6 t (as.getD i q0), ?_, ?_⟩
      · refine ⟨_, rfl, _, rfl, p, _, rfl, .inr (SqT.of (z.s _ _ ea)), _, _, rfl, rfl, _, rfl, ?_⟩
        rw [List.length_map, e1]
        by_cases c : i < as.length
        · obtain ⟨q, hq1, hq2, _⟩ := at_d c
          obtain ⟨a, ha1, ha2⟩ := Paired.at2 qa hq1
          rw [show decide (((i : Nat) : Int) < ((as.length : Nat) : Int)) = true from decide_eq_true (by omega)]
          refine iteT ⟨_, rfl, _, rfl, p, _, _, V.ref a, rfl, rfl, SqT.of (z.s _ _ ea), atI_of (ref_at ha1), a, rfl, same_rfl, ?_⟩
          rw [hq2]
          exact PairQ.stb.same z.s ha2
        · rw [show decide (((i : Nat) : Int) < ((as.length : Nat) : Int)) = false from decide_eq_false (by omega)]
          refine iteF ⟨(by show 2 ≤ sizeLine; decide), fun t ht => ⟨t, rfl, same_upd ht, ?_⟩⟩
          rw [getD_out (by omega)]
          exact upd_same
      rintro σ' H6 ⟨t1, rfl, s6, ht1⟩
      refine ⟨fun σ' H7 => ∃ t : Addr, σ' = [some (.ref p), some (.ref r), some (.ref D), some (.int (i : Int)), some (.ref t1), some (.ref t)] ∧ Same H6 H7 ∧ PairQ H7 t (bs.getD i q0), ?_, ?_⟩
      · refine ⟨_, rfl, _, rfl, r, _, rfl, .inr (SqT.of (s6 _ _ (z.s _ _ eb))), _, _, rfl, rfl, _, rfl, ?_⟩
        rw [List.length_map, e2]
        by_cases c : i < bs.length
        · obtain ⟨q, hq1, hq2, _⟩ := at_d c
          obtain ⟨a, ha1, ha2⟩ := Paired.at2 qb hq1
          rw [show decide (((i : Nat) : Int) < ((bs.length : Nat) : Int)) = true from decide_eq_true (by omega)]
          refine iteT ⟨_, rfl, _, rfl, r, _, _, V.ref a, rfl, rfl, SqT.of (s6 _ _ (z.s _ _ eb)), atI_of (ref_at ha1), a, rfl, same_rfl, ?_⟩
          rw [hq2]
          exact PairQ.stb.same (z.s.trans s6) ha2
        · rw [show decide (((i : Nat) : Int) < ((bs.length : Nat) : Int)) = false from decide_eq_false (by omega)]
          refine iteF ⟨(by show 2 ≤ sizeLine; decide), fun t ht => ⟨t, rfl, same_upd ht, ?_⟩⟩
          rw [getD_out (by omega)]
          exact upd_same
      rintro σ' H7 ⟨t2, rfl, s7, ht2⟩
      have s57 := s6.trans s7
      have eD : ∃ xs, H7 D = some (.lst xs) := by
        obtain ⟨ps, e, _⟩ := z.at_
        exact ⟨_, s57 _ _ e⟩
      obtain ⟨xs, eD⟩ := eD
      have mqa := mq_getD ha i
      have mqb := mq_getD hb i
      refine ⟨_, rfl, .inl ⟨rfl, _, SqL.of eD⟩, _, rfl, _, rfl, t1, t2, _, _, rfl, PairQ.stb.same s7 ht1, ht2, mqa.1.ne, mqb.1.ne, bg hB1 mqa, bg hB2 mqb, fun H8 t3 s8 ht3 => ?_⟩
      obtain ⟨acc, f1, f2, f3⟩ := z.push (PairQ.stb.x D) hD (s57.trans s8) ht3 (by rw [adR_len]; omega)
      exact ⟨D, acc, _, rfl, rfl, f1, f2, _, _, _, rfl, by rw [adR_succ]; exact f3⟩
    · rintro σ H5 ⟨v3, v4, v5, rfl, z⟩
      refine ⟨_, rfl, D, _, rfl, z.at_, by rw [adR_len]; omega, fun H6 t s6 ht => ?_⟩
      have tl := trim_len (adR as bs (max as.length bs.length))
      rw [adR_len] at tl
      refine k H6 t _ (z.s.trans s6) ht (trim_trim _) (fun q hq => ?_) tl fun j => ?_
      · obtain ⟨j, rfl⟩ := adR_mem (trim_mem hq)
        exact mq_add (mq_getD ha j) (mq_getD hb j)
      · rw [trim_row, adR_row mA mB (by omega) (by omega)]
end
end Ind

set_option Elab.async false
set_option linter.all false
set_option maxRecDepth 100000
set_option maxHeartbeats 4000000
set_option exponentiation.threshold 9000
namespace Ind
open PySem PySem.Spec PyProof.Rows L2
open Builtin.Int (intBits)
abbrev sLm : Stmt := top 43
theorem paired_set {α β : Type} {F : α → β → Prop} {x : α} {y : β} (h : F x y) : ∀ {xs : List α} {ys : List β}, Paired F xs ys → ∀ i, Paired F (xs.set i x) (ys.set i y)
  | _, _, .nil, _ => .nil
  | _, _, .cons _ t, 0 => .cons h t
  | _, _, .cons a t, i + 1 => .cons a (paired_set h t i)
theorem getD_setq {qs : List Q2} {i : Nat} {q : Q2} (h : i < qs.length) (j : Nat) : (qs.set i q).getD j q0 = if j = i then q else qs.getD j q0 := by
  rw [List.getD_eq_getElem?_getD, List.getElem?_set]
  by_cases e : j = i
  · subst e
    rw [if_pos rfl, if_pos h, if_pos rfl]
    rfl
  · rw [if_neg (fun z => e z.symm), if_neg e, List.getD_eq_getElem?_getD]
theorem rowF_set {qs : List Q2} {i : Nat} {q : Q2} (h : i < qs.length) (j : Nat) : rowF (qs.set i q) j = if j = i then rv q else rowF qs j := by
  unfold rowF
  rw [List.getD_eq_getElem?_getD, List.getElem?_set]
  by_cases e : j = i
  · subst e
    rw [if_pos rfl, if_pos h, if_pos rfl]
    rfl
  · rw [if_neg (fun z => e z.symm), if_neg e, List.getD_eq_getElem?_getD]
/-- the items of a product after i rows -/
def pS (as bs : List Q2) (i j : Nat) : Rat := sumTo i fun t => if t ≤ j then rowF as t * rowF bs (j - t) else 0
theorem pS_succ (as bs : List Q2) (i j : Nat) : pS as bs (i + 1) j = pS as bs i j + if i ≤ j then rowF as i * rowF bs (j - i) else 0 := rfl
theorem rep_row (n j : Nat) : rowF (List.replicate n q0) j = 0 := by
  unfold rowF
  rw [List.getD_eq_getElem?_getD, List.getElem?_replicate]
  split <;> exact rv_q0
def spLm : Sp := fun vs H Q _ => ∃ (p r : Addr) (as bs : List Q2) (M N : Int) (B1 B2 : Nat), vs = [.ref p, .ref r] ∧ Tp PairQ H p as ∧ Tp PairQ H r bs ∧ as.length ≤ 20 ∧ bs.length ≤ 20 ∧ 0 < M ∧ 0 < N ∧ M.natAbs < 2 ^ 200 ∧ N.natAbs < 2 ^ 200 ∧ B1 < 2 ^ 200 ∧ B2 < 2 ^ 200 ∧ (∀ q ∈ as, Mq M B1 q) ∧ (∀ q ∈ bs, Mq N B2 q) ∧
  ∀ (H' : Hp) (t : Addr) (rs : List Q2), Same H H' → Tp PairQ H' t rs → Trim rs → (∀ q ∈ rs, Mq (M * N) (B1 * B2 * as.length) q) → rs.length ≤ as.length + bs.length → (∀ j, rowF rs j = cv (rowF as) (rowF bs) j) → Q (.ref t) H'
section
variable {P : Program} {w : World} {K : PySem.W.Frag} {mg : Str → Option Value} {base : Heap} {C Z CP : Addr}
abbrev nLm : List Str := ["p", "q", "k", "out", "j"]
theorem scLm : FnScope nLm ["p", "q"] (defScope sLm) := ⟨rfl, rfl, rfl, by decide +kernel, rfl, by decide +kernel, by decide +kernel⟩
theorem ok_lm {f fT fA fM : Addr} {fd fdT fdA fdM : FuncData} (F : Fun K "_law_pmul" "_law_pmul" sLm f fd) (T : TxL K mg) (GT : FnOk P w K mg base CX0 1 fT fdT ["row"] spLt) (kT : PySem.W.keepIn K (.ref fT) = true) (bT : Binds K fdT ["row"] []) (gT : mg "_law_trim" = some (.ref fT))
    (GA : FnOk P w K mg base CX0 42 fA fdA ["a", "b"] spAddQ) (kA : PySem.W.keepIn K (.ref fA) = true) (bA : Binds K fdA ["a", "b"] []) (gA : mg "_law_add" = some (.ref fA))
    (GM : FnOk P w K mg base CX0 42 fM fdM ["a", "b"] spMulQ) (kM : PySem.W.keepIn K (.ref fM) = true) (bM : Binds K fdM ["a", "b"] []) (gM : mg "_law_mul" = some (.ref fM)) : FnOk P w K mg base CX0 43 f fd ["p", "q"] spLm := by
  refine F.ok scLm (fun vs H Q E h => ?_) (fun cdv A outer s H vs Q E hr h => ?_)
  · obtain ⟨p, r, as, bs, M, N, B1, B2, rfl, _⟩ := h
    rfl
  · obtain ⟨p, r, as, bs, M, N, B1, B2, rfl, hp, hq, la, lb, hM, hN, hM2, hN2, hB1, hB2, ha, hb, k⟩ := h
    have h1 := hr.mono (show 1 ≤ 42 by decide)
    refine ⟨_, pss_cons (ps_setLc (i := 3) (own := [("k", 2)]) (g := gName 2) (tt := tYes) (te := tTup (tCons (tC (.int 0)) (tCons (tC (.int 1)) tNil))) rfl scLm.nd rfl rfl rfl (pi_range1 (by rfl) T.range (pa_cons (pe_op op_add (pe_callB call_len_seq (by rfl) T.len PySem.boot_len (pa_cons (pv 0) pa_nil)) (pe_callB call_len_seq (by rfl) T.len PySem.boot_len (pa_cons (pv 1) pa_nil))) pa_nil)) (blkOk_by (N := nLm) (sc := defScope sLm) (by decide +kernel))
          (fun _ _ _ _ _ => pg_name (i := 2) scLm.nd rfl (Or.inl rfl)) (fun _ _ _ _ _ => pts_nil) (fun _ _ _ _ _ => pe_tup (pa_cons pe_int (pa_cons pe_int pa_nil))))
      (pss_cons (ps_for PassesOwn.never rfl (pi_range1 (by rfl) T.range (pa_cons (pe_callB call_len_seq (by rfl) T.len PySem.boot_len (pa_cons (pv 0) pa_nil)) pa_nil)) (pg_name (i := 2) scLm.nd rfl (Or.inl rfl))
        (pss_one (ps_for PassesOwn.never rfl (pi_range1 (by rfl) T.range (pa_cons (pe_callB call_len_seq (by rfl) T.len PySem.boot_len (pa_cons (pv 1) pa_nil)) pa_nil)) (pg_name (i := 4) scLm.nd rfl (Or.inl rfl))
          (pss_one (ps_asg (pe_call GA hr (by rfl) gA kA bA .nil pass0 (pa_cons (pe_ix ix_list (pv 3) (pe_op op_add (pv 2) (pv 4)) fun _ _ => rfl) (pa_cons (pe_call GM hr (by rfl) gM kM bM .nil pass0 (pa_cons (pe_ix ix_tup (pv 0) (pv 2) fun _ _ => rfl) (pa_cons (pe_ix ix_tup (pv 1) (pv 4) fun _ _ => rfl) pa_nil))) pa_nil))) (pg_sub (pv 3) (pe_op op_add (pv 2) (pv 4)) set_list))))))
      (pss_one (ps_ret (pe_call GT h1 (by rfl) gT kT bT .nil pass0 (pa_cons (pv 3) pa_nil))))), ?_⟩
    obtain ⟨pa, ea, qa⟩ := id hp
    obtain ⟨pb, eb, qb⟩ := id hq
    have e1 := qa.length
    have e2 := qb.length
    have l1 : (pa.map V.ref).length = as.length := by rw [List.length_map, e1]
    have l2 : (pb.map V.ref).length = bs.length := by rw [List.length_map, e2]
    have bg : ∀ {M : Int} {B : Nat} {q : Q2}, 0 < M → M.natAbs < 2 ^ 500 → B < 2 ^ 500 → Mq M B q → Bg q := fun {M B q} h0 h1 h2 h3 => (mq_bq (m := 500) h0 h3 h2 h1).bg (by decide)
    have p2 : 2 ^ 200 ≤ 2 ^ 500 := Nat.pow_le_pow_right (by decide) (by decide)
    have hMN : 0 < M * N := Int.mul_pos hM hN
    have hMN2 : (M * N).natAbs < 2 ^ 500 := by
      rw [Int.natAbs_mul]
      have := Nat.mul_lt_mul'' hM2 hN2
      exact Nat.lt_of_lt_of_le this (by rw [← Nat.pow_add]; exact Nat.pow_le_pow_right (by decide) (by decide))
    have hBB : B1 * B2 * 21 < 2 ^ 500 := by
      have h3 := Nat.mul_lt_mul'' hB1 hB2
      have h4 : 2 ^ 200 * 2 ^ 200 * 21 ≤ 2 ^ 500 := by decide
      have h5 : B1 * B2 * 21 ≤ 2 ^ 200 * 2 ^ 200 * 21 := Nat.mul_le_mul_right 21 (Nat.le_of_lt h3)
      have h6 : B1 * B2 * 21 < 2 ^ 200 * 2 ^ 200 * 21 := Nat.mul_lt_mul_of_pos_right h3 (by decide)
      omega
    refine ⟨_, rfl, p, _, rfl, .inr (SqT.of ea), _, rfl, r, _, rfl, .inr (SqT.of eb), _, _, rfl, rfl, _, rfl, by rw [l1, l2]; omega, by rw [l1, l2]; omega, fun D hD => ?_⟩
    rw [l1, l2, show ((as.length : Int) + (bs.length : Int)).toNat = as.length + bs.length by omega]
    refine lc_range (lo := 0) (n := as.length + bs.length) (fun i H2 => Col PairQ D H H2 (List.replicate i q0)) (Col.start hD) ?_ ?_
    · intro i H2 hi z
      refine ⟨rfl, (by show 2 ≤ sizeLine; decide), fun t ht => ?_⟩
      rw [List.replicate_succ']
      refine z.push (PairQ.stb.x D) hD (same_upd ht) upd_same ?_
      rw [List.length_replicate]
      omega
    rintro H2 z
    have hDn : ∀ {b : Addr} {o : HO}, H b = some o → b ≠ D := fun {b o} e => ne_of_none e hD
    refine ⟨_, rfl, p, _, rfl, .inr (SqT.of (z.s _ _ ea)), _, rfl, by rw [l1]; omega, by rw [l1]; omega, ?_⟩
    rw [l1, Int.toNat_natCast]
    refine for_it (walk_range (lo := 0) (n := as.length))
      (fun i σ H5 => ∃ (v2 v4 : Option V) (os : List Q2), σ = [some (.ref p), some (.ref r), v2, some (.ref D), v4] ∧ Col PairQ D H H5 os ∧ os.length = as.length + bs.length ∧ (∀ q ∈ os, Mq (M * N) (B1 * B2 * i) q) ∧ ∀ j, rowF os j = pS as bs i j)
      ⟨none, none, _, rfl, z, List.length_replicate .., fun q hq => by
        rw [List.eq_of_mem_replicate hq]
        exact mq_q0 _ _, fun j => by
        rw [rep_row]
        rfl⟩ (fun i σ H5 _ _ => trivial) ?_ ?_
    · rintro i x σ H0 H5 hi ⟨v2, v4, os, rfl, z5, ol, om, of⟩ y
      obtain ⟨rfl, ey⟩ := y
      have ey2 : x = V.int (i : Int) := ey.trans (by show V.int _ = _; rw [Int.zero_add])
      subst ey2
      obtain ⟨qa1, ha1, ha2, ha3⟩ := at_d hi
      have mqa := ha qa1 ha3
      refine ⟨_, rfl, r, _, rfl, .inr (SqT.of (z5.s _ _ eb)), _, rfl, by rw [l2]; omega, by rw [l2]; omega, ?_⟩
      rw [l2, Int.toNat_natCast]
      refine for_it (walk_range (lo := 0) (n := bs.length))
        (fun t σ H7 => ∃ (v4 : Option V) (os : List Q2), σ = [some (.ref p), some (.ref r), some (.int (i : Int)), some (.ref D), v4] ∧ Col PairQ D H H7 os ∧ os.length = as.length + bs.length ∧ (∀ j, Mq (M * N) (if i ≤ j ∧ j < i + t then B1 * B2 * i + B1 * B2 else B1 * B2 * i) (os.getD j q0)) ∧
          ∀ j, rowF os j = pS as bs i j + if i ≤ j ∧ j < i + t then rowF as i * rowF bs (j - i) else 0)
        ⟨v4, os, rfl, z5, ol, fun j => by rw [if_neg (by omega)]; exact mq_getD om j, fun j => by rw [of j, if_neg (by omega)]; grind⟩ (fun i σ H5 _ _ => trivial) ?_ ?_
      · rintro t x σ H0 H7 ht ⟨v4, os, rfl, z7, ol, om, of⟩ y
        obtain ⟨rfl, ey⟩ := y
        have ey2 : x = V.int (t : Int) := ey.trans (by show V.int _ = _; rw [Int.zero_add])
        subst ey2
        obtain ⟨qb1, hb1, hb2, hb3⟩ := at_d ht
        have mqb := hb qb1 hb3
        obtain ⟨qo, ho1, ho2, _⟩ := at_d (qs := os) (j := i + t) (by omega)
        obtain ⟨po, ao, fo1, fo2, fo3⟩ := ls_at z7.at_ ho1
        obtain ⟨_, aa, fa1, fa2, fa3⟩ := tp_at (VecP.stb.same z7.s hp) ha1
        obtain ⟨_, ab, fb1, fb2, fb3⟩ := tp_at (VecP.stb.same z7.s hq) hb1
        have mqo := om (i + t)
        rw [ho2, if_neg (by omega)] at mqo
        have eit : ((i : Nat) : Int) + ((t : Nat) : Int) = ((i + t : Nat) : Int) := by omega
        have mqm := mq_mul mqa mqb
        have b21 : B1 * B2 * i ≤ B1 * B2 * 20 := Nat.mul_le_mul_left _ (by omega)
        have b22 : B1 * B2 * 20 ≤ B1 * B2 * 21 := Nat.mul_le_mul_left _ (by decide)
        have b23 : B1 * B2 ≤ B1 * B2 * 21 := Nat.le_mul_of_pos_right _ (by decide)
        refine ⟨_, rfl, _, rfl, _, rfl, _, _, rfl, rfl, D, _, _, V.ref ao, rfl, rfl, SqL.of fo1, (by rw [eit]; exact atI_of fo2), _, rfl, _, rfl, p, _, _, V.ref aa, rfl, rfl, SqT.of fa1, atI_of fa2, _, rfl, _, rfl, r, _, _, V.ref ab, rfl, rfl, SqT.of fb1, atI_of fb2, ?_⟩
        refine ⟨aa, ab, qa1, qb1, rfl, fa3, fb3, mqa.1.ne, mqb.1.ne, bg hM (by omega) (by omega) mqa, bg hN (by omega) (by omega) mqb, fun H8 t8 s8 ht8 => ?_⟩
        refine ⟨ao, t8, qo, mulq qa1 qb1, rfl, PairQ.stb.same s8 fo3, ht8, mqo.1.ne, mqm.1.ne, bg hMN hMN2 (by omega) mqo, bg hMN hMN2 (by omega) mqm, fun H9 t9 s9 ht9 => ?_⟩
        have s89 := s8.trans s9
        obtain ⟨po', epo, qpo⟩ := id z7.at_
        have epo' : po' = po := by
          rw [fo1] at epo
          have e := HO.lst.inj (Option.some.inj epo)
          exact (List.map_inj_right (fun _ _ z => V.ref.inj z)).mp e.symm
        subst epo'
        have epo9 := s89 _ _ epo
        refine ⟨_, rfl, _, rfl, _, rfl, _, _, rfl, rfl, D, po'.map V.ref, _, i + t, rfl, rfl, epo9, (by rw [eit]; exact ixN_of (by rw [List.length_map, qpo.length]; omega)), some (.int (t : Int)), os.set (i + t) (addq qo (mulq qa1 qb1)), rfl, ⟨fun b o e => ?_, po'.set (i + t) t9, ?_, ?_⟩, by rw [List.length_set]; exact ol, fun j => ?_, fun j => ?_⟩
        · rw [upd_ne (hDn e)]
          exact s89 _ _ (z7.s b o e)
        · rw [upd_same, List.map_set]
        · exact paired_set ((PairQ.stb.x D) _ _ _ _ (sx_upd epo9) ht9) (Paired.imp (fun a b f => (PairQ.stb.x D) _ _ a b (sx_upd epo9) (PairQ.stb.same s89 f)) qpo) _
        · rw [getD_setq (by omega)]
          by_cases e : j = i + t
          · subst e
            rw [if_pos (by omega), if_pos rfl]
            exact mq_add mqo mqm
          · have := om j
            rw [if_neg e]
            by_cases c : i ≤ j ∧ j < i + t
            · rw [if_pos c] at this
              rw [if_pos (by omega)]
              exact this
            · rw [if_neg c] at this
              rw [if_neg (by omega)]
              exact this
        · rw [rowF_set (by omega)]
          by_cases e : j = i + t
          · subst e
            rw [if_pos rfl, if_pos (by omega), rv_add mqo.1.ne mqm.1.ne, rv_mul mqa.1.ne mqb.1.ne, show i + t - i = t by omega]
            have h3 := of (i + t)
            rw [if_neg (by omega)] at h3
            have h4 : rowF os (i + t) = rv qo := by
              unfold rowF
              rw [ho2]
            have h5 : rowF as i = rv qa1 := by
              unfold rowF
              rw [ha2]
            have h6 : rowF bs t = rv qb1 := by
              unfold rowF
              rw [hb2]
            rw [h5, h6, ← h4, h3]
            grind
          · rw [if_neg e, of j]
            by_cases c : i ≤ j ∧ j < i + t
            · rw [if_pos c, if_pos (by omega)]
            · rw [if_neg c, if_neg (by omega)]
      · rintro σ H7 ⟨v4, os, rfl, z7, ol, om, of⟩
        refine ⟨_, v4, os, rfl, z7, ol, fun q hq => ?_, fun j => ?_⟩
        · obtain ⟨j, hj, e⟩ := List.getElem_of_mem hq
          have := om j
          rw [getD_q (q := q) (by rw [List.getElem?_eq_getElem hj, e])] at this
          refine mq_mono this ?_
          rw [Nat.mul_succ]
          split <;> omega
        · rw [of j, pS_succ]
          by_cases c : i ≤ j
          · by_cases c2 : j < i + bs.length
            · rw [if_pos ⟨c, c2⟩, if_pos c]
            · rw [if_neg (by omega), if_pos c, rowF_out (qs := bs) (by omega)]
              grind
          · rw [if_neg (by omega), if_neg c]
    · rintro σ H5 ⟨v2, v4, os, rfl, z5, ol, om, of⟩
      refine ⟨_, rfl, D, os, rfl, z5.at_, by omega, fun H6 t s6 ht => ?_⟩
      have tl := trim_len os
      refine k H6 t _ (z5.s.trans s6) ht (trim_trim _) (fun q hq => om q (trim_mem hq)) (by omega) fun j => ?_
      rw [trim_row, of j, ← cvR_cv]
      rfl
end
end Ind

set_option Elab.async false
set_option linter.all false
set_option maxRecDepth 100000
set_option maxHeartbeats 4000000
set_option exponentiation.threshold 9000
namespace Ind
open PySem PySem.Spec PyProof.Rows L2
open Builtin.Int (intBits)
abbrev sLp : Stmt := top 45
abbrev sLr : Stmt := top 46
abbrev sLk : Stmt := top 47
/-- the small numbers of a row -/
def smR (ns : List Int) (i : Nat) : List Q2 := (List.range i).map fun k => smq (ns.getD (2 * k) 0) (ns.getD (2 * k + 1) 0)
theorem smR_len (ns : List Int) (i : Nat) : (smR ns i).length = i := by
  unfold smR
  rw [List.length_map, List.length_range]
theorem smR_succ (ns : List Int) (i : Nat) : smR ns (i + 1) = smR ns i ++ [smq (ns.getD (2 * i) 0) (ns.getD (2 * i + 1) 0)] := by
  unfold smR
  rw [List.range_succ, List.map_append]
  rfl
theorem smR_sm {ns : List Int} {i : Nat} {q : Q2} (h : q ∈ smR ns i) : Sm q := by
  unfold smR at h
  obtain ⟨k, _, rfl⟩ := List.mem_map.mp h
  exact sm_mk _ _
def spLp : Sp := fun vs H Q _ => ∃ (l : Addr) (ns : List Int) (n : Nat), vs = [.ref l, .int n] ∧ H l = some (.lst (ns.map V.int)) ∧ 2 * n ≤ ns.length ∧ n ≤ 50 ∧
  ∀ (H' : Hp) (t : Addr) (qs : List Q2), Same H H' → Tp PairQ H' t qs → Trim qs → (∀ q ∈ qs, Sm q) → qs.length ≤ n → Q (.ref t) H'
def spRw (C CP : Addr) : Sp := fun vs H Q _ => ∃ (p : Addr) (as : List Q2), vs = [.ref p] ∧ PolyAt C CP H p as ∧ (∀ q ∈ as, Lo q) ∧ as.length ≤ 100 ∧ ∀ (H' : Hp) (t : Addr), Same H H' → Tp PairQ H' t as → Q (.ref t) H'
def spLk (C CP : Addr) : Sp := fun vs H Q _ => ∃ (r : Addr) (as : List Q2) (k : Nat), vs = [.ref r] ∧ Tp PairQ H r as ∧ PSz k as ∧ k ≤ 4000 ∧ Trim as ∧ ∀ (H' : Hp) (p : Addr), Same H H' → PolyAt C CP H' p as → Q (.ref p) H'
theorem trim_self {qs : List Q2} (h : Trim qs) : trimQ qs = qs := by
  rcases List.eq_nil_or_concat qs with e | ⟨ri, q, e⟩
  · rw [e]
    rfl
  · rw [List.concat_eq_append] at e
    subst e
    exact trim_id (h q (by rw [List.getLast?_append]; rfl))
section
variable {P : Program} {w : World} {K : PySem.W.Frag} {mg : Str → Option Value} {base : Heap} {C Z CP : Addr}
abbrev nLp : List Str := ["row", "size", "k"]
theorem scLp : FnScope nLp ["row", "size"] (defScope sLp) := ⟨rfl, rfl, rfl, by decide +kernel, rfl, by decide +kernel, by decide +kernel⟩
theorem ok_lp {f fT fS : Addr} {fd fdT fdS : FuncData} (F : Fun K "_law_poly" "_law_poly" sLp f fd) (T : TxL K mg) (GT : FnOk P w K mg base CX0 1 fT fdT ["row"] spLt) (kT : PySem.W.keepIn K (.ref fT) = true) (bT : Binds K fdT ["row"] []) (gT : mg "_law_trim" = some (.ref fT))
    (GS : FnOk P w K mg base CX0 42 fS fdS ["n", "d"] spSm) (kS : PySem.W.keepIn K (.ref fS) = true) (bS : Binds K fdS ["n", "d"] []) (gS : mg "_law_small" = some (.ref fS)) : FnOk P w K mg base CX0 43 f fd ["row", "size"] spLp := by
  refine F.ok scLp (fun vs H Q E h => ?_) (fun cdv A outer s H vs Q E hr h => ?_)
  · obtain ⟨l, ns, n, rfl, _⟩ := h
    rfl
  · obtain ⟨l, ns, n, rfl, hl, hn, hn50, k⟩ := h
    have h1 := hr.mono (show 1 ≤ 42 by decide)
    refine ⟨_, pss_one (ps_ret (pe_call GT h1 (by rfl) gT kT bT .nil pass0 (pa_cons (pe_lc (own := [("k", 2)]) (g := gName 2) (tt := tYes) (te := tCall spSm [] E0 (tCons (tOp (rIxL K) (tVar 0) (tOp (rI (fun i j => intBits i + intBits j ≤ 134217728) fun i j => .int (i * j)) (tC (.int 2)) (tVar 2))) (tCons (tOp (rIxL K) (tVar 0) (tOp (rI0 fun i j => .int (i + j)) (tOp (rI (fun i j => intBits i + intBits j ≤ 134217728) fun i j => .int (i * j)) (tC (.int 2)) (tVar 2)) (tC (.int 1)))) tNil))) rfl scLp.nd (pi_range1 (by rfl) T.range (pa_cons (pv 1) pa_nil)) (blkOk_by (N := nLp) (sc := defScope sLp) (by decide +kernel))
          (fun _ _ _ _ _ => pg_name (i := 2) scLp.nd rfl (Or.inl rfl)) (fun _ _ _ _ _ => pts_nil)
          (fun _ _ _ _ _ => pe_call GS hr (by rfl) gS kS bS .nil pass0 (pa_cons (pe_ix ix_list (pv 0) (pe_op op_mulB pe_int (pv 2)) fun _ _ => rfl) (pa_cons (pe_ix ix_list (pv 0) (pe_op op_add (pe_op op_mulB pe_int (pv 2)) pe_int) fun _ _ => rfl) pa_nil)))) pa_nil))), ?_⟩
    refine ⟨_, rfl, _, rfl, by omega, by omega, fun D hD => ?_⟩
    rw [Int.toNat_natCast]
    refine lc_range (lo := 0) (n := n) (fun i H2 => Col PairQ D H H2 (smR ns i)) (Col.start hD) ?_ ?_
    · intro i H2 hi z
      obtain ⟨u, hu⟩ : ∃ u, ns[2 * i]? = some u := ⟨_, List.getElem?_eq_getElem (by omega)⟩
      obtain ⟨v, hv⟩ : ∃ v, ns[2 * i + 1]? = some v := ⟨_, List.getElem?_eq_getElem (by omega)⟩
      have eu : ns.getD (2 * i) 0 = u := by
        rw [List.getD_eq_getElem?_getD, hu]
        rfl
      have ev : ns.getD (2 * i + 1) 0 = v := by
        rw [List.getD_eq_getElem?_getD, hv]
        rfl
      have e1 : (2 : Int) * (0 + (i : Int)) = ((2 * i : Nat) : Int) := by omega
      have e2 : (2 : Int) * (0 + (i : Int)) + 1 = ((2 * i + 1 : Nat) : Int) := by omega
      have bi : intBits (0 + (i : Int)) ≤ 10 := PySem.intBits_le_iff.mpr (by omega)
      have b2 : intBits (2 : Int) ≤ 2 := by decide
      have hl2 := z.s _ _ hl
      refine ⟨rfl, _, rfl, _, rfl, _, _, rfl, rfl, (by show intBits 2 + intBits (0 + (i : Int)) ≤ 134217728; omega), l, _, _, V.int u, rfl, rfl, SqL.of hl2, (by rw [e1]; exact atI_of (by rw [List.getElem?_map, hu]; rfl)),
        _, rfl, _, rfl, _, _, rfl, rfl, (by show intBits 2 + intBits (0 + (i : Int)) ≤ 134217728; omega), _, _, rfl, rfl, l, _, _, V.int v, rfl, rfl, SqL.of hl2, (by rw [e2]; exact atI_of (by rw [List.getElem?_map, hv]; rfl)), u, v, rfl, fun H3 t s3 ht => ?_⟩
      rw [smR_succ, eu, ev]
      refine z.push (PairQ.stb.x D) hD s3 ht ?_
      rw [smR_len]
      omega
    rintro H2 z
    refine ⟨D, _, rfl, z.at_, by rw [smR_len]; omega, fun H3 t s3 ht => ?_⟩
    have tl := trim_len (smR ns n)
    rw [smR_len] at tl
    exact k H3 t _ (z.s.trans s3) ht (trim_trim _) (fun q hq => smR_sm (trim_mem hq)) tl
abbrev nLr : List Str := ["p", "row", "item"]
theorem scLr : FnScope nLr ["p"] (defScope sLr) := ⟨rfl, rfl, rfl, by decide +kernel, rfl, by decide +kernel, by decide +kernel⟩
theorem ok_lr {f fP : Addr} {fd fdP : FuncData} (F : Fun K "_law_row" "_law_row" sLr f fd) (T : TxL K mg) (TP : TxP K mg CP) (I : TxI K CP) (GP : FnOk P w K mg base CX0 2 fP fdP ["value"] (spPair C)) (kP : PySem.W.keepIn K (.ref fP) = true) (bP : Binds K fdP ["value"] []) (gP : mg "_law_pair" = some (.ref fP)) :
    FnOk P w K mg base CX0 3 f fd ["p"] (spRw C CP) := by
  refine F.ok scLr (fun vs H Q E h => ?_) (fun cdv A outer s H vs Q E hr h => ?_)
  · obtain ⟨p, as, rfl, _⟩ := h
    rfl
  · obtain ⟨p, as, rfl, ⟨dp, rp, np, ep, hrow, _, htr⟩, lo, hn, k⟩ := h
    have hu65 : (A.deeper (envOfC "_law_row" (defScope sLr) s.heap.objs.size f cdv)).units + 65 < cLine := by
      have := hr.in1.units
      have e : (A.deeper (envOfC "_law_row" (defScope sLr) s.heap.objs.size f cdv)).in1.units = (A.deeper (envOfC "_law_row" (defScope sLr) s.heap.objs.size f cdv)).units + 1 := rfl
      omega
    refine ⟨_, pss_cons (ps_if (PW.pt (pw_or (pt_not (pt_val (pe_callB call_isi (by rfl) T.isinstance boot_isi (pa_cons (pv 0) (pa_cons (pe_glob (v := .ref CP) rfl TP.mgP rfl) pa_nil)))))
          (pw_or1 (pt_not (pt_val (pe_callB call_isi (by rfl) T.isinstance boot_isi (pa_cons (pe_fld (pv 0) rfl) (pa_cons (pe_bltn (v := .ty "tuple") (by rfl) TP.tuple (by decide +kernel) rfl) pa_nil)))))))) (pss_one (ps_ret pe_non)) pss_nil)
      (pss_cons (ps_setLc (i := 1) (own := [("item", 2)]) (g := gName 2) (tt := tYes) rfl scLr.nd rfl rfl rfl (pi_tup (pe_fld (pv 0) rfl)) (blkOk_by (N := nLr) (sc := defScope sLr) (by decide +kernel))
          (fun _ _ _ _ _ => pg_name (i := 2) scLr.nd rfl (Or.inl rfl)) (fun _ _ _ _ _ => pts_nil) (fun _ _ _ _ _ => pe_call GP hr (by rfl) gP kP bP .nil pass0 (pa_cons (pv 2) pa_nil)))
      (pss_cons (ps_if (PW.pt (pw_or (pt_cmpR (op_inD hu65) pe_non (pv 1) (by rfl)) (pw_or1 (PW.pt (pw_and (pt_cmpR op_gt (pe_callB call_len_seq (by rfl) T.len PySem.boot_len (pa_cons (pv 1) pa_nil)) pe_int (nomark _)) (pw_and1 (pt_cmpR op_eq (pe_ix ix_tup (pe_ix ix_list (pv 1) (pe_op op_sub (pe_callB call_len_seq (by rfl) T.len PySem.boot_len (pa_cons (pv 1) pa_nil)) pe_int) fun _ _ => rfl) pe_int fun _ _ => rfl) pe_int (nomark _)))))))) (pss_one (ps_ret pe_non)) pss_nil)
      (pss_one (ps_ret (pe_callTy call_tuple_of (by rfl) TP.tuple (by decide +kernel) (pa_cons (pv 1) pa_nil)))))), ?_⟩
    obtain ⟨ps, hp, hP⟩ := hrow
    have hl := hP.length
    refine ⟨_, rfl, _, _, _, _, true, rfl, ClsV.own CP, .base (.ins ep TP.cl I.ha I.hn I.ht I.hm), I.kC, true, rfl, ?_⟩
    refine iteF ⟨_, rfl, p, CP, dp, _, _, rfl, ep, TP.cl, TP.nR, pf_row _ _ _, _, _, _, _, true, rfl, ClsV.ty "tuple", .base (.tup hp), kit_ty (by decide +kernel), true, rfl, ?_⟩
    refine iteF ⟨_, rfl, p, CP, dp, _, _, rfl, ep, TP.cl, TP.nR, pf_row _ _ _, rp, rfl, ⟨_, SqT.of hp⟩, fun D hD => lc_tup (K := K) (a := rp) (xs := ps.map V.ref) (fun i H2 => Col PairQ D H H2 (as.take i)) (Col.start hD) (fun i H2 _ z => .of (z.s _ _ hp)) ?_ ?_⟩
    · rintro i x H2 hx z
      obtain ⟨a, ha, rfl⟩ := item_of hx
      obtain ⟨q, hqi, hqa⟩ := Paired.at hP ha
      have l1 := lo q (List.mem_of_getElem? hqi)
      refine ⟨rfl, _, rfl, a, q.1, q.2, rfl, (RatQ.stb C).same z.s hqa, l1.pos, l1.low, fun H3 t s3 _ ht => ?_⟩
      rw [take_snoc hqi]
      refine z.push (PairQ.stb.x D) hD s3 ht ?_
      rw [List.length_take]
      omega
    · rintro H2 z
      rw [List.length_map, hl, List.take_length] at z
      obtain ⟨pa, e1, e2⟩ := z.at_
      have el := e2.length
      refine ⟨_, rfl, .none, as.map pD, .non, .lst (SqL.of e1) (dp_all (F := PairQ) (fun p b h => dp_pair h) e2), (by rfl), shape_list as, _, rfl, ?_⟩
      rw [none_in]
      refine iteF ⟨_, rfl, D, _, rfl, .inl (SqL.of e1), _, _, rfl, rfl, _, rfl, ?_⟩
      rw [List.length_map, el]
      have fin : ∀ t, H2 t = none → Q (.ref t) (upd H2 t (.tup (pa.map V.ref))) := fun t ht => k _ t (z.s.trans (same_upd ht)) ⟨pa, upd_same, Paired.imp (fun _ _ f => PairQ.stb.same (same_upd ht) f) e2⟩
      rcases Nat.eq_zero_or_pos as.length with c | c
      · rw [show decide ((0 : Int) < ((as.length : Nat) : Int)) = false from decide_eq_false (by omega)]
        exact iteF (iteF ⟨_, rfl, D, _, rfl, .inl ⟨SqL.of e1, fin⟩⟩)
      · obtain ⟨n, hn'⟩ : ∃ n, as.length = n + 1 := ⟨as.length - 1, by omega⟩
        obtain ⟨q, hq, _, hm⟩ := at_d (qs := as) (j := n) (by omega)
        obtain ⟨a, ha, hqa⟩ := Paired.at2 e2 hq
        have e3 : (((pa.map V.ref).length : Nat) : Int) - 1 = (n : Int) := by
          rw [List.length_map]
          omega
        have q0 : q.1 ≠ 0 := htr q (by rw [List.getLast?_eq_getElem?, hn']; exact hq)
        rw [show decide ((0 : Int) < ((as.length : Nat) : Int)) = true from decide_eq_true (by omega)]
        refine iteT ⟨_, rfl, _, rfl, D, _, rfl, .inl (SqL.of e1), _, _, rfl, rfl, D, _, _, V.ref a, rfl, rfl, SqL.of e1, (by rw [e3]; exact atI_of (ref_at ha)), a, _, _, V.int q.1, rfl, rfl, SqT.of hqa, atI_of (k := 0) rfl, rfl, _, rfl, ?_⟩
        rw [show decide (V.int q.1 = V.int 0) = false from decide_eq_false (fun z => q0 (V.int.inj z))]
        exact iteF ⟨_, rfl, D, _, rfl, .inl ⟨SqL.of e1, fin⟩⟩
abbrev nLk : List Str := ["row", "q"]
theorem scLk : FnScope nLk ["row"] (defScope sLk) := ⟨rfl, rfl, rfl, by decide +kernel, rfl, by decide +kernel, by decide +kernel⟩
theorem ok_lk {f fI fP : Addr} {fd fdI fdP : FuncData} {ds : List Value} (F : Fun K "_law_make" "_law_make" sLk f fd) (R : TxR K mg C Z) (TP : TxP K mg CP) (M : MkR P w K mg base C Z fI fdI ds) (MP : MkP P w K mg base C CP fP fdP) : FnOk P w K mg base CX0 45 f fd ["row"] (spLk C CP) := by
  refine F.ok scLk (fun vs H Q E h => ?_) (fun cdv A outer s H vs Q E hr h => ?_)
  · obtain ⟨r, as, k, rfl, _⟩ := h
    rfl
  · obtain ⟨r, as, kk, rfl, ⟨ps, hp, hP⟩, hs, hk, ht, k⟩ := h
    have h42 := hr.mono (show 42 ≤ 44 by decide)
    refine ⟨_, pss_one (ps_ret (pe_make MP.cm MP.fn hr (by rfl) TP.mgP MP.b .nil pass0 (pa_cons (pe_lc (own := [("q", 1)]) (g := gName 1) (tt := tYes) (te := tMake C (spInit C Z) [] E0 (tCons (tOp (rIxT K) (tVar 1) (tC (.int 0))) (tCons (tOp (rIxT K) (tVar 1) (tC (.int 1))) tNil))) rfl scLk.nd (pi_tup (pv 0)) (blkOk_by (N := nLk) (sc := defScope sLk) (by decide +kernel))
          (fun _ _ _ _ _ => pg_name (i := 1) scLk.nd rfl (Or.inl rfl)) (fun _ _ _ _ _ => pts_nil) (fun _ _ _ _ _ => pe_make M.cm M.fn h42 (by rfl) R.mgC M.b2 .nil passL (pa_cons (pe_ix ix_tup (pv 1) pe_int fun _ _ => rfl) (pa_cons (pe_ix ix_tup (pv 1) pe_int fun _ _ => rfl) pa_nil)))) pa_nil))), ?_⟩
    have lo := hs.1
    have hn1 := hs.2.1
    refine ⟨_, rfl, r, rfl, ⟨_, SqT.of hp⟩, fun D hD => lc_tup (K := K) (a := r) (xs := ps.map V.ref) (fun i H2 => Col (RatQ C) D H H2 (as.take i)) (Col.start hD) (fun i H2 _ z => .of (z.s _ _ hp)) ?_ ?_⟩
    · rintro i x H2 hx z
      obtain ⟨a, ha, rfl⟩ := item_of hx
      obtain ⟨q, hqi, hqa⟩ := Paired.at hP ha
      have l1 := lo q (List.mem_of_getElem? hqi)
      have hq2 := z.s _ _ hqa
      refine ⟨rfl, _, rfl, a, _, _, _, rfl, rfl, SqT.of hq2, atI_of (k := 0) rfl, _, rfl, a, _, _, _, rfl, rfl, SqT.of hq2, atI_of (k := 1) rfl, ?_⟩
      intro u du nu ndu neu
      refine ⟨u, du, q.1, q.2, rfl, upd_same, fun z => absurd z l1.ne, fun _ H6 hu kk => ⟨rfl, ?_⟩⟩
      rw [take_snoc hqi]
      refine z.push ((RatQ.stb C).x D) hD (Same.made nu ndu kk) ?_ ?_
      · have e := mkq_lo l1
        have hu : RatQ C H6 u (mkq q.1 q.2) := hu
        rw [e] at hu
        exact hu
      · rw [List.length_take]
        omega
    · rintro H2 z
      rw [List.length_map, hP.length, List.take_length] at z
      obtain ⟨pa, ea, qa⟩ := z.at_
      have mix : ∀ {pa : List Addr} {qs : List Q2}, Paired (RatQ C H2) pa qs → (∀ q ∈ qs, Lo q) → Paired (MixV C H2) (pa.map V.ref) qs := by
        intro pa qs h
        induction h with
        | nil => exact fun _ => .nil
        | cons a t ih => exact fun l => .cons (.inl ⟨_, rfl, a, l _ (by simp)⟩) (ih fun q hq => l q (List.mem_cons_of_mem _ hq))
      refine mkP_ok (.inl ea) (mix qa lo) hs hk fun p H' hp' s' => ?_
      rw [trim_self ht] at hp'
      exact k H' p (z.s.trans s') hp'
end
end Ind

set_option Elab.async false
set_option linter.all false
set_option maxRecDepth 100000
set_option maxHeartbeats 4000000
namespace Ind
open PySem PySem.Spec PyProof.Rows L2
open Builtin.Int (intBits)
/-! ### the end of a law's row, where the base is known to let a long division run -/
section
variable {K L : PySem.W.Frag} {h base : Heap}
theorem look_app (K L : PySem.W.Frag) (a : Addr) : (K ++ L).lookup a = (K.lookup a).or (L.lookup a) := List.lookup_append
theorem ext_in (X : K.In h) (hL : ∀ p ∈ L, h.get? p.1 = some p.2) : PySem.W.Frag.In (K ++ L) h := fun a o e => by
  rw [look_app] at e
  cases q : K.lookup a with
  | some u =>
    rw [q] at e
    have e1 : u = o := Option.some.inj e
    exact X a o (e1 ▸ q)
  | none =>
    rw [q] at e
    have e2 : L.lookup a = some o := e
    obtain ⟨l1, l2, e3, _⟩ := List.lookup_eq_some_iff.mp e2
    exact hL (a, o) (by rw [e3]; simp)
theorem ext_at (X : K.In h) (hL : ∀ p ∈ L, h.get? p.1 = some p.2) (B : PySem.W.Frag.In (K ++ L) base) {a : Addr} {o : Obj} (hp : (a, o) ∈ L) : base.get? a = some o := by
  cases q : List.lookup a (K ++ L) with
  | none =>
    rw [look_app] at q
    have q2 : L.lookup a = none := by
      cases z : K.lookup a with
      | some u => rw [z] at q; cases q
      | none => rw [z] at q; exact q
    have := List.lookup_eq_none_iff.mp q2 (a, o) hp
    simp at this
  | some u =>
    have h1 : h.get? a = some u := ext_in X hL a u q
    have h2 := hL (a, o) hp
    rw [h1] at h2
    cases h2
    exact B a o q
theorem app_in (B : PySem.W.Frag.In (K ++ L) base) : K.In base := fun a o e => B a o (by rw [look_app, e]; rfl)
end
/-- the objects that a long division asks for -/
structure Seen (h : Heap) (L : PySem.W.Frag) : Prop where
  at_ : ∀ p ∈ L, h.get? p.1 = some p.2
  no : ∀ p ∈ L, p.2.cls ≠ .type "list" ∨ ∃ es ep, p.2.data = .dict es ep
  far : ∀ base : Heap, (∀ a o, (a, o) ∈ L → base.get? a = some o) → base.NoSeer
theorem seen_of {h : Heap} (x : h.NoSeer) : ∃ L, Seen h L := by
  obtain ⟨⟨m1, ⟨o1, e1, p1, g1, d1, r1⟩, s1, s2⟩, ⟨m2, ⟨o2, e2, p2, g2, d2, r2⟩, s3⟩, ⟨m3, ⟨o3, e3, p3, g3, d3, r3⟩, s4⟩, ⟨m4, bm, ob, ⟨o4, e4, p4, g4, d4, r4⟩, s5, g5, c5, s6⟩⟩ := x
  refine ⟨[(cStatics, o1), (sysModules, o2), (builtinsNs, o3), (mainGlobals, o4), (bm, ob)], ⟨fun p hp => ?_, fun p hp => ?_, fun base k => ?_⟩⟩
  · simp only [List.mem_cons, List.not_mem_nil, or_false] at hp
    rcases hp with rfl | rfl | rfl | rfl | rfl <;> assumption
  · simp only [List.mem_cons, List.not_mem_nil, or_false] at hp
    rcases hp with rfl | rfl | rfl | rfl | rfl
    · exact .inr ⟨_, _, d1⟩
    · exact .inr ⟨_, _, d2⟩
    · exact .inr ⟨_, _, d3⟩
    · exact .inr ⟨_, _, d4⟩
    · exact .inl (by show ob.cls ≠ _; rw [c5]; intro z; exact absurd (Value.type.inj z) (by decide))
  · exact ⟨⟨m1, ⟨o1, e1, p1, k _ _ (by simp), d1, r1⟩, s1, s2⟩, ⟨m2, ⟨o2, e2, p2, k _ _ (by simp), d2, r2⟩, s3⟩, ⟨m3, ⟨o3, e3, p3, k _ _ (by simp), d3, r3⟩, s4⟩, ⟨m4, bm, ob, ⟨o4, e4, p4, k _ _ (by simp), d4, r4⟩, s5, k _ _ (by simp), c5, s6⟩⟩
theorem sql_app {K L : PySem.W.Frag} {h : Heap} (S : Seen h L) {H : Hp} {a : Addr} {xs : List V} (q : SqL (K ++ L) H a xs) : SqL K H a xs := by
  rcases q with q | ⟨o, its, n, lk, c, d, dt, r⟩
  · exact .inl q
  · rw [look_app] at lk
    cases z : K.lookup a with
    | some u =>
      rw [z] at lk
      cases lk
      exact .inr ⟨o, its, n, z, c, d, dt, r⟩
    | none =>
      rw [z] at lk
      have lk2 : L.lookup a = some o := lk
      obtain ⟨l1, l2, e3, _⟩ := List.lookup_eq_some_iff.mp lk2
      rcases S.no (a, o) (by rw [e3]; simp) with w | ⟨es, ep, w⟩
      · exact absurd c w
      · rw [show o.data = _ from w] at dt
        cases dt
/-- a def's promise over a larger written part -/
theorem lift_fn {P : Program} {w : World} {K K' : PySem.W.Frag} {mg : Str → Option Value} {base : Heap} {CX : CXT} {k : Nat} {f : Addr} {fd : FuncData} {ps : List Str} {sp : Sp} (kin : K.In base) (F : FnOk P w K mg base CX k f fd ps sp) : FnOk P w K' mg base CX k f fd ps sp :=
  ⟨F.len, fun A outer s H args us vs Q E hr e0 => F.run A outer s H args us vs Q E hr ⟨e0.frames, ⟨kin, e0.mod.glob, e0.mod.blt, e0.mod.nolimit⟩, e0.bs, e0.bsz, e0.funs, e0.frf, e0.hok, e0.bare⟩⟩
theorem walk_far {l : PySem.W.OpenLaw} {n k : Nat} {q : Program} {loose : List Str} {XP : (Str → Option Value) → Heap → Prop} {YP : World → Heap → Prop} {d : DefRec} {K : Params → PySem.W.Frag} {sp : World → Sp} {x : Str}
    (hn : l.most = some n) (hn2 : n ≤ sizeLine) (hdf : d.params.defaults = []) (hr : Room k callerA) (hi : importsNone q = true)
    (hY : ∀ (w : World) (h : Heap), YP w h → (K w.params).In h)
    (F : ∀ (w : World) (mg : Str → Option Value) (fa : Addr) (h : Heap), (K w.params).In h → h.Ns mainGlobals mg → mg d.name = some (.ref fa) →
      ∃ fd : FuncData, (∀ (s : Shared) (u : Value), BindsTo s fd ⟨[u], []⟩ [(x, u)]) ∧
        ∀ base : Heap, (K w.params).In base → base.Ns mainGlobals mg → base.NoSeer → FnOk l.prog w (K w.params) mg base CX0 k fa fd [x] (sp w))
    (hsp : ∀ (w : World) (H : Hp) (a : Addr) (ns : List Int), ns.length ≤ n → (∀ z ∈ ns, intBits z ≤ 1048576) → SqL (K w.params) H a (ns.map V.int) → sp w [.ref a] H (fun v _ => v = .bl true) fun _ _ _ => False) :
    PySem.W.WalkO q loose XP YP l.row.toRowW d [] (fun f vs => PySem.call f vs) := by
  refine Att.attach_callB hn hdf fun w s₀ s₁ mg mb fa o pm cd doc a vs ns G Y ho hd hcd hmg hobj hints hlen hbits hg => ?_
  have KX := hY w _ Y
  obtain ⟨L, S⟩ := seen_of (G.T.seer hi)
  obtain ⟨fd, hb, hF⟩ := F w mg fa _ KX G.T.g hmg
  refine law_call (K := K w.params ++ L) (CX := CX0) (ext_in KX S.at_) G.T.g G.T.b G.T.builtins G.T.nolimit hg hobj hints (Nat.le_trans hlen hn2) hr (fun base B g => lift_fn (app_in B) (hF base (app_in B) g (S.far base fun a o hp => ext_at KX S.at_ B hp))) hb (fun H _ hS => hsp w H a ns hlen hbits (sql_app S hS)) fun _ _ _ z => z
end Ind

set_option Elab.async false
set_option linter.all false
namespace Ind
/-! ### powers and signs -/
def rp (q : Rat) : Nat → Rat
  | 0 => 1
  | n + 1 => rp q n * q
theorem rp_add (q : Rat) (a : Nat) : ∀ b, rp q (a + b) = rp q a * rp q b
  | 0 => by
    show rp q a = rp q a * 1
    grind
  | b + 1 => by
    show rp q (a + b) * q = rp q a * (rp q b * q)
    rw [rp_add q a b]
    grind
theorem rp_mul (p q : Rat) : ∀ n, rp (p * q) n = rp p n * rp q n
  | 0 => by
    show (1 : Rat) = 1 * 1
    grind
  | n + 1 => by
    show rp (p * q) n * (p * q) = rp p n * p * (rp q n * q)
    rw [rp_mul p q n]
    grind
theorem rp_one : ∀ n, rp 1 n = 1
  | 0 => rfl
  | n + 1 => by
    show rp 1 n * 1 = 1
    rw [rp_one n]
    grind
theorem rp_ne {q : Rat} (h : q ≠ 0) : ∀ n, rp q n ≠ 0
  | 0 => by
    show (1 : Rat) ≠ 0
    decide
  | n + 1 => fun e => by
    rcases Rat.mul_eq_zero.mp e with z | z
    · exact rp_ne h n z
    · exact h z
def sg (n : Nat) : Rat := rp (-1) n
theorem sg_add (a b : Nat) : sg (a + b) = sg a * sg b := rp_add _ a b
theorem sg_self (a : Nat) : sg a * sg a = 1 := by
  unfold sg
  rw [← rp_mul, show (-1 : Rat) * -1 = 1 by grind, rp_one]
theorem sg_two (a : Nat) : sg (a + a) = 1 := by rw [sg_add, sg_self]
theorem sg_sq : ∀ n : Nat, sg (n * n) = sg n
  | 0 => rfl
  | n + 1 => by
    rw [show (n + 1) * (n + 1) = n * n + (n + n) + 1 by grind, sg_add, sg_add (n * n), sg_two, sg_sq n, sg_add n 1]
    grind
theorem sg_mul_cancel (a b : Nat) (x : Rat) : sg (a * b) * (sg (b * a) * x) = x := by
  rw [Nat.mul_comm b a]
  have := sg_self (a * b)
  grind
/-! ### degrees -/
structure Dg (f : Fr) (n : Nat) : Prop where
  s : Fs f (n + 1)
  t : f n ≠ 0
theorem dg_uniq {f : Fr} {m n : Nat} (a : Dg f m) (b : Dg f n) : m = n := by
  rcases Nat.lt_trichotomy m n with c | c | c
  · exact absurd (a.s n (by omega)) b.t
  · exact c
  · exact absurd (b.s m (by omega)) a.t
theorem dg_or {f : Fr} : ∀ {n : Nat}, Fs f n → (∀ j, f j = 0) ∨ ∃ k, k < n ∧ Dg f k
  | 0, h => .inl fun j => h j (Nat.zero_le _)
  | n + 1, h => by
    by_cases e : f n = 0
    · rcases dg_or (f := f) (n := n) (fun j hj => by
        by_cases c : j = n
        · rw [c, e]
        · exact h j (by omega)) with z | ⟨k, hk, d⟩
      · exact .inl z
      · exact .inr ⟨k, by omega, d⟩
    · exact .inr ⟨n, by omega, h, e⟩
theorem dg_sc {f : Fr} {n : Nat} {c : Rat} (h : Dg f n) (hc : c ≠ 0) : Dg (fun j => c * f j) n := ⟨fun j hj => by
  show c * f j = 0
  rw [h.s j hj]
  grind, fun e => by
  rcases Rat.mul_eq_zero.mp e with z | z
  · exact hc z
  · exact h.t z⟩
theorem cv_sc' (a : Rat) (f h : Fr) (n : Nat) : cv (fun j => a * f j) h n = a * cv f h n := by
  have e : (fun j => a * f j) = fun j => a * f j + (fun _ => 0) j := funext fun j => by grind
  rw [e, cv_lin, cv_zl]
  grind
theorem cv_scr' (a : Rat) (f h : Fr) (n : Nat) : cv f (fun j => a * h j) n = a * cv f h n := by
  rw [cv_comm, cv_sc', cv_comm]
theorem cv_addl (f g h : Fr) (n : Nat) : cv (fun j => f j + g j) h n = cv f h n + cv g h n := by
  have e : (fun j => f j + g j) = fun j => (1 : Rat) * f j + g j := funext fun j => by grind
  rw [e, cv_lin]
  grind
theorem cv_delta0 (b : Fr) (s : Rat) (a j : Nat) : cv (fun t => if t = a then s else 0) b j = if a ≤ j then s * b (j - a) else 0 := by
  unfold cv
  by_cases c : a ≤ j
  · rw [if_pos c, sumTo_only (n := a) (by omega) fun t _ hn => by
      show (if t = a then s else 0) * _ = 0
      rw [if_neg hn]
      grind]
    show (if a = a then s else 0) * _ = _
    rw [if_pos rfl]
  · rw [if_neg c, sumTo_congr (g := fun _ => 0) fun t ht => by
      show (if t = a then s else 0) * _ = 0
      rw [if_neg (by omega)]
      grind]
    exact sumTo_zero _
/-- division with remainder -/
theorem div_ex {g : Fr} {m : Nat} (hg : Dg g m) : ∀ (n : Nat) (f : Fr), Fs f n → ∃ s r N, Fs s N ∧ Fs r m ∧ ∀ j, f j = cv s g j + r j
  | 0, f, h => ⟨fun _ => 0, f, 0, fun _ _ => rfl, fun j _ => h j (Nat.zero_le _), fun j => by
    rw [cv_zl]
    grind⟩
  | n + 1, f, h => by
    by_cases c : n < m
    · exact ⟨fun _ => 0, f, 0, fun _ _ => rfl, fun j hj => h j (by omega), fun j => by
        rw [cv_zl]
        grind⟩
    · obtain ⟨s, r, N, hs, hr, e⟩ := div_ex hg n (fun j => f j - if n - m ≤ j then f n / g m * g (j - (n - m)) else 0) (fun j hj => by
        show f j - (if n - m ≤ j then _ else 0) = 0
        rw [if_pos (by omega)]
        by_cases e : j = n
        · have := hg.t
          rw [e, show n - (n - m) = m by omega]
          grind
        · rw [h j (by omega), hg.s (j - (n - m)) (by omega)]
          grind)
      refine ⟨fun t => s t + if t = n - m then f n / g m else 0, r, max N (n - m + 1), fun j hj => ?_, hr, fun j => ?_⟩
      · show s j + (if j = n - m then _ else 0) = 0
        rw [hs j (by omega), if_neg (by omega)]
        grind
      · rw [cv_addl, cv_delta0]
        have := e j
        grind
theorem dg_kn {f g s r : Fr} {n m k N : Nat} (a : Dg f n) (b : Dg g (m + 1)) (hs : Fs s N) (hk : k ≤ m) (hr : Dg r k) (e : ∀ j, f j = cv s g j + r j) : k ≤ n := by
  by_cases c : n ≤ m
  · have := (div_uniq (s' := fun _ => 0) (r' := f) b.s b.t hs (fun _ _ => rfl) (fun j hj => hr.s j (by omega)) (fun j hj => a.s j (by omega)) fun j => by
      rw [← e j, cv_zl]
      grind).2
    have er : r = f := funext this
    rw [er] at hr
    have := dg_uniq hr a
    omega
  · omega
/-! ### what Euclid's steps reckon -/
inductive RR : Nat → Fr → Nat → Fr → Rat → Prop
  | const {n : Nat} {f g : Fr} : Dg f n → Dg g 0 → RR n f 0 g (rp (g 0) n)
  | zero {n m N : Nat} {f g s : Fr} : Dg f n → Dg g (m + 1) → Fs s N → (∀ j, f j = cv s g j) → RR n f (m + 1) g 0
  | step {n m k N : Nat} {f g s r : Fr} {v : Rat} : Dg f n → Dg g (m + 1) → Fs s N → k ≤ m → (∀ j, f j = cv s g j + r j) → RR (m + 1) g k r v → RR n f (m + 1) g (sg (n * (m + 1)) * rp (g (m + 1)) (n - k) * v)
theorem RR.dg {n m : Nat} {f g : Fr} {v : Rat} (h : RR n f m g v) : Dg f n ∧ Dg g m := by
  cases h with
  | const a b => exact ⟨a, b⟩
  | zero a b _ _ => exact ⟨a, b⟩
  | step a b _ _ _ _ => exact ⟨a, b⟩
theorem RR.ex : ∀ (m n : Nat) (f g : Fr), Dg f n → Dg g m → ∃ v, RR n f m g v := by
  intro m
  induction m using Nat.strongRecOn with
  | ind m ih =>
    intro n f g hf hg
    match m, ih, hg with
    | 0, _, hg => exact ⟨_, .const hf hg⟩
    | m + 1, ih, hg =>
      obtain ⟨s, r, N, hs, hr, e⟩ := div_ex hg (n + 1) f hf.s
      rcases dg_or hr with z | ⟨k, hk, dk⟩
      · exact ⟨_, .zero hf hg hs fun j => by rw [e j, z j]; grind⟩
      · obtain ⟨v, hv⟩ := ih k hk (m + 1) g r hg dk
        exact ⟨_, .step hf hg hs (by omega) e hv⟩
theorem RR.uniq : ∀ {n m : Nat} {f g : Fr} {v w : Rat}, RR n f m g v → RR n f m g w → v = w := by
  intro n m f g v w h
  induction h generalizing w with
  | const a b =>
    intro h2
    cases h2 with
    | const _ _ => rfl
  | @zero n m N f g s a b c d =>
    intro h2
    cases h2 with
    | zero _ _ _ _ => rfl
    | @step _ _ k N2 _ _ s2 r _ _ _ hs2 hk e hv =>
      have := (div_uniq (N := max N N2) (r := fun _ => 0) b.s b.t (c.mono (Nat.le_max_left _ _)) (hs2.mono (Nat.le_max_right _ _)) (fun _ _ => rfl) (fun j hj => hv.dg.2.s j (by omega)) fun j => by
        rw [← e j, d j]
        grind).2 k
      exact absurd this.symm hv.dg.2.t
  | @step n m k N f g s r v a b hs hk e hv ih =>
    intro h2
    cases h2 with
    | @zero _ _ N2 _ _ s2 _ _ hs2 d =>
      have := (div_uniq (N := max N N2) (r' := fun _ => 0) b.s b.t (hs.mono (Nat.le_max_left _ _)) (hs2.mono (Nat.le_max_right _ _)) (fun j hj => hv.dg.2.s j (by omega)) (fun _ _ => rfl) fun j => by
        rw [← e j, d j]
        grind).2 k
      exact absurd this hv.dg.2.t
    | @step _ _ k2 N2 _ _ s2 r2 w2 _ _ hs2 hk2 e2 hv2 =>
      have er : r = r2 := funext (div_uniq (N := max N N2) b.s b.t (hs.mono (Nat.le_max_left _ _)) (hs2.mono (Nat.le_max_right _ _)) (fun j hj => hv.dg.2.s j (by omega)) (fun j hj => hv2.dg.2.s j (by omega)) fun j => by rw [← e j, e2 j]).2
      subst er
      have ek := dg_uniq hv.dg.2 hv2.dg.2
      subst ek
      rw [ih hv2]
/-- multiples -/
theorem RR.sc : ∀ {n m : Nat} {f g : Fr} {v c : Rat}, c ≠ 0 → RR n f m g v → RR n f m (fun j => c * g j) (rp c n * v) ∧ RR n (fun j => c * f j) m g (rp c m * v) := by
  intro n m f g v c hc h
  have inv : c * (1 / c) = 1 := by grind
  induction h generalizing c with
  | @const n f g a b =>
    constructor
    · have := RR.const a (dg_sc b hc)
      rw [rp_mul] at this
      exact this
    · have := RR.const (dg_sc a hc) b
      rw [show rp c 0 = 1 from rfl]
      have e : (1 : Rat) * rp (g 0) n = rp (g 0) n := by grind
      rw [e]
      exact this
  | @zero n m N f g s a b hs d =>
    constructor
    · have := RR.zero a (dg_sc b hc) (s := fun j => (1 / c) * s j) (N := N) (fun j hj => by
        show (1 / c) * s j = 0
        rw [hs j hj]
        grind) fun j => by
        rw [cv_sc', cv_scr', d j]
        grind
      rw [show rp c n * 0 = 0 by grind]
      exact this
    · have := RR.zero (dg_sc a hc) b (s := fun j => c * s j) (N := N) (fun j hj => by
        show c * s j = 0
        rw [hs j hj]
        grind) fun j => by
        rw [cv_sc', d j]
      rw [show rp c (m + 1) * 0 = 0 by grind]
      exact this
  | @step n m k N f g s r v a b hs hk e hv ih =>
    have hkn : k ≤ n := dg_kn a b hs hk hv.dg.2 e
    constructor
    · have h1 := (ih hc inv).2
      have := RR.step a (dg_sc b hc) (s := fun j => (1 / c) * s j) (N := N) (fun j hj => by
        show (1 / c) * s j = 0
        rw [hs j hj]
        grind) hk (fun j => by
        rw [cv_sc', cv_scr', e j]
        grind) h1
      rw [rp_mul] at this
      have e2 : rp c n = rp c (n - k) * rp c k := by rw [← rp_add, show n - k + k = n by omega]
      rw [e2]
      have e3 : sg (n * (m + 1)) * (rp c (n - k) * rp (g (m + 1)) (n - k)) * (rp c k * v) = rp c (n - k) * rp c k * (sg (n * (m + 1)) * rp (g (m + 1)) (n - k) * v) := by grind
      rw [← e3]
      exact this
    · have h1 := (ih hc inv).1
      have := RR.step (dg_sc a hc) b (s := fun j => c * s j) (N := N) (fun j hj => by
        show c * s j = 0
        rw [hs j hj]
        grind) hk (fun j => by
        rw [cv_sc', e j]
        grind) h1
      have e3 : sg (n * (m + 1)) * rp (g (m + 1)) (n - k) * (rp c (m + 1) * v) = rp c (m + 1) * (sg (n * (m + 1)) * rp (g (m + 1)) (n - k) * v) := by grind
      rw [← e3]
      exact this
end Ind

set_option Elab.async false
set_option linter.all false
namespace Ind
/-! ### the two changed, the second reduced by the first -/
theorem RR.low {n m : Nat} {f g : Fr} {w : Rat} (h : n < m) (r : RR m g n f w) : RR n f m g (sg (n * m) * w) := by
  obtain ⟨dg, df⟩ := r.dg
  match m, h, dg, r with
  | m + 1, h, dg, r =>
    have := RR.step (s := fun _ => 0) (N := 0) df dg (fun _ _ => rfl) (show n ≤ m by omega) (fun j => by
      rw [cv_zl]
      grind) r
    rw [Nat.sub_self, show rp (g (m + 1)) 0 = 1 from rfl] at this
    rw [show sg (n * (m + 1)) * w = sg (n * (m + 1)) * 1 * w by grind]
    exact this
theorem rr_same {d k : Nat} {f g r : Fr} {l w : Rat} (hl : l ≠ 0) (df : Dg f (d + 1)) (e : ∀ j, f j = l * g j + r j) (h : RR (d + 1) g k r w) : RR (d + 1) f k r (rp l k * w) := by
  match k, h with
  | 0, h =>
    cases h with
    | const a b =>
      rw [show rp l 0 = 1 from rfl, show (1 : Rat) * rp (r 0) (d + 1) = rp (r 0) (d + 1) by grind]
      exact .const df b
  | k + 1, h =>
    cases h with
    | @zero _ _ N _ _ s a b hs q =>
      rw [show rp l (k + 1) * 0 = 0 by grind]
      refine RR.zero (s := fun t => l * s t + if t = 0 then 1 else 0) (N := N + 1) df b (fun j hj => ?_) fun j => ?_
      · show l * s j + (if j = 0 then (1 : Rat) else 0) = 0
        rw [hs j (by omega), if_neg (by omega)]
        grind
      · rw [cv_lin, cv_delta0, if_pos (Nat.zero_le _), Nat.sub_zero, e j, q j]
        grind
    | @step _ _ j0 N _ _ s t u a b hs hk q hv =>
      have h1 := (RR.sc hl hv).1
      have := RR.step (s := fun t => l * s t + if t = 0 then 1 else 0) (N := N + 1) df b (fun j hj => by
        show l * s j + (if j = 0 then (1 : Rat) else 0) = 0
        rw [hs j (by omega), if_neg (by omega)]
        grind) hk (fun j => by
        rw [cv_lin, cv_delta0, if_pos (Nat.zero_le _), Nat.sub_zero, e j, q j]
        grind) h1
      rw [show rp l (k + 1) * (sg ((d + 1) * (k + 1)) * rp (r (k + 1)) (d + 1 - j0) * u) = sg ((d + 1) * (k + 1)) * rp (r (k + 1)) (d + 1 - j0) * (rp l (k + 1) * u) by grind]
      exact this
theorem RR.sym {n m : Nat} {f g : Fr} {v : Rat} (h : RR n f m g v) : RR m g n f (sg (n * m) * v) := by
  obtain ⟨df, dg⟩ := h.dg
  rcases Nat.lt_trichotomy n m with c | c | c
  · obtain ⟨w, hw⟩ := RR.ex n m g f dg df
    have := (RR.low c hw).uniq h
    rw [← this, show sg (n * m) * (sg (n * m) * w) = w by have := sg_self (n * m); grind]
    exact hw
  · subst c
    match n, df, dg, h with
    | 0, df, dg, h =>
      cases h with
      | const a b =>
        have z : RR 0 g 0 f (rp (f 0) 0) := RR.const b a
        have e : sg (0 * 0) * rp (g 0) 0 = rp (f 0) 0 := by
          show (1 : Rat) * 1 = 1
          grind
        rw [e]
        exact z
    | d + 1, df, dg, h =>
      have hg := dg.t
      have hf := df.t
      obtain ⟨l, el⟩ : ∃ l, l = f (d + 1) / g (d + 1) := ⟨_, rfl⟩
      have hlg : l * g (d + 1) = f (d + 1) := by grind
      have hl : l ≠ 0 := fun z => hf (by rw [← hlg, z]; grind)
      obtain ⟨r, er⟩ : ∃ r : Fr, r = fun j => f j - l * g j := ⟨_, rfl⟩
      have e : ∀ j, f j = l * g j + r j := fun j => by
        rw [er]
        grind
      have hr : Fs r (d + 1) := fun j hj => by
        rw [er]
        show f j - l * g j = 0
        by_cases c : j = d + 1
        · rw [c, hlg]
          grind
        · rw [df.s j (by omega), dg.s j (by omega)]
          grind
      have d0 : ∀ (c : Rat), Fs (fun t => if t = 0 then c else 0) 1 := fun c j hj => by
        show (if j = 0 then c else 0) = 0
        rw [if_neg (by omega)]
      rcases dg_or hr with z | ⟨k, hk, dk⟩
      · have h1 : RR (d + 1) f (d + 1) g 0 := RR.zero df dg (d0 l) fun j => by
          rw [cv_delta0, if_pos (Nat.zero_le _), Nat.sub_zero, e j, z j]
          grind
        have h2 : RR (d + 1) g (d + 1) f 0 := RR.zero dg df (d0 (1 / l)) fun j => by
          rw [cv_delta0, if_pos (Nat.zero_le _), Nat.sub_zero, e j, z j]
          grind
        rw [h.uniq h1, show sg ((d + 1) * (d + 1)) * 0 = 0 by grind]
        exact h2
      · obtain ⟨w, hw⟩ := RR.ex k (d + 1) g r dg dk
        have h1 := RR.step df dg (d0 l) (show k ≤ d by omega) (fun j => by
          rw [cv_delta0, if_pos (Nat.zero_le _), Nat.sub_zero, e j]) hw
        have hm : (-1 / l) ≠ 0 := fun z => by grind
        have h2 := (RR.sc hm (rr_same hl df e hw)).1
        have h3 := RR.step dg df (d0 (1 / l)) (show k ≤ d by omega) (fun j => by
          rw [cv_delta0, if_pos (Nat.zero_le _), Nat.sub_zero, e j]
          grind) h2
        rw [h.uniq h1]
        have e1 : rp (f (d + 1)) (d + 1 - k) = rp l (d + 1 - k) * rp (g (d + 1)) (d + 1 - k) := by rw [← hlg, rp_mul]
        have e2 : rp (-1 / l) (d + 1) = sg (d + 1) * rp (1 / l) (d + 1) := by
          unfold sg
          rw [← rp_mul, show -1 * (1 / l) = -1 / l by grind]
        have e3 : rp l (d + 1 - k) * rp l k * rp (1 / l) (d + 1) = 1 := by
          rw [← rp_add, show d + 1 - k + k = d + 1 by omega, ← rp_mul, show l * (1 / l) = 1 by grind, rp_one]
        have e4 := sg_sq (d + 1)
        have e5 := sg_self (d + 1)
        have e6 := sg_self ((d + 1) * (d + 1))
        rw [e1, e2] at h3
        have key : sg ((d + 1) * (d + 1)) * (sg ((d + 1) * (d + 1)) * rp (g (d + 1)) (d + 1 - k) * w) = sg ((d + 1) * (d + 1)) * (rp l (d + 1 - k) * rp (g (d + 1)) (d + 1 - k)) * (sg (d + 1) * rp (1 / l) (d + 1) * (rp l k * w)) := by
          rw [e4]
          generalize rp l (d + 1 - k) = A at *
          generalize rp l k = B at *
          generalize rp (1 / l) (d + 1) = D at *
          generalize rp (g (d + 1)) (d + 1 - k) = G at *
          generalize sg (d + 1) = S at *
          have : S * S * G * w * (A * B * D) = S * (A * G) * (S * D * (B * w)) := by grind
          rw [← this, e3]
          grind
        rw [key]
        exact h3
  · have := RR.low c h
    rw [Nat.mul_comm m n] at this
    exact this
theorem RR.red {n m k N : Nat} {f g s r : Fr} {v : Rat} (dg : Dg g m) (hs : Fs s N) (hk : k ≤ n) (e : ∀ j, g j = cv s f j + r j) (h : RR (n + 1) f k r v) : RR (n + 1) f m g (rp (f (n + 1)) (m - k) * v) := by
  have := (RR.step dg h.dg.1 hs hk e h).sym
  rw [show sg (m * (n + 1)) * (sg (m * (n + 1)) * rp (f (n + 1)) (m - k) * v) = rp (f (n + 1)) (m - k) * v by have := sg_self (m * (n + 1)); grind] at this
  exact this
theorem RR.red0 {n m N : Nat} {f g s : Fr} (df : Dg f (n + 1)) (dg : Dg g m) (hs : Fs s N) (e : ∀ j, g j = cv s f j) : RR (n + 1) f m g 0 := by
  have := (RR.zero dg df hs e).sym
  rw [show sg (m * (n + 1)) * 0 = 0 by grind] at this
  exact this
theorem RR.cst {m : Nat} {f g : Fr} (df : Dg f 0) (dg : Dg g m) : RR 0 f m g (rp (f 0) m) := by
  have := (RR.const dg df).sym
  rw [Nat.mul_zero, show sg 0 * rp (f 0) m = rp (f 0) m by show (1 : Rat) * _ = _; grind] at this
  exact this
theorem RR.red2 {n m m2 N : Nat} {f g g2 s : Fr} {v : Rat} (dg : Dg g m) (hs : Fs s N) (hm : m2 ≤ m) (e : ∀ j, g j = cv s f j + g2 j) (h : RR n f m2 g2 v) : RR n f m g (rp (f n) (m - m2) * v) := by
  obtain ⟨df, dg2⟩ := h.dg
  match n, df, h with
  | 0, df, h =>
    have h1 := h.uniq (RR.cst df dg2)
    rw [h1, ← rp_add, show m - m2 + m2 = m by omega]
    exact RR.cst df dg
  | n + 1, df, h =>
    obtain ⟨t, r, M, ht, hr, q⟩ := div_ex df (m2 + 1) g2 dg2.s
    have hst : Fs (fun j => s j + t j) (max N M) := fun j hj => by
      show s j + t j = 0
      rw [hs j (by omega), ht j (by omega)]
      grind
    have e2 : ∀ j, g j = cv (fun j => s j + t j) f j + r j := fun j => by
      rw [cv_addl, e j, q j]
      grind
    rcases dg_or hr with z | ⟨k, hk, dk⟩
    · have h1 := h.uniq (RR.red0 df dg2 ht fun j => by rw [q j, z j]; grind)
      rw [h1, show rp (f (n + 1)) (m - m2) * 0 = 0 by grind]
      exact RR.red0 df dg hst fun j => by rw [e2 j, z j]; grind
    · obtain ⟨u, hu⟩ := RR.ex k (n + 1) f r df dk
      have h1 := h.uniq (RR.red dg2 ht (by omega) q hu)
      have kn := dg_kn dg2 df ht (by omega) dk q
      have h2 := RR.red dg hst (by omega) e2 hu
      rw [show m - k = m - m2 + (m2 - k) by omega, rp_add] at h2
      rw [h1, show rp (f (n + 1)) (m - m2) * (rp (f (n + 1)) (m2 - k) * u) = rp (f (n + 1)) (m - m2) * rp (f (n + 1)) (m2 - k) * u by grind]
      exact h2
end Ind

set_option Elab.async false
set_option linter.all false
namespace Ind
/-! ### a linear factor -/
def Lx (c : Rat) : Fr := fun j => if j = 0 then -c else if j = 1 then 1 else 0
theorem lx_fs (c : Rat) : Fs (Lx c) 2 := fun j hj => by
  unfold Lx
  rw [if_neg (by omega), if_neg (by omega)]
theorem lx_dg (c : Rat) : Dg (Lx c) 1 := ⟨lx_fs c, by
  unfold Lx
  rw [if_neg (by decide), if_pos rfl]
  decide⟩
theorem cv_out1 {u b : Fr} {m n : Nat} (hu : Fs u (n + 1)) (hb : Fs b (m + 1)) : Fs (cv u b) (n + m + 1) := fun j hj => by
  unfold cv
  rw [sumTo_congr (g := fun _ => 0) fun t _ => by
    by_cases c : n + 1 ≤ t
    · rw [hu t c]
      grind
    · rw [hb (j - t) (by omega)]
      grind]
  exact sumTo_zero _
theorem dg_cv {f g : Fr} {m n : Nat} (hf : Dg f m) (hg : Dg g n) : Dg (cv f g) (m + n) := ⟨cv_out1 hf.s hg.s, fun e => by
  rw [cv_top hf.s hg.s] at e
  rcases Rat.mul_eq_zero.mp e with z | z
  · exact hf.t z
  · exact hg.t z⟩
/-- y is the value at c -/
def Val (g : Fr) (c y : Rat) : Prop := ∃ s N, Fs s N ∧ ∀ j, g j = cv s (Lx c) j + if j = 0 then y else 0
theorem val_uniq {g : Fr} {c y z : Rat} (h1 : Val g c y) (h2 : Val g c z) : y = z := by
  obtain ⟨s, N, hs, e⟩ := h1
  obtain ⟨t, M, ht, q⟩ := h2
  have := (div_uniq (N := max N M) (m := 1) (r := fun j => if j = 0 then y else 0) (r' := fun j => if j = 0 then z else 0) (lx_dg c).s (lx_dg c).t (hs.mono (Nat.le_max_left _ _)) (ht.mono (Nat.le_max_right _ _)) (fun j hj => if_neg (by omega)) (fun j hj => if_neg (by omega)) fun j => by rw [← e j, ← q j]).2 0
  simpa using this
theorem cv_assoc' (f g h : Fr) : cv (cv f g) h = cv f (cv g h) := funext (cv_assoc f g h)
theorem cv_comm' (f g : Fr) : cv f g = cv g f := funext (cv_comm f g)
theorem val_sub {g g2 s f : Fr} {c y : Rat} {N M : Nat} (hs : Fs s N) (hf : Fs f M) (e : ∀ j, g j = cv s (cv (Lx c) f) j + g2 j) (h : Val g c y) : Val g2 c y := by
  obtain ⟨t, T, ht, q⟩ := h
  refine ⟨fun j => t j + (-1) * cv s f j, T + N + M, fun j hj => ?_, fun j => ?_⟩
  · show t j + (-1) * cv s f j = 0
    rw [ht j (by omega), cv_out hs hf j (by omega)]
    grind
  · rw [cv_addl t (fun j => (-1) * cv s f j), cv_sc']
    have e1 := e j
    have e2 := q j
    rw [cv_comm' (Lx c) f, ← cv_assoc'] at e1
    grind
theorem RR.lin : ∀ (n m : Nat) (f g : Fr) (v c y : Rat), RR n f m g v → Val g c y → RR (n + 1) (cv (Lx c) f) m g (y * v) := by
  intro n
  induction n using Nat.strongRecOn with
  | ind n ih =>
    -- the second of no greater degree
    have main : ∀ (m : Nat) (f g : Fr) (v c y : Rat), m ≤ n → RR n f m g v → Val g c y → RR (n + 1) (cv (Lx c) f) m g (y * v) := by
      intro m f g v c y hmn h hv
      obtain ⟨df, dg⟩ := h.dg
      have dF : Dg (cv (Lx c) f) (n + 1) := by
        have := dg_cv (lx_dg c) df
        rwa [Nat.add_comm] at this
      match m, hmn, dg, h with
      | 0, _, dg, h =>
        have ev : v = rp (g 0) n := h.uniq (RR.const df dg)
        have ey : y = g 0 := val_uniq hv ⟨fun _ => 0, 0, fun _ _ => rfl, fun j => by
          rw [cv_zl]
          by_cases c : j = 0
          · rw [if_pos c, c]
            grind
          · rw [if_neg c, dg.s j (by omega)]
            grind⟩
        have := RR.const dF dg
        rw [ev, ey, show g 0 * rp (g 0) n = rp (g 0) (n + 1) by show _ = rp (g 0) n * g 0; grind]
        exact this
      | m + 1, hmn, dg, h =>
        obtain ⟨s, r, N, hs, hr, e⟩ := div_ex dg (n + 1) f df.s
        have hLs : Fs (cv (Lx c) s) (2 + N) := cv_out (lx_fs c) hs
        rcases dg_or hr with z | ⟨k, hk, dk⟩
        · have v0 := h.uniq (RR.zero df dg hs fun j => by rw [e j, z j]; grind)
          rw [v0, show y * 0 = 0 by grind]
          refine RR.zero dF dg hLs fun j => ?_
          rw [cv_assoc', show f = cv s g from funext fun j => by rw [e j, z j]; grind]
        · obtain ⟨w, hw⟩ := RR.ex k (m + 1) g r dg dk
          have hv1 := h.uniq (RR.step df dg hs (by omega) e hw)
          have h1 := ih k (by omega) (m + 1) r g _ c y hw.sym hv
          have h2 := h1.sym
          -- the product's remainder
          have eF : ∀ j, cv (Lx c) f j = cv (cv (Lx c) s) g j + cv (Lx c) r j := fun j => by
            rw [cv_assoc', cv_comm' (Lx c) f, show f = fun j => cv s g j + r j from funext e, cv_addl, cv_comm' (cv s g), cv_comm' r]
          have hn1 : n + 1 - (k + 1) = n - k := by omega
          obtain ⟨V, hV⟩ : ∃ V, V = sg ((k + 1) * (m + 1)) * (y * (sg ((m + 1) * k) * w)) := ⟨_, rfl⟩
          have fin : sg ((n + 1) * (m + 1)) * rp (g (m + 1)) (n - k) * V = y * v := by
            rw [hv1, hV, show (n + 1) * (m + 1) = n * (m + 1) + (m + 1) by grind, show (k + 1) * (m + 1) = (m + 1) * k + (m + 1) by grind, sg_add (n * (m + 1)) (m + 1), sg_add ((m + 1) * k) (m + 1)]
            have e1 := sg_self (m + 1)
            have e2 := sg_self ((m + 1) * k)
            generalize sg (m + 1) = A at *
            generalize sg ((m + 1) * k) = B at *
            generalize sg (n * (m + 1)) = D at *
            generalize rp (g (m + 1)) (n - k) = G at *
            have : D * A * G * (B * A * (y * (B * w))) = D * G * y * w * (A * A) * (B * B) := by grind
            rw [this, e1, e2]
            grind
          rw [← hV] at h2
          rw [← fin]
          have dLr : Dg (cv (Lx c) r) (k + 1) := by
            have := dg_cv (lx_dg c) dk
            rwa [Nat.add_comm] at this
          by_cases hkm : k + 1 ≤ m
          · have := RR.step dF dg hLs hkm eF h2
            rw [hn1] at this
            exact this
          · have ek : k = m := by omega
            subst ek
            obtain ⟨l, r2, M, hl, hr2, q⟩ := div_ex dg (k + 2) (cv (Lx c) r) dLr.s
            have hst : Fs (fun j => cv (Lx c) s j + l j) (2 + N + M) := fun j hj => by
              show cv (Lx c) s j + l j = 0
              rw [hLs j (by omega), hl j (by omega)]
              grind
            have eF2 : ∀ j, cv (Lx c) f j = cv (fun j => cv (Lx c) s j + l j) g j + r2 j := fun j => by
              rw [cv_addl, eF j, q j]
              grind
            rcases dg_or hr2 with z | ⟨k2, hk2, dk2⟩
            · have V0 := h2.uniq (RR.red0 dg dLr hl fun j => by rw [q j, z j]; grind)
              rw [V0, show sg ((n + 1) * (k + 1)) * rp (g (k + 1)) (n - k) * 0 = 0 by grind]
              exact RR.zero dF dg hst fun j => by rw [eF2 j, z j]; grind
            · obtain ⟨u, hu⟩ := RR.ex k2 (k + 1) g r2 dg dk2
              have V1 := h2.uniq (RR.red dLr hl (by omega) q hu)
              have := RR.step dF dg hst (by omega) eF2 hu
              rw [show n + 1 - k2 = n - k + (k + 1 - k2) by omega, rp_add] at this
              rw [V1, show sg ((n + 1) * (k + 1)) * rp (g (k + 1)) (n - k) * (rp (g (k + 1)) (k + 1 - k2) * u) = sg ((n + 1) * (k + 1)) * (rp (g (k + 1)) (n - k) * rp (g (k + 1)) (k + 1 - k2)) * u by grind]
              exact this
    intro m f g v c y h hv
    by_cases hmn : m ≤ n
    · exact main m f g v c y hmn h hv
    · obtain ⟨df, dg⟩ := h.dg
      have dF : Dg (cv (Lx c) f) (n + 1) := by
        have := dg_cv (lx_dg c) df
        rwa [Nat.add_comm] at this
      have tF : cv (Lx c) f (n + 1) = f n := by
        have := cv_top (lx_dg c).s df.s
        rw [Nat.add_comm] at this
        rw [this]
        show (if (1 : Nat) = 0 then -c else if 1 = 1 then (1 : Rat) else 0) * f n = f n
        rw [if_neg (by decide), if_pos rfl]
        grind
      obtain ⟨s, g2, N, hs, hg2, e⟩ := div_ex dF (m + 1) g dg.s
      have hv2 : Val g2 c y := val_sub hs df.s e hv
      rcases dg_or hg2 with z | ⟨m2, hm2, dg2⟩
      · have y0 : y = 0 := val_uniq hv2 ⟨fun _ => 0, 0, fun _ _ => rfl, fun j => by
          rw [cv_zl, z j]
          split <;> grind⟩
        rw [y0, show (0 : Rat) * v = 0 by grind]
        exact RR.red0 dF dg hs fun j => by rw [e j, z j]; grind
      · obtain ⟨v2, hw2⟩ := RR.ex m2 n f g2 df dg2
        have h1 := main m2 f g2 v2 c y (by omega) hw2 hv2
        have h2 := RR.red dg hs (by omega) e h1
        rw [tF] at h2
        have hsL : Fs (cv s (Lx c)) (N + 2) := cv_out hs (lx_fs c)
        have h3 := h.uniq (RR.red2 dg hsL (by omega) (fun j => by rw [cv_assoc', e j]) hw2)
        rw [h3, show y * (rp (f n) (m - m2) * v2) = rp (f n) (m - m2) * (y * v2) by grind]
        exact h2
end Ind

set_option Elab.async false
set_option linter.all false
set_option maxRecDepth 100000
set_option maxHeartbeats 4000000
set_option exponentiation.threshold 9000
namespace Ind
open PySem PySem.Spec PyProof.Rows L2
open Builtin.Int (intBits)
section
variable {P : Program} {w : World} {K : PySem.W.Frag} {mg : Str → Option Value} {base : Heap} {C Z : Addr}
abbrev s_add : Stmt := inClass (top 18) 1
def sp_add (C : Addr) : Sp := fun vs H Q _ => ∃ (p q : Addr) (a b c d : Int), vs = [.ref p, .ref q] ∧ RatAt C H p a b ∧ RatAt C H q c d ∧ b ≠ 0 ∧ d ≠ 0 ∧ Bd a ∧ Bd b ∧ Bd c ∧ Bd d ∧
  ∀ (H' : Hp) (r : Addr), RatAt C H' r (nN (a * d + c * b) (b * d)) (nD (a * d + c * b) (b * d)) → Same H H' → Q (.ref r) H'
theorem sc_add : FnScope ["self", "other"] ["self", "other"] (defScope s_add) := ⟨rfl, rfl, rfl, by decide +kernel, rfl, by decide +kernel, by decide +kernel⟩
theorem ok_add {f fI : Addr} {fd fdI : FuncData} {ds : List Value} (F : Fun K "__add__" "Ratio.__add__" s_add f fd) (R : TxR K mg C Z) (M : MkR P w K mg base C Z fI fdI ds) : FnOk P w K mg base CX0 43 f fd ["self", "other"] (sp_add C) := by
  refine F.ok sc_add (fun vs H Q E h => ?_) (fun cdv A outer s H vs Q E hr h => ?_)
  · obtain ⟨p, q, a, b, c, d, rfl, _⟩ := h
    rfl
  · obtain ⟨p, q, a, b, c, d, rfl, ⟨dx, hp⟩, ⟨dy, hq⟩, h1, h2, ba, bb, bc, bd, k⟩ := h
    refine ⟨_, pss_one (ps_ret (pe_make M.cm M.fn hr (by rfl) R.mgC M.b2 .nil passL (pa_cons (pe_op op_add (pe_op op_mulB (pe_fld (pv 0) rfl) (pe_fld (pv 1) rfl)) (pe_op op_mulB (pe_fld (pv 1) rfl) (pe_fld (pv 0) rfl))) (pa_cons (pe_op op_mulB (pe_fld (pv 0) rfl) (pe_fld (pv 1) rfl)) pa_nil)))), ?_⟩
    refine ⟨_, rfl, p, C, dx, _, _, rfl, hp, R.cl, R.nN, rf_n _ _, _, rfl, q, C, dy, _, _, rfl, hq, R.cl, R.nD, rf_d _ _, _, _, rfl, rfl, bd2 ba bd, _, rfl, q, C, dy, _, _, rfl, hq, R.cl, R.nN, rf_n _ _, _, rfl, p, C, dx, _, _, rfl, hp, R.cl, R.nD, rf_d _ _, _, _, rfl, rfl, bd2 bc bb, _, _, rfl, rfl, _, rfl, p, C, dx, _, _, rfl, hp, R.cl, R.nD, rf_d _ _, _, rfl, q, C, dy, _, _, rfl, hq, R.cl, R.nD, rf_d _ _, _, _, rfl, rfl, bd2 bb bd, ?_⟩
    exact fun r dr nr ndr ner => ⟨r, dr, _, _, rfl, upd_same, fun z => absurd z (Int.mul_ne_zero h1 h2), fun _ H' rr kk => ⟨rfl, k H' r rr (Same.made nr ndr kk)⟩⟩

abbrev s_sub : Stmt := inClass (top 18) 2
def sp_sub (C : Addr) : Sp := fun vs H Q _ => ∃ (p q : Addr) (a b c d : Int), vs = [.ref p, .ref q] ∧ RatAt C H p a b ∧ RatAt C H q c d ∧ b ≠ 0 ∧ d ≠ 0 ∧ Bd a ∧ Bd b ∧ Bd c ∧ Bd d ∧
  ∀ (H' : Hp) (r : Addr), RatAt C H' r (nN (a * d - c * b) (b * d)) (nD (a * d - c * b) (b * d)) → Same H H' → Q (.ref r) H'
theorem sc_sub : FnScope ["self", "other"] ["self", "other"] (defScope s_sub) := ⟨rfl, rfl, rfl, by decide +kernel, rfl, by decide +kernel, by decide +kernel⟩
theorem ok_sub {f fI : Addr} {fd fdI : FuncData} {ds : List Value} (F : Fun K "__sub__" "Ratio.__sub__" s_sub f fd) (R : TxR K mg C Z) (M : MkR P w K mg base C Z fI fdI ds) : FnOk P w K mg base CX0 43 f fd ["self", "other"] (sp_sub C) := by
  refine F.ok sc_sub (fun vs H Q E h => ?_) (fun cdv A outer s H vs Q E hr h => ?_)
  · obtain ⟨p, q, a, b, c, d, rfl, _⟩ := h
    rfl
  · obtain ⟨p, q, a, b, c, d, rfl, ⟨dx, hp⟩, ⟨dy, hq⟩, h1, h2, ba, bb, bc, bd, k⟩ := h
    refine ⟨_, pss_one (ps_ret (pe_make M.cm M.fn hr (by rfl) R.mgC M.b2 .nil passL (pa_cons (pe_op op_sub (pe_op op_mulB (pe_fld (pv 0) rfl) (pe_fld (pv 1) rfl)) (pe_op op_mulB (pe_fld (pv 1) rfl) (pe_fld (pv 0) rfl))) (pa_cons (pe_op op_mulB (pe_fld (pv 0) rfl) (pe_fld (pv 1) rfl)) pa_nil)))), ?_⟩
    refine ⟨_, rfl, p, C, dx, _, _, rfl, hp, R.cl, R.nN, rf_n _ _, _, rfl, q, C, dy, _, _, rfl, hq, R.cl, R.nD, rf_d _ _, _, _, rfl, rfl, bd2 ba bd, _, rfl, q, C, dy, _, _, rfl, hq, R.cl, R.nN, rf_n _ _, _, rfl, p, C, dx, _, _, rfl, hp, R.cl, R.nD, rf_d _ _, _, _, rfl, rfl, bd2 bc bb, _, _, rfl, rfl, _, rfl, p, C, dx, _, _, rfl, hp, R.cl, R.nD, rf_d _ _, _, rfl, q, C, dy, _, _, rfl, hq, R.cl, R.nD, rf_d _ _, _, _, rfl, rfl, bd2 bb bd, ?_⟩
    exact fun r dr nr ndr ner => ⟨r, dr, _, _, rfl, upd_same, fun z => absurd z (Int.mul_ne_zero h1 h2), fun _ H' rr kk => ⟨rfl, k H' r rr (Same.made nr ndr kk)⟩⟩

abbrev s_mul : Stmt := inClass (top 18) 3
def sp_mul (C : Addr) : Sp := fun vs H Q _ => ∃ (p q : Addr) (a b c d : Int), vs = [.ref p, .ref q] ∧ RatAt C H p a b ∧ RatAt C H q c d ∧ b ≠ 0 ∧ d ≠ 0 ∧ Bd a ∧ Bd b ∧ Bd c ∧ Bd d ∧
  ∀ (H' : Hp) (r : Addr), RatAt C H' r (nN (a * c) (b * d)) (nD (a * c) (b * d)) → Same H H' → Q (.ref r) H'
theorem sc_mul : FnScope ["self", "other"] ["self", "other"] (defScope s_mul) := ⟨rfl, rfl, rfl, by decide +kernel, rfl, by decide +kernel, by decide +kernel⟩
theorem ok_mul {f fI : Addr} {fd fdI : FuncData} {ds : List Value} (F : Fun K "__mul__" "Ratio.__mul__" s_mul f fd) (R : TxR K mg C Z) (M : MkR P w K mg base C Z fI fdI ds) : FnOk P w K mg base CX0 43 f fd ["self", "other"] (sp_mul C) := by
  refine F.ok sc_mul (fun vs H Q E h => ?_) (fun cdv A outer s H vs Q E hr h => ?_)
  · obtain ⟨p, q, a, b, c, d, rfl, _⟩ := h
    rfl
  · obtain ⟨p, q, a, b, c, d, rfl, ⟨dx, hp⟩, ⟨dy, hq⟩, h1, h2, ba, bb, bc, bd, k⟩ := h
    refine ⟨_, pss_one (ps_ret (pe_make M.cm M.fn hr (by rfl) R.mgC M.b2 .nil passL (pa_cons (pe_op op_mulB (pe_fld (pv 0) rfl) (pe_fld (pv 1) rfl)) (pa_cons (pe_op op_mulB (pe_fld (pv 0) rfl) (pe_fld (pv 1) rfl)) pa_nil)))), ?_⟩
    refine ⟨_, rfl, p, C, dx, _, _, rfl, hp, R.cl, R.nN, rf_n _ _, _, rfl, q, C, dy, _, _, rfl, hq, R.cl, R.nN, rf_n _ _, _, _, rfl, rfl, bd2 ba bc, _, rfl, p, C, dx, _, _, rfl, hp, R.cl, R.nD, rf_d _ _, _, rfl, q, C, dy, _, _, rfl, hq, R.cl, R.nD, rf_d _ _, _, _, rfl, rfl, bd2 bb bd, ?_⟩
    exact fun r dr nr ndr ner => ⟨r, dr, _, _, rfl, upd_same, fun z => absurd z (Int.mul_ne_zero h1 h2), fun _ H' rr kk => ⟨rfl, k H' r rr (Same.made nr ndr kk)⟩⟩
abbrev s_neg : Stmt := inClass (top 18) 4
def sp_neg (C : Addr) : Sp := fun vs H Q _ => ∃ (p : Addr) (a b : Int), vs = [.ref p] ∧ RatAt C H p a b ∧ b ≠ 0 ∧ ∀ (H' : Hp) (r : Addr), RatAt C H' r (nN (-a) b) (nD (-a) b) → Same H H' → Q (.ref r) H'
theorem sc_neg : FnScope ["self"] ["self"] (defScope s_neg) := ⟨rfl, rfl, rfl, by decide +kernel, rfl, by decide +kernel, by decide +kernel⟩
theorem ok_neg {f fI : Addr} {fd fdI : FuncData} {ds : List Value} (F : Fun K "__neg__" "Ratio.__neg__" s_neg f fd) (R : TxR K mg C Z) (M : MkR P w K mg base C Z fI fdI ds) : FnOk P w K mg base CX0 43 f fd ["self"] (sp_neg C) := by
  refine F.ok sc_neg (fun vs H Q E h => ?_) (fun cdv A outer s H vs Q E hr h => ?_)
  · obtain ⟨p, a, b, rfl, _⟩ := h
    rfl
  · obtain ⟨p, a, b, rfl, ⟨dx, hp⟩, h1, k⟩ := h
    refine ⟨_, pss_one (ps_ret (pe_make M.cm M.fn hr (by rfl) R.mgC M.b2 .nil passL (pa_cons (pe_un un_neg (pe_fld (pv 0) rfl)) (pa_cons (pe_fld (pv 0) rfl) pa_nil)))), ?_⟩
    refine ⟨_, rfl, p, C, dx, _, _, rfl, hp, R.cl, R.nN, rf_n _ _, _, rfl, _, rfl, p, C, dx, _, _, rfl, hp, R.cl, R.nD, rf_d _ _, ?_⟩
    exact fun r dr nr ndr ner => ⟨r, dr, _, _, rfl, upd_same, fun z => absurd z h1, fun _ H' rr kk => ⟨rfl, k H' r rr (Same.made nr ndr kk)⟩⟩
/-! ### power_of over ints -/
abbrev sPowOf : Stmt := top 10
def spPowI : Sp := fun vs H Q _ => ∃ (b : Int) (k : Nat), vs = [.int b, .int k, .int 1] ∧ k ≤ 8 ∧ intBits b ≤ 3000000 ∧ Q (.int (b ^ k)) H
theorem scPO : FnScope ["base", "k", "unit", "found"] ["base", "k", "unit"] (defScope sPowOf) := ⟨rfl, rfl, rfl, by decide +kernel, rfl, by decide +kernel, by decide +kernel⟩
theorem bits_pow {b : Int} {e : Nat} (h : intBits b ≤ 3000000) (he : e ≤ 8) : intBits (b ^ e) ≤ 24000001 := by
  refine Nat.le_trans (PySem.intBits_pow_le h e) ?_
  have : 3000000 * e ≤ 3000000 * 8 := Nat.mul_le_mul_left _ he
  omega
theorem ok_powOf {f : Addr} {fd : FuncData} (F : Fun K "power_of" "power_of" sPowOf f fd) : FnOk P w K mg base CX0 1 f fd ["base", "k", "unit"] spPowI := by
  refine F.ok scPO (fun vs H Q E h => ?_) (fun cdv A outer s H vs Q E hr h => ?_)
  · obtain ⟨b, k, rfl, _⟩ := h
    rfl
  · obtain ⟨b, k, rfl, hk, hb, q⟩ := h
    refine ⟨_, pss_cons (ps_set (i := 3) scPO.nd rfl (Or.inl rfl) (pv 2))
      (pss_cons (ps_while PassesOwn.never (pt_cmpR op_gt (pv 1) pe_int (nomark _))
        (C8.pss_cut (ps_if (pt_cmpR op_eq (pe_op op_modN (pv 1) pe_int) pe_int (nomark _)) (pss_one (ps_set (i := 3) scPO.nd rfl (Or.inl rfl) (pe_op op_mulB (pv 3) (pv 0)))) pss_nil)
        (pss_cons (ps_set (i := 1) scPO.nd rfl (Or.inl rfl) (pe_op op_fdivN (pv 1) pe_int))
        (pss_one (ps_if (pt_cmpR op_gt (pv 1) pe_int (nomark _)) (pss_one (ps_set (i := 0) scPO.nd rfl (Or.inl rfl) (pe_op op_mulB (pv 0) (pv 0)))) pss_nil)))))
      (pss_one (ps_ret (pv 3)))), ?_⟩
    refine ⟨_, rfl, ?_⟩
    refine while_by (fun σ H' => H' = H ∧ ∃ e g j : Nat, σ = [some (.int (b ^ e)), some (.int (j : Int)), some (.int 1), some (.int (b ^ g))] ∧ e * j + g = k ∧ 1 ≤ e)
      (fun σ _ => match σ[1]? with | some (some (V.int y)) => y.toNat | _ => 0) ⟨rfl, 1, 0, k, by rw [show b ^ 1 = b by rw [Int.pow_succ, Int.pow_zero, Int.one_mul], Int.pow_zero]; rfl, by omega, Nat.le_refl _⟩ ?_ ?_
    · rintro σ H' ⟨rfl, e, g, j, rfl, hj, he⟩
      refine ⟨_, rfl, _, _, rfl, rfl, _, rfl, ite2 (fun c => ?_) (fun c => ?_)⟩
      · have hj0 : 0 < j := by
          have := of_decide_eq_true c
          omega
        have hge : e + g ≤ k := by
          have : e * 1 ≤ e * j := Nat.mul_le_mul_left _ hj0
          omega
        have w1 := bits_pow (b := b) (e := e) hb (by omega)
        have w2 := bits_pow (b := b) (e := g) hb (by omega)
        have em : ((j : Int)).fmod 2 = ((j % 2 : Nat) : Int) := by
          rw [Int.fmod_eq_emod_of_nonneg _ (by omega)]
          rfl
        have ed : ((j : Int)).fdiv 2 = ((j / 2 : Nat) : Int) := by
          rw [Int.fdiv_eq_ediv_of_nonneg _ (by omega)]
          rfl
        refine ⟨fun σ' H2 => H2 = H' ∧ ∃ g' : Nat, σ' = [some (.int (b ^ e)), some (.int (j : Int)), some (.int 1), some (.int (b ^ g'))] ∧ g' = g + e * (j % 2), ?_, ?_⟩
        · refine ⟨_, rfl, _, _, rfl, rfl, (by show (2 : Int) ≠ 0; decide), rfl, _, rfl, ite2 (fun c2 => ?_) (fun c2 => ?_)⟩
          · refine ⟨_, rfl, _, rfl, _, _, rfl, rfl, (by show intBits (b ^ g) + intBits (b ^ e) ≤ 134217728; omega), rfl, g + e, ?_, ?_⟩
            · rw [Int.pow_add]
              rfl
            · have z : V.int ((j : Int).fmod 2) = V.int 1 := of_decide_eq_true c2
              rw [em] at z
              have z2 := V.int.inj z
              have z3 : j % 2 = 1 := by omega
              rw [z3, Nat.mul_one]
          · refine ⟨rfl, g, rfl, ?_⟩
            have z : ¬ V.int ((j : Int).fmod 2) = V.int 1 := fun z => c2 (decide_eq_true z)
            rw [em] at z
            have z3 : j % 2 = 0 := by
              have : ¬ ((j % 2 : Nat) : Int) = 1 := fun q => z (by rw [q])
              omega
            rw [z3, Nat.mul_zero, Nat.add_zero]
        · rintro σ' H2 ⟨rfl, g', rfl, hg'⟩
          have hdm : j = 2 * (j / 2) + j % 2 := (Nat.div_add_mod j 2).symm
          have hsum : 2 * e * (j / 2) + g' = k := by
            rw [hg']
            have : e * j = e * (2 * (j / 2)) + e * (j % 2) := by rw [← Nat.mul_add, ← hdm]
            have : e * (2 * (j / 2)) = 2 * e * (j / 2) := by ac_rfl
            omega
          have hlt : j / 2 < j := Nat.div_lt_self hj0 (by decide)
          refine ⟨_, rfl, _, _, rfl, rfl, ⟨(by show (2 : Int) ≠ 0; decide), by decide⟩, _, rfl, _, _, rfl, rfl, _, rfl, ite2 (fun c3 => ?_) (fun c3 => ?_)⟩
          · have hpos : 0 < j / 2 := by
              have z := of_decide_eq_true c3
              have z2 : (0 : Int) < ((j / 2 : Nat) : Int) := by rw [← ed]; exact z
              omega
            refine ⟨_, rfl, _, rfl, _, _, rfl, rfl, (by show intBits (b ^ e) + intBits (b ^ e) ≤ 134217728; omega), ⟨rfl, 2 * e, g', j / 2, ?_, hsum, by omega⟩, ?_⟩
            · have ep : b ^ e * b ^ e = b ^ (2 * e) := by rw [← Int.pow_add, Nat.two_mul]
              rw [← ed, ← ep]
              rfl
            · show ((j : Int).fdiv 2).toNat < ((j : Nat) : Int).toNat
              rw [ed]
              omega
          · have hz : j / 2 = 0 := by
              have z : ¬ (0 : Int) < ((j / 2 : Nat) : Int) := fun z => c3 (decide_eq_true (by rw [← ed] at z; exact z))
              omega
            refine ⟨⟨rfl, e, g', j / 2, ?_, ?_, he⟩, ?_⟩
            · rw [← ed]
              rfl
            · rw [hz] at hsum ⊢
              rw [Nat.mul_zero] at hsum ⊢
              exact hsum
            · show ((j : Int).fdiv 2).toNat < ((j : Nat) : Int).toNat
              rw [ed]
              omega
      · have hj0 : j = 0 := by
          have z : ¬ (0 : Int) < (j : Int) := fun z => c (decide_eq_true z)
          omega
        subst hj0
        rw [Nat.mul_zero, Nat.zero_add] at hj
        refine ⟨_, rfl, ?_⟩
        rw [hj]
        exact q
    · rintro σ H' R R' hR ⟨v, e1, i1, i2, e2, e3, b1, e4, h3⟩
      exact ⟨v, e1, i1, i2, e2, e3, b1, e4, hR _ _ h3⟩
abbrev s_pow : Stmt := inClass (top 18) 9
/-- a power with an exponent from 0 on -/
def sp_pow0 (C : Addr) : Sp := fun vs H Q _ => ∃ (p : Addr) (a b : Int) (k : Nat), vs = [.ref p, .int k] ∧ k ≤ 8 ∧ RatAt C H p a b ∧ b ≠ 0 ∧ intBits a ≤ 3000000 ∧ intBits b ≤ 3000000 ∧
  ∀ (H' : Hp) (r : Addr), RatAt C H' r (nN (a ^ k) (b ^ k)) (nD (a ^ k) (b ^ k)) → Same H H' → Q (.ref r) H'
theorem sc_pow : FnScope ["self", "k"] ["self", "k"] (defScope s_pow) := ⟨rfl, rfl, rfl, by decide +kernel, rfl, by decide +kernel, by decide +kernel⟩
theorem pow_ne {b : Int} (h : b ≠ 0) (k : Nat) : b ^ k ≠ 0 := by
  induction k with
  | zero => rw [Int.pow_zero]; decide
  | succ k ih =>
    rw [Int.pow_succ]
    exact Int.mul_ne_zero ih h
theorem ok_pow0 {f fI fP : Addr} {fd fdI fdP : FuncData} {ds : List Value} (F : Fun K "power" "Ratio.power" s_pow f fd) (R : TxR K mg C Z) (M : MkR P w K mg base C Z fI fdI ds) (FP : Fun K "power_of" "power_of" sPowOf fP fdP) (bP : Binds K fdP ["base", "k", "unit"] []) (gP : mg "power_of" = some (.ref fP)) :
    FnOk P w K mg base CX0 43 f fd ["self", "k"] (sp_pow0 C) := by
  have GP : FnOk P w K mg base CX0 1 fP fdP ["base", "k", "unit"] spPowI := ok_powOf FP
  refine F.ok sc_pow (fun vs H Q E h => ?_) (fun cdv A outer s H vs Q E hr h => ?_)
  · obtain ⟨p, a, b, k, rfl, _⟩ := h
    rfl
  · obtain ⟨p, a, b, k, rfl, hk, ⟨dx, hp⟩, h1, ba, bb, q⟩ := h
    have hr1 : Room 1 _ := hr.mono (by decide)
    refine ⟨_, pss_cons (ps_if (pt_cmpR op_lt (pv 1) pe_int (nomark _)) (pss_one ps_never) pss_nil)
      (pss_one (ps_ret (pe_make M.cm M.fn hr (by rfl) R.mgC M.b2 .nil passL (pa_cons (pe_call GP hr1 (by rfl) gP FP.kp bP .nil pass0 (pa_cons (pe_fld (pv 0) rfl) (pa_cons (pv 1) (pa_cons pe_int pa_nil))))
        (pa_cons (pe_call GP hr1 (by rfl) gP FP.kp bP .nil pass0 (pa_cons (pe_fld (pv 0) rfl) (pa_cons (pv 1) (pa_cons pe_int pa_nil)))) pa_nil))))), ?_⟩
    refine ⟨_, rfl, _, _, rfl, rfl, _, rfl, ite2 (fun c => absurd (of_decide_eq_true c) (by omega)) (fun _ => ?_)⟩
    refine ⟨_, rfl, p, C, dx, _, _, rfl, hp, R.cl, R.nN, rf_n _ _, _, rfl, a, k, rfl, hk, ba, _, rfl, p, C, dx, _, _, rfl, hp, R.cl, R.nD, rf_d _ _, _, rfl, b, k, rfl, hk, bb, ?_⟩
    exact fun r dr nr ndr ner => ⟨r, dr, _, _, rfl, upd_same, fun z => absurd z (pow_ne h1 k), fun _ H' rr kk => ⟨rfl, q H' r rr (Same.made nr ndr kk)⟩⟩
/-! ### over numbers -/
def subq (a b : Q2) : Q2 := mkq (a.1 * b.2 - b.1 * a.2) (a.2 * b.2)
def negq (a : Q2) : Q2 := mkq (-a.1) a.2
theorem rv_sub {a b : Q2} (ha : Lo a) (hb : Lo b) : rv (subq a b) = rv a - rv b := by
  unfold subq
  rw [rv_mk (Int.mul_ne_zero ha.ne hb.ne), Rat.intCast_sub, Rat.intCast_mul, Rat.intCast_mul, Rat.intCast_mul]
  have h1 := cst_ne ha.ne
  have h2 := cst_ne hb.ne
  unfold rv
  grind
theorem rv_neg {a : Q2} (ha : Lo a) : rv (negq a) = -rv a := by
  unfold negq
  rw [rv_mk ha.ne, Rat.intCast_neg]
  have h1 := cst_ne ha.ne
  unfold rv
  grind
def spMulR (C : Addr) : Sp := fun vs H Q _ => ∃ (p r : Addr) (a b : Q2), vs = [.ref p, .ref r] ∧ RatQ C H p a ∧ RatQ C H r b ∧ Lo a ∧ Lo b ∧ Bg a ∧ Bg b ∧ ∀ (H' : Hp) (t : Addr), Same H H' → RatQ C H' t (mulq a b) → Q (.ref t) H'
def spSubR (C : Addr) : Sp := fun vs H Q _ => ∃ (p r : Addr) (a b : Q2), vs = [.ref p, .ref r] ∧ RatQ C H p a ∧ RatQ C H r b ∧ Lo a ∧ Lo b ∧ Bg a ∧ Bg b ∧ ∀ (H' : Hp) (t : Addr), Same H H' → RatQ C H' t (subq a b) → Q (.ref t) H'
def spNegR (C : Addr) : Sp := fun vs H Q _ => ∃ (p : Addr) (a : Q2), vs = [.ref p] ∧ RatQ C H p a ∧ Lo a ∧ ∀ (H' : Hp) (t : Addr), Same H H' → RatQ C H' t (negq a) → Q (.ref t) H'
theorem mulR {f : Addr} {fd : FuncData} (h : FnOk P w K mg base CX0 43 f fd ["self", "other"] (sp_mul C)) : FnOk P w K mg base CX0 43 f fd ["self", "other"] (spMulR C) :=
  h.imp fun vs H Q E ⟨p, r, a, b, e, h1, h2, la, lb, ga, gb, k⟩ => ⟨p, r, a.1, a.2, b.1, b.2, e, h1, h2, la.ne, lb.ne, ga.1, ga.2, gb.1, gb.2, fun H' t z s => k H' t s z⟩
theorem subR {f : Addr} {fd : FuncData} (h : FnOk P w K mg base CX0 43 f fd ["self", "other"] (sp_sub C)) : FnOk P w K mg base CX0 43 f fd ["self", "other"] (spSubR C) :=
  h.imp fun vs H Q E ⟨p, r, a, b, e, h1, h2, la, lb, ga, gb, k⟩ => ⟨p, r, a.1, a.2, b.1, b.2, e, h1, h2, la.ne, lb.ne, ga.1, ga.2, gb.1, gb.2, fun H' t z s => k H' t s z⟩
theorem negR {f : Addr} {fd : FuncData} (h : FnOk P w K mg base CX0 43 f fd ["self"] (sp_neg C)) : FnOk P w K mg base CX0 43 f fd ["self"] (spNegR C) :=
  h.imp fun vs H Q E ⟨p, a, e, h1, la, k⟩ => ⟨p, a.1, a.2, e, h1, la.ne, fun H' t z s => k H' t s z⟩
def powq (a : Q2) (k : Nat) : Q2 := mkq (a.1 ^ k) (a.2 ^ k)
theorem rv_powq {a : Q2} (ha : Lo a) (k : Nat) : rv (powq a k) = rp (rv a) k := by
  unfold powq
  rw [rv_mk (pow_ne ha.ne k)]
  have h1 := cst_ne ha.ne
  induction k with
  | zero =>
    rw [Int.pow_zero, Int.pow_zero]
    show ((1 : Int) : Rat) / ((1 : Int) : Rat) = 1
    grind
  | succ k ih =>
    show _ = rp (rv a) k * rv a
    rw [← ih, Int.pow_succ, Int.pow_succ, Rat.intCast_mul, Rat.intCast_mul]
    have h2 := cst_ne (pow_ne ha.ne k)
    unfold rv
    grind
theorem lo_powq {a : Q2} (ha : Lo a) (k : Nat) : Lo (powq a k) := lo_mk (pow_ne ha.ne k)
theorem bq_powq {a : Q2} {m : Nat} (h : Bq m a) (k : Nat) : Bq (m * k + 1) (powq a k) := bq_mk (PySem.intBits_pow_le h.1 k) (PySem.intBits_pow_le h.2 k)
def spPowR (C : Addr) : Sp := fun vs H Q _ => ∃ (p : Addr) (a : Q2) (k : Nat), vs = [.ref p, .int k] ∧ k ≤ 8 ∧ RatQ C H p a ∧ Lo a ∧ Bq 3000000 a ∧ ∀ (H' : Hp) (t : Addr), Same H H' → RatQ C H' t (powq a k) → Q (.ref t) H'
theorem powR {f : Addr} {fd : FuncData} (h : FnOk P w K mg base CX0 43 f fd ["self", "k"] (sp_pow0 C)) : FnOk P w K mg base CX0 43 f fd ["self", "k"] (spPowR C) :=
  h.imp fun vs H Q E ⟨p, a, k, e, hk, h1, la, bq, q⟩ => ⟨p, a.1, a.2, k, e, hk, h1, la.ne, bq.1, bq.2, fun H' t z s => q H' t s z⟩
end
end Ind

set_option Elab.async false
set_option linter.all false
set_option maxRecDepth 100000
set_option maxHeartbeats 4000000
set_option exponentiation.threshold 9000
namespace Ind
open PySem PySem.Spec PyProof.Rows L2
open Builtin.Int (intBits)
abbrev sPLa : Stmt := inClass (top 23) 12
abbrev sPSc : Stmt := inClass (top 23) 15
abbrev sCst : Stmt := top 25
def spPLa (C Z CP : Addr) : Sp := fun vs H Q E => ∃ (p : Addr) (as : List Q2), vs = [.ref p] ∧ PolyAt C CP H p as ∧ (as = [] → E (.ref Z) none H) ∧ (∀ (r : Addr) (q : Q2), as.getLast? = some q → RatQ C H r q → Q (.ref r) H)
def spPSc (C CP : Addr) : Sp := fun vs H Q _ => ∃ (p r : Addr) (as : List Q2) (q : Q2) (k m : Nat), vs = [.ref p, .ref r] ∧ PolyAt C CP H p as ∧ RatQ C H r q ∧ Lo q ∧ PSz k as ∧ intBits q.1 ≤ m ∧ intBits q.2 ≤ m ∧ k + m ≤ 4000 ∧ ResQ C CP (k + m) as.length (fun j => rowF as j * rv q) H Q
def spCst (C CP : Addr) : Sp := fun vs H Q _ => ∃ (r : Addr) (q : Q2) (k : Nat), vs = [.ref r] ∧ RatQ C H r q ∧ Lo q ∧ intBits q.1 ≤ k ∧ intBits q.2 ≤ k ∧ 1 ≤ k ∧ k ≤ 4000 ∧ ∀ (H' : Hp) (t : Addr), Same H H' → PolyAt C CP H' t (trimQ [q]) → PSz k (trimQ [q]) → Q (.ref t) H'
section
variable {P : Program} {w : World} {K : PySem.W.Frag} {mg : Str → Option Value} {base : Heap} {C Z CP : Addr}
theorem scPLa : FnScope nSf ["self"] (defScope sPLa) := ⟨rfl, rfl, rfl, by decide +kernel, rfl, by decide +kernel, by decide +kernel⟩
theorem paired_last {α β : Type} {F : α → β → Prop} : ∀ {xs : List α} {ys : List β} {i : Nat} {y : β}, Paired F xs ys → ys[i]? = some y → ∃ x, xs[i]? = some x ∧ F x y
  | _, _, 0, _, .cons a _, e => ⟨_, rfl, by cases e; exact a⟩
  | _, _, i + 1, _, .cons _ t, e => paired_last (i := i) t e
theorem ok_pla {f fI : Addr} {fd fdI : FuncData} (F : Fun K "last" "Poly.last" sPLa f fd) (R : TxR K mg C Z) (TP : TxP K mg CP) (GI : FnOk P w K mg base CX0 1 fI fdI ["self"] (spPIz C CP)) (bI : Binds K fdI ["self"] []) (mI : Meth K CP "is_zero" fI) : FnOk P w K mg base (L2.CX P w) 2 f fd ["self"] (spPLa C Z CP) := by
  refine F.okX scPLa (fun vs H Q E h => ?_) (fun cdv A outer s H vs Q E hr h => ?_)
  · obtain ⟨p, as, rfl, _⟩ := h
    rfl
  · obtain ⟨p, as, rfl, ⟨dp, rp, np, ep, ⟨pa, era, qa⟩, hnp, ht⟩, kz, k⟩ := h
    refine ⟨_, pss_cons (ps_if (pt_val (pe_meth0 (pv 0) TP.cl mI GI hr bI .nil pass0)) (pss_one (ps_raise rfl (takes_of rfl rfl rfl rfl) (pmk_own PySem.F.excBase_ValueError R.xZ R.gZ R.kZ (raises_own R.bZ R.tZ) rfl))) pss_nil)
      (pss_one (ps_ret (pe_ix ix_tup (pe_fld (pv 0) rfl) (pe_un un_neg pe_int) fun _ _ => rfl))), ?_⟩
    refine ⟨_, rfl, p, dp, _, rfl, ep, by rfl, p, as, rfl, ⟨dp, rp, np, ep, ⟨pa, era, qa⟩, hnp, ht⟩, _, rfl, ite2 (fun c => ?_) (fun c => ?_)⟩
    · have c := of_decide_eq_true c
      exact kz (List.length_eq_zero_iff.mp c)
    · have c : ¬ as.length = 0 := fun z => c (decide_eq_true z)
      obtain ⟨q, hq⟩ : ∃ q, as[as.length - 1]? = some q := ⟨_, List.getElem?_eq_getElem (by omega)⟩
      obtain ⟨r, hr1, hr2⟩ := paired_last qa hq
      have hl := paired_len qa
      have hat : atI (pa.map V.ref) (-1) = some (.ref r) := by
        have e : pa = pa.take (as.length - 1) ++ [r] := by
          have := List.take_append_drop (as.length - 1) pa
          rw [List.drop_eq_getElem_cons (by omega), List.drop_of_length_le (by omega)] at this
          rw [List.getElem?_eq_getElem (by omega)] at hr1
          rw [Option.some.inj hr1] at this
          exact this.symm
        rw [e, List.map_append]
        exact atI_last _ _
      exact ⟨_, rfl, p, CP, dp, _, _, rfl, ep, TP.cl, TP.nR, pf_row _ _ _, _, rfl, rp, _, _, .ref r, rfl, rfl, SqT.of era, hat, k r q (by rw [List.getLast?_eq_getElem?]; exact hq) hr2⟩
abbrev nPSc : List Str := ["self", "r", "n"]
theorem scPSc : FnScope nPSc ["self", "r"] (defScope sPSc) := ⟨rfl, rfl, rfl, by decide +kernel, rfl, by decide +kernel, by decide +kernel⟩
theorem ok_psc {f fN fS fP : Addr} {fd fdN fdS fdP : FuncData} (F : Fun K "scaled" "Poly.scaled" sPSc f fd) (R : TxR K mg C Z) (TP : TxP K mg CP) (O : TxO P w K mg base C CP fN fS fP fdN fdS fdP) : FnOk P w K mg base CX0 46 f fd ["self", "r"] (spPSc C CP) := by
  refine F.ok scPSc (fun vs H Q E h => ?_) (fun cdv A outer s H vs Q E hr h => ?_)
  · obtain ⟨p, r, as, q, k, m, rfl, _⟩ := h
    rfl
  · obtain ⟨p, r, as, q, k, m, rfl, ⟨dp, rp, np, ep, _, hnp, _⟩, ⟨dx, hpr⟩, lq, za, b1, b2, hk, res⟩ := h
    refine ⟨_, pss_one (ps_ret (pe_call O.fnN hr (by rfl) O.gN O.kN O.bN .nil pass0 (pa_cons (pe_lc (own := [("n", 2)]) (g := gName 2) (tt := tYes) (te := tOp (rI (fun i j => intBits i + intBits j ≤ 134217728) fun i j => .int (i * j)) (tVar 2) (tFld K (tVar 1) "n")) rfl scPSc.nd (pi_tup (pe_fld (pv 0) rfl)) (blkOk_by (N := nPSc) (sc := defScope sPSc) (by decide +kernel))
          (fun _ _ _ _ _ => pg_name (i := 2) scPSc.nd rfl (Or.inl rfl)) (fun _ _ _ _ _ => pts_nil) (fun _ _ _ _ _ => pe_op op_mulB (pv 2) (pe_fld (pv 1) rfl))) (pa_cons (pe_op op_mulB (pe_fld (pv 0) rfl) (pe_fld (pv 1) rfl)) pa_nil)))), ?_⟩
    obtain ⟨ba, na⟩ := psz_lcm za
    have pa := lcmD_pos za.1
    have l1 := za.2.1
    have pq := lq.pos
    refine ⟨_, rfl, p, CP, dp, _, _, rfl, ep, TP.cl, TP.nN, pf_num _ _ _, np, rfl, ⟨_, SqT.of hnp⟩, fun D hD => lc_tup (K := K) (a := np) (xs := (partsOf ((lcmD as : Nat) : Int) as).map V.int) (fun i H2 => ColI D H H2 (((partsOf ((lcmD as : Nat) : Int) as).take i).map fun n => n * q.1)) (ColI.start hD) (fun i H2 _ z => .of (z.s _ _ hnp)) ?_ ?_⟩
    · rintro i x H2 hx z
      obtain ⟨n, hn, rfl⟩ := int_of hx
      have hi := (List.getElem?_eq_some_iff.mp hn).1
      have bn := na n (List.mem_of_getElem? hn)
      rw [parts_len2] at hi
      refine ⟨rfl, _, rfl, _, rfl, r, C, dx, _, _, rfl, z.s _ _ hpr, R.cl, R.nN, rf_n _ _, _, _, rfl, rfl, (by show intBits n + intBits q.1 ≤ 134217728; omega), ?_⟩
      rw [map_take_snoc hn]
      refine z.push hD same_rfl ?_
      rw [List.length_map, List.length_take, parts_len2]
      omega
    rintro H2 z
    rw [List.length_map, List.take_length] at z
    have hbn : ∀ u ∈ (partsOf ((lcmD as : Nat) : Int) as).map fun n => n * q.1, intBits u ≤ k + m := fun u hu => by
      obtain ⟨n, hn, rfl⟩ := List.mem_map.mp hu
      have := PySem.intBits_mul_le (na n hn) b1
      omega
    have bm := PySem.intBits_mul_le ba b2
    have hne : ((lcmD as : Nat) : Int) * q.2 ≠ 0 := Int.mul_ne_zero (by omega) (by omega)
    refine ⟨_, rfl, p, CP, dp, _, _, rfl, z.s _ _ ep, TP.cl, TP.nB, pf_bel _ _ _, _, rfl, r, C, dx, _, _, rfl, z.s _ _ hpr, R.cl, R.nD, rf_d _ _, _, _, rfl, rfl, (by show intBits _ + intBits q.2 ≤ 134217728; omega), ?_⟩
    refine ⟨D, _, _, k + m, rfl, .inl z.at_, hne, by rw [List.length_map, parts_len2]; omega, by omega, hbn, by omega, res_of res hne (by rw [List.length_map, parts_len2]; omega) (by rw [List.length_map, parts_len2]; exact Nat.le_refl _) (by omega) hbn (fun j => ?_) z.s⟩
    rw [getD_map (f := fun n => n * q.1) (by omega), Rat.intCast_mul, Rat.intCast_mul, num_fr za.1]
    have hq0 := cst_ne (show q.2 ≠ 0 by omega)
    have e2 : ((q.2 : Int) : Rat) * rv q = ((q.1 : Int) : Rat) := by
      unfold rv
      grind
    grind
theorem psz_mon {q : Q2} {k n : Nat} (lq : Lo q) (h1 : intBits q.1 ≤ k) (h2 : intBits q.2 ≤ k) (hn : n < 100) (hk : 1 ≤ k) : PSz k (List.replicate n ((0 : Int), (1 : Int)) ++ [q]) := by
  have l0 : Lo ((0 : Int), (1 : Int)) := ⟨by decide, by decide⟩
  have hm : ∀ u ∈ List.replicate n ((0 : Int), (1 : Int)) ++ [q], u = (0, 1) ∨ u = q := fun u hu => by
    rcases List.mem_append.mp hu with h | h
    · exact .inl (List.eq_of_mem_replicate h)
    · exact .inr (List.mem_singleton.mp h)
  refine ⟨fun u hu => ?_, by rw [List.length_append, List.length_replicate]; show n + 1 ≤ 100; omega, q.2, lq.pos, h2, fun u hu => ?_⟩
  · rcases hm u hu with e | e <;> rw [e] <;> assumption
  · rcases hm u hu with e | e
    · rw [e]
      refine ⟨⟨q.2, by show q.2 = 1 * q.2; omega⟩, ?_⟩
      rw [Int.zero_mul]
      exact Nat.le_trans (show intBits 0 ≤ 0 by decide) (Nat.zero_le _)
    · rw [e]
      refine ⟨⟨1, by omega⟩, ?_⟩
      rw [show q.2.fdiv q.2 = 1 by
        have := Int.mul_fdiv_cancel 1 (Int.ne_of_gt lq.pos)
        rw [Int.one_mul] at this
        exact this, Int.mul_one]
      exact h1
theorem scCst : FnScope ["r"] ["r"] (defScope sCst) := ⟨rfl, rfl, rfl, by decide +kernel, rfl, by decide +kernel, by decide +kernel⟩
theorem psz_trim {k : Nat} {qs : List Q2} (h : PSz k qs) : PSz k (trimQ qs) := psz_sub h (fun q hq => trim_mem hq) (trim_len _)
theorem ok_cst {f fP : Addr} {fd fdP : FuncData} (F : Fun K "constant" "constant" sCst f fd) (TP : TxP K mg CP) (MP : MkP P w K mg base C CP fP fdP) : FnOk P w K mg base CX0 45 f fd ["r"] (spCst C CP) := by
  refine F.ok scCst (fun vs H Q E h => ?_) (fun cdv A outer s H vs Q E hr h => ?_)
  · obtain ⟨r, q, k, rfl, _⟩ := h
    rfl
  · obtain ⟨r, q, k, rfl, hq, lq, b1, b2, k1, k2, res⟩ := h
    refine ⟨_, pss_one (ps_ret (pe_make MP.cm MP.fn hr (by rfl) TP.mgP MP.b .nil pass0 (pa_cons (pe_tup (pa_cons (pv 0) pa_nil)) pa_nil))), ?_⟩
    refine ⟨_, rfl, (by show 1 ≤ sizeLine; decide), fun t ht => ?_⟩
    have st : Same H (upd H t (.tup [V.ref r])) := same_upd ht
    have ps := psz_mon (n := 0) lq b1 b2 (by decide) k1
    have goal : ∀ x dx, upd H t (.tup [V.ref r]) x = none → upd H t (.tup [V.ref r]) dx = none → dx ≠ x → spPI C CP [.ref x, .ref t] (upd (upd (upd H t (.tup [V.ref r])) dx (.own x)) x (.ins CP dx [])) (fun v H3 => v = .non ∧ Q (.ref x) H3) E0 :=
      mkP_ok (qs := [q]) (.inr upd_same) (.cons (.inl ⟨r, rfl, (RatQ.stb C).same st hq, lq⟩) .nil) ps k2 fun p H' hp s' => res H' p (st.trans s') hp (psz_trim ps)
    exact goal
end
end Ind

set_option Elab.async false
set_option linter.all false
set_option maxRecDepth 100000
set_option maxHeartbeats 4000000
set_option exponentiation.threshold 9000
namespace Ind
open PySem PySem.Spec PyProof.Rows L2
open Builtin.Int (intBits)
abbrev sCont : Stmt := top 12
/-- the greatest common divisor of a row -/
def gcdN (ns : List Int) : Nat := ns.foldl (fun g n => Nat.gcd g n.natAbs) 0
theorem gcdN_snoc (ns : List Int) (n : Int) : gcdN (ns ++ [n]) = Nat.gcd (gcdN ns) n.natAbs := by
  unfold gcdN
  rw [List.foldl_append]
  rfl
theorem gcd_fold : ∀ (ns : List Int) (g : Nat), ns.foldl (fun g n => Nat.gcd g n.natAbs) g ∣ g ∧ ∀ n ∈ ns, ns.foldl (fun g n => Nat.gcd g n.natAbs) g ∣ n.natAbs
  | [], g => ⟨Nat.dvd_refl _, fun n h => by cases h⟩
  | m :: ns, g => by
    obtain ⟨h1, h2⟩ := gcd_fold ns (Nat.gcd g m.natAbs)
    refine ⟨Nat.dvd_trans h1 (Nat.gcd_dvd_left _ _), fun n hn => ?_⟩
    rcases List.mem_cons.mp hn with e | e
    · rw [e]
      exact Nat.dvd_trans h1 (Nat.gcd_dvd_right _ _)
    · exact h2 n e
theorem gcdN_dvd {ns : List Int} {n : Int} (h : n ∈ ns) : gcdN ns ∣ n.natAbs := (gcd_fold ns 0).2 n h
theorem gcdN_pre (as bs : List Int) : gcdN (as ++ bs) ∣ gcdN as := by
  unfold gcdN
  rw [List.foldl_append]
  exact (gcd_fold bs _).1
theorem gcdN_great {ns : List Int} {d : Nat} (h : ∀ n ∈ ns, d ∣ n.natAbs) : d ∣ gcdN ns := by
  have : ∀ (ns : List Int) (g : Nat), d ∣ g → (∀ n ∈ ns, d ∣ n.natAbs) → d ∣ ns.foldl (fun g n => Nat.gcd g n.natAbs) g := by
    intro ns
    induction ns with
    | nil => exact fun g hg _ => hg
    | cons m ns ih => exact fun g hg h => ih _ (Nat.dvd_gcd hg (h m (by simp))) fun n hn => h n (List.mem_cons_of_mem _ hn)
  exact this ns 0 (Nat.dvd_zero _) h
def spCont : Sp := fun vs H Q _ => ∃ (t : Addr) (ns : List Int), vs = [.ref t] ∧ H t = some (.tup (ns.map V.int)) ∧ Q (.int ((gcdN ns : Nat) : Int)) H
section
variable {P : Program} {w : World} {K : PySem.W.Frag} {mg : Str → Option Value} {base : Heap} {C Z CP : Addr}
abbrev nCont : List Str := ["row", "found", "n"]
theorem scCont : FnScope nCont ["row"] (defScope sCont) := ⟨rfl, rfl, rfl, by decide +kernel, rfl, by decide +kernel, by decide +kernel⟩
theorem ok_cont {f : Addr} {fd : FuncData} (F : Fun K "content" "content" sCont f fd) (gg : mg "gcd" = some (.builtin "math.gcd")) : FnOk P w K mg base CX0 1 f fd ["row"] spCont := by
  refine F.ok scCont (fun vs H Q E h => ?_) (fun cdv A outer s H vs Q E hr h => ?_)
  · obtain ⟨t, ns, rfl, _⟩ := h
    rfl
  · obtain ⟨t, ns, rfl, ht, k⟩ := h
    refine ⟨_, pss_cons (ps_set (i := 1) scCont.nd rfl (Or.inl rfl) pe_int)
      (pss_cons (ps_for PassesOwn.never rfl (pi_tup (pv 0)) (pg_name (i := 2) scCont.nd rfl (Or.inl rfl))
        (pss_cons (ps_set (i := 1) scCont.nd rfl (Or.inl rfl) (pe_callBfun cr_gcd (by rfl) gg (pa_cons (pv 1) (pa_cons (pv 2) pa_nil))))
        (pss_one (ps_if (pt_cmpR op_eq (pv 1) pe_int (nomark _)) (pss_one (ps_ret (pv 1))) pss_nil))))
      (pss_one (ps_ret (pv 1)))), ?_⟩
    refine ⟨_, rfl, t, rfl, ⟨_, SqT.of ht⟩, for_it (walk_tup (K := K) (a := t) (xs := ns.map V.int))
      (fun i σ H5 => H5 = H ∧ ∃ v2 : Option V, σ = [some (.ref t), some (.int ((gcdN (ns.take i) : Nat) : Int)), v2]) ⟨rfl, none, rfl⟩ (fun i σ H5 _ ⟨e, _⟩ => by rw [e]; exact SqT.of ht) ?_ ?_⟩
    · rintro i x σ H5 H6 hi ⟨rfl, v2, rfl⟩ ⟨rfl, hx⟩
      obtain ⟨n, hn, rfl⟩ := int_of hx
      have hil := (List.getElem?_eq_some_iff.mp hn).1
      have e : gcdN (ns.take (i + 1)) = Nat.gcd (gcdN (ns.take i)) n.natAbs := by
        rw [List.take_add_one, hn]
        exact gcdN_snoc _ _
      refine ⟨_, rfl, _, rfl, _, _, rfl, ?_⟩
      rw [Int.natAbs_natCast, ← e]
      refine ⟨_, rfl, rfl, _, rfl, ite2 (fun c => ?_) (fun c => ?_)⟩
      · have c := V.int.inj (of_decide_eq_true c)
        have c1 : gcdN (ns.take (i + 1)) = 1 := by omega
        have : gcdN ns = 1 := by
          have h := gcdN_pre (ns.take (i + 1)) (ns.drop (i + 1))
          rw [List.take_append_drop, c1] at h
          exact Nat.dvd_one.mp h
        refine ⟨_, rfl, ?_⟩
        rw [c1, ← this]
        exact k
      · exact ⟨rfl, _, rfl⟩
    · rintro σ H5 ⟨rfl, v2, rfl⟩
      rw [List.length_map, List.take_length]
      exact ⟨_, rfl, k⟩
end
end Ind

set_option Elab.async false
set_option linter.all false
set_option maxRecDepth 100000
set_option maxHeartbeats 4000000
set_option exponentiation.threshold 9000
namespace Ind
open PySem PySem.Spec PyProof.Rows L2
open Builtin.Int (intBits)
abbrev sPPr : Stmt := inClass (top 23) 22
def spPPr (C Z CP : Addr) : Sp := fun vs H Q E => ∃ (p : Addr) (as : List Q2) (k : Nat), vs = [.ref p] ∧ PolyAt C CP H p as ∧ PSz k as ∧ k ≤ 4000 ∧ (as = [] → E (.ref Z) none H) ∧
  (as ≠ [] → ∀ (H' : Hp) (t r u : Addr) (q : Q2) (ms : List Int), Same H H' → H' t = some (.tup [.ref r, .ref u]) → RatQ C H' r q → Lo q → intBits q.1 ≤ k → intBits q.2 ≤ k → H' u = some (.tup (ms.map V.int)) → ms.length = as.length → (∀ n ∈ ms, intBits n ≤ k) →
    gcdN ms = 1 → (∀ m, ms.getLast? = some m → 0 < m) → (∀ j, rowF as j = rv q * fr ms j) → Q (.ref t) H')
/-- the row divided by its content, with its last item's sign -/
theorem prim_ok {ns : List Int} {l s : Int} (hl : ns.getLast? = some l) (l0 : l ≠ 0) (hs : s = if l < 0 then -((gcdN ns : Nat) : Int) else ((gcdN ns : Nat) : Int)) :
    s ≠ 0 ∧ (∀ n ∈ ns, s * n.fdiv s = n) ∧ gcdN (ns.map fun n => n.fdiv s) = 1 ∧ ∀ m, (ns.map fun n => n.fdiv s).getLast? = some m → 0 < m := by
  have hmem : l ∈ ns := List.mem_of_getLast? hl
  have hgd := gcdN_dvd hmem
  have hg : 0 < gcdN ns := by
    rcases Nat.eq_zero_or_pos (gcdN ns) with e | e
    · rw [e] at hgd
      have := Nat.eq_zero_of_zero_dvd hgd
      omega
    · exact e
  have hsa : s.natAbs = gcdN ns := by
    rw [hs]
    split <;> omega
  have hs0 : s ≠ 0 := by omega
  have hex : ∀ n ∈ ns, s * n.fdiv s = n := fun n hn => by
    have hd : s ∣ n := Int.natAbs_dvd_natAbs.mp (by rw [hsa]; exact gcdN_dvd hn)
    obtain ⟨c, hc⟩ := hd
    rw [hc, Int.mul_comm s c, Int.mul_fdiv_cancel _ hs0, Int.mul_comm]
  refine ⟨hs0, hex, ?_, fun m hm => ?_⟩
  · have hall : ∀ n ∈ ns, gcdN ns * gcdN (ns.map fun n => n.fdiv s) ∣ n.natAbs := fun n hn => by
      have h1 := gcdN_dvd (List.mem_map.mpr ⟨n, hn, rfl⟩ : n.fdiv s ∈ ns.map fun n => n.fdiv s)
      have h2 : n.natAbs = gcdN ns * (n.fdiv s).natAbs := by
        rw [← hsa, ← Int.natAbs_mul, hex n hn]
      rw [h2]
      exact Nat.mul_dvd_mul_left _ h1
    have h3 := gcdN_great hall
    obtain ⟨c, hc⟩ := h3
    rw [Nat.mul_assoc] at hc
    have h4 : gcdN (ns.map fun n => n.fdiv s) * c = 1 := by
      have : gcdN ns * (gcdN (ns.map fun n => n.fdiv s) * c) = gcdN ns * 1 := by omega
      exact Nat.eq_of_mul_eq_mul_left hg this
    exact Nat.eq_one_of_mul_eq_one_right h4
  · rw [List.getLast?_map, hl] at hm
    have hm : l.fdiv s = m := by
      simpa using hm
    have he := hex l hmem
    rw [hm] at he
    by_cases c : 0 < m
    · exact c
    · exfalso
      have c : m ≤ 0 := by omega
      by_cases hneg : l < 0
      · rw [if_pos hneg] at hs
        have : 0 ≤ s * m := Int.mul_nonneg_of_nonpos_of_nonpos (by omega) c
        omega
      · rw [if_neg hneg] at hs
        have : s * m ≤ 0 := Int.mul_nonpos_of_nonneg_of_nonpos (by omega) c
        omega
section
variable {P : Program} {w : World} {K : PySem.W.Frag} {mg : Str → Option Value} {base : Heap} {C Z CP : Addr}
abbrev nPPr : List Str := ["self", "share", "n"]
theorem scPPr : FnScope nPPr ["self"] (defScope sPPr) := ⟨rfl, rfl, rfl, by decide +kernel, rfl, by decide +kernel, by decide +kernel⟩
theorem ok_ppr {f fI fIz fC : Addr} {fd fdI fdIz fdC : FuncData} {ds : List Value} (F : Fun K "primitive" "Poly.primitive" sPPr f fd) (R : TxR K mg C Z) (M : MkR P w K mg base C Z fI fdI ds) (TP : TxP K mg CP)
    (GI : FnOk P w K mg base CX0 1 fIz fdIz ["self"] (spPIz C CP)) (bI : Binds K fdIz ["self"] []) (mI : Meth K CP "is_zero" fIz)
    (GC : FnOk P w K mg base CX0 1 fC fdC ["row"] spCont) (kC : PySem.W.keepIn K (.ref fC) = true) (bC : Binds K fdC ["row"] []) (gC : mg "content" = some (.ref fC)) : FnOk P w K mg base (L2.CX P w) 43 f fd ["self"] (spPPr C Z CP) := by
  refine F.okX scPPr (fun vs H Q E h => ?_) (fun cdv A outer s H vs Q E hr h => ?_)
  · obtain ⟨p, as, k, rfl, _⟩ := h
    rfl
  · obtain ⟨p, as, k, rfl, hpo, za, hk, kz, res⟩ := h
    have hpo' := hpo
    obtain ⟨dp, rp, np, ep, _, hnp, ht⟩ := hpo'
    have h1 := hr.mono (show 1 ≤ 42 by decide)
    refine ⟨_, pss_cons (ps_if (pt_val (pe_meth0 (pv 0) TP.cl mI GI h1 bI .nil pass0)) (pss_one (ps_raise rfl (takes_of rfl rfl rfl rfl) (pmk_own PySem.F.excBase_ValueError R.xZ R.gZ R.kZ (raises_own R.bZ R.tZ) rfl))) pss_nil)
      (pss_cons (ps_set (i := 1) scPPr.nd rfl (Or.inr rfl) (pe_call GC h1 (by rfl) gC kC bC .nil pass0 (pa_cons (pe_fld (pv 0) rfl) pa_nil)))
      (C8.pss_cut (ps_if (pt_cmpR op_lt (pe_ix ix_tup (pe_fld (pv 0) rfl) (pe_un un_neg pe_int) fun _ _ => rfl) pe_int (nomark _)) (pss_one (ps_set (i := 1) scPPr.nd rfl (Or.inr rfl) (pe_un un_neg (pv 1)))) pss_nil)
      (pss_one (ps_ret (pe_tup (pa_cons (pe_make (E := E) M.cm M.fn hr (by rfl) R.mgC M.b2 .nil (passes_call (takes_of rfl rfl rfl rfl) fun _ _ _ _ h => h) (pa_cons (pv 1) (pa_cons (pe_fld (pv 0) rfl) pa_nil)))
        (pa_cons (pe_callTy call_tuple_of (by rfl) TP.tuple (by decide +kernel) (pa_cons (pe_lc (own := [("n", 2)]) (g := gName 2) (tt := tYes) (te := tOp (rI (fun _ j => j ≠ 0 ∧ intBits j ≤ 8000) fun i j => .int (i.fdiv j)) (tVar 2) (tVar 1)) rfl scPPr.nd (pi_tup (pe_fld (pv 0) rfl)) (blkOk_by (N := nPPr) (sc := defScope sPPr) (by decide +kernel))
          (fun _ _ _ _ _ => pg_name (i := 2) scPPr.nd rfl (Or.inl rfl)) (fun _ _ _ _ _ => pts_nil) (fun _ _ _ _ _ => pe_op op_fdivC (pv 2) (pv 1))) pa_nil)) pa_nil))))))), ?_⟩
    refine ⟨_, rfl, p, dp, _, rfl, ep, by rfl, p, as, rfl, hpo, _, rfl, ite2 (fun c => ?_) (fun c => ?_)⟩
    · have c := of_decide_eq_true c
      exact kz (List.length_eq_zero_iff.mp c)
    · have c : ¬ as.length = 0 := fun z => c (decide_eq_true z)
      have cne : as ≠ [] := fun e => c (by rw [e]; rfl)
      obtain ⟨ba, na⟩ := psz_lcm za
      have pa := lcmD_pos za.1
      have l1 := za.2.1
      obtain ⟨q, hq⟩ : ∃ q, as[as.length - 1]? = some q := ⟨_, List.getElem?_eq_getElem (by omega)⟩
      have hlast : as.getLast? = some q := by rw [List.getLast?_eq_getElem?]; exact hq
      have hln := parts_len2 ((lcmD as : Nat) : Int) as
      have hnf := num_fr za.1
      generalize partsOf ((lcmD as : Nat) : Int) as = ns at hnp na hln hnf
      obtain ⟨m, hm⟩ : ∃ m, ns[as.length - 1]? = some m := ⟨_, List.getElem?_eq_getElem (by omega)⟩
      have hat : atI (ns.map V.int) (-1) = some (.int m) := by
        have e := List.getElem?_eq_some_iff.mp hm
        have e2 : ns = ns.take (as.length - 1) ++ [m] := by
          have := List.take_append_drop (as.length - 1) ns
          rw [List.drop_eq_getElem_cons e.1, e.2, List.drop_of_length_le (by omega)] at this
          exact this.symm
        rw [e2, List.map_append]
        exact atI_last _ _
      have em : ns.getD (as.length - 1) 0 = m := by
        rw [List.getD_eq_getElem?_getD, hm]
        rfl
      have hB := cst_ne (show ((lcmD as : Nat) : Int) ≠ 0 by omega)
      have hm0 : m ≠ 0 := fun z => by
        have eq1 := hnf (as.length - 1)
        rw [em, z] at eq1
        have eq2 : rowF as (as.length - 1) = rv q := by
          unfold rowF
          rw [getD_q hq]
        rw [eq2] at eq1
        have hq0 : rv q ≠ 0 := rv_ne (za.1 q (List.mem_of_getElem? hq)) (ht q hlast)
        have : (0 : Rat) = (((lcmD as : Nat) : Int) : Rat) * rv q := eq1
        grind
      have hlm : ns.getLast? = some m := by rw [List.getLast?_eq_getElem?, hln]; exact hm
      refine ⟨_, rfl, p, CP, dp, _, _, rfl, ep, TP.cl, TP.nN, pf_num _ _ _, np, ns, rfl, hnp, ?_⟩
      refine ⟨fun σ' H' => H' = H ∧ ∃ sh : Int, σ' = [some (.ref p), some (.int sh), none] ∧ sh = if m < 0 then -((gcdN ns : Nat) : Int) else ((gcdN ns : Nat) : Int), ?_, ?_⟩
      · refine ⟨_, rfl, p, CP, dp, _, _, rfl, ep, TP.cl, TP.nN, pf_num _ _ _, _, rfl, np, _, _, .int m, rfl, rfl, SqT.of hnp, hat, _, _, rfl, rfl, _, rfl, ite2 (fun c => ?_) (fun c => ?_)⟩
        · exact ⟨_, rfl, _, rfl, rfl, _, rfl, by rw [if_pos (of_decide_eq_true c)]⟩
        · exact ⟨rfl, _, rfl, by rw [if_neg (fun z => c (decide_eq_true z))]⟩
      rintro σ' H' ⟨rfl, sh, rfl, hsh⟩
      obtain ⟨s0, hex, hg1, hpos⟩ := prim_ok hlm hm0 hsh
      have bsh : intBits sh ≤ k := by
        have hd := gcdN_dvd (List.mem_of_getElem? hm)
        have hle : gcdN ns ≤ m.natAbs := Nat.le_of_dvd (by omega) hd
        refine PySem.intBits_le_of_natAbs ?_ (na m (List.mem_of_getElem? hm))
        rw [hsh]
        split <;> omega
      have bB : ((lcmD as : Nat) : Int) ≠ 0 := by omega
      refine ⟨_, rfl, _, rfl, p, CP, dp, _, _, rfl, ep, TP.cl, TP.nB, pf_bel _ _ _, ?_⟩
      intro r dr nr ndr ner
      refine ⟨r, dr, _, _, rfl, upd_same, fun z => absurd z bB, fun _ H6 hr6 kk => ⟨rfl, ?_⟩⟩
      have s6 : Same _ H6 := Same.made nr ndr kk
      have hnp6 := s6 _ _ hnp
      refine ⟨_, rfl, p, CP, dp, _, _, rfl, s6 _ _ ep, TP.cl, TP.nN, pf_num _ _ _, np, rfl, ⟨_, SqT.of hnp6⟩, fun D hD => lc_tup (K := K) (a := np) (xs := ns.map V.int) (fun i H2 => ColI D H6 H2 ((ns.take i).map fun n => n.fdiv sh)) (ColI.start hD) (fun i H2 _ z => .of (z.s _ _ hnp6)) ?_ ?_⟩
      · rintro i x H2 hx z
        obtain ⟨n, hn, rfl⟩ := int_of hx
        have hi := (List.getElem?_eq_some_iff.mp hn).1
        refine ⟨rfl, _, rfl, _, rfl, _, _, rfl, rfl, ⟨s0, by omega⟩, ?_⟩
        rw [map_take_snoc hn]
        refine z.push hD same_rfl ?_
        rw [List.length_map, List.length_take]
        omega
      rintro H2 z
      rw [List.length_map, List.take_length] at z
      refine ⟨D, _, rfl, .inl ⟨SqL.of z.at_, fun u hu => ?_⟩⟩
      refine ⟨(by show 2 ≤ sizeLine; decide), fun t ht0 => ?_⟩
      have su := same_upd (o := .tup ((ns.map fun n => n.fdiv sh).map V.int)) hu
      have st := same_upd (o := .tup [V.ref r, V.ref u]) ht0
      have bq := bq_mk bsh ba
      refine res cne _ t r u (mkq sh ((lcmD as : Nat) : Int)) (ns.map fun n => n.fdiv sh) (((s6.trans z.s).trans su).trans st) upd_same ((RatQ.stb C).same ((z.s.trans su).trans st) hr6) (lo_mk bB) bq.1 bq.2 (st _ _ upd_same) (by rw [List.length_map]; exact hln) (fun v hv => ?_) hg1 hpos fun j => ?_
      · obtain ⟨n, hn, rfl⟩ := List.mem_map.mp hv
        exact PySem.intBits_fdiv_le (na n hn)
      · rw [rv_mk bB]
        have e1 : ((ns.getD j 0 : Int) : Rat) = (sh : Rat) * fr (ns.map fun n => n.fdiv sh) j := by
          unfold fr
          rw [getD_map (f := fun n => n.fdiv sh) (by exact Int.zero_fdiv _)]
          rw [← Rat.intCast_mul]
          congr 1
          by_cases c : j < ns.length
          · refine (hex _ ?_).symm
            rw [List.getD_eq_getElem?_getD, List.getElem?_eq_getElem c]
            exact List.getElem_mem c
          · have : ns.getD j 0 = 0 := by
              rw [List.getD_eq_getElem?_getD, List.getElem?_eq_none (by omega)]
              rfl
            rw [this, Int.zero_fdiv, Int.mul_zero]
        have e2 := hnf j
        rw [e1] at e2
        grind
end
end Ind

set_option Elab.async false
set_option linter.all false
set_option maxRecDepth 100000
set_option maxHeartbeats 4000000
set_option exponentiation.threshold 9000
namespace Ind
open PySem PySem.Spec PyProof.Rows L2
open Builtin.Int (intBits)
abbrev sRes : Stmt := top 27
abbrev sZr : Stmt := top 19
abbrev sOn : Stmt := top 20
/-! ### sizes along Euclid's steps -/
def ph (g : Nat) : Nat := if g = 0 then 4 else 2 * g + 3
def p5 : Nat → Nat
  | 0 => 32
  | 1 => 80
  | 2 => 200
  | 3 => 500
  | 4 => 1250
  | _ => 3125
theorem p5_step : ∀ m, m ≤ 5 → ∀ k, k < m → (2 * (m - k) + 3) * p5 k ≤ 2 * p5 m := by decide
theorem p5_low : ∀ m, m ≤ 5 → 1 ≤ m → 80 ≤ p5 m := by decide
theorem p5_low0 : ∀ m, m ≤ 5 → 32 ≤ p5 m := by decide
def Good (n m a b : Nat) : Prop := (n < m ∧ m ≤ 5 ∧ n ≤ 4 ∧ a ≤ 22 ∧ b ≤ 22) ∨ (m ≤ n ∧ n ≤ 5 ∧ 2 * (a + 2) ≤ b + 2 ∧ (b + 2) * (ph (n - m) * p5 m) ≤ 300000)
theorem ph_ge (g : Nat) : 4 ≤ ph g ∧ 2 * g + 3 ≤ ph g := by
  unfold ph
  split <;> omega
theorem good_big {n m a b : Nat} (h : Good n m a b) : a ≤ 4000 ∧ b ≤ 4000 := by
  rcases h with ⟨_, _, _, h1, h2⟩ | ⟨h1, h2, h3, h4⟩
  · omega
  · have e1 := p5_low0 m (by omega)
    have e2 := (ph_ge (n - m)).1
    have e3 : 4 * 32 ≤ ph (n - m) * p5 m := Nat.mul_le_mul e2 e1
    have e4 : (b + 2) * (4 * 32) ≤ (b + 2) * (ph (n - m) * p5 m) := Nat.mul_le_mul_left _ e3
    omega
theorem good_div {n m a b k : Nat} (h : Good n m a b) (hm : 1 ≤ m) (hk : k < m) (hkn : n < m → k = n) : gDv a b (n + 1 - m) ≤ 4000 ∧ ∃ b', gDr a b (n + 1 - m) ≤ b' ∧ Good m k b b' := by
  unfold gDv gDr
  rcases h with ⟨h0, h1, h2, h3, h4⟩ | ⟨h1, h2, h3, h4⟩
  · have ek := hkn h0
    subst ek
    rw [show k + 1 - m = 0 by omega]
    refine ⟨by omega, 46, by omega, .inr ⟨by omega, h1, by omega, ?_⟩⟩
    unfold ph
    rw [if_neg (by omega)]
    have : ∀ m, m ≤ 5 → ∀ k, k < m → k ≤ 4 → 48 * ((2 * (m - k) + 3) * p5 k) ≤ 300000 := by decide
    exact this m h1 k h0 h2
  · obtain ⟨g, eg⟩ : ∃ g, n - m = g := ⟨_, rfl⟩
    rw [eg] at h4
    rw [show n + 1 - m = g + 1 by omega]
    obtain ⟨e1, e2⟩ := ph_ge g
    have e3 := p5_low m (by omega) hm
    have e4 : ph g * 80 ≤ ph g * p5 m := Nat.mul_le_mul_left _ e3
    have e5 : (b + 2) * (ph g * 80) ≤ (b + 2) * (ph g * p5 m) := Nat.mul_le_mul_left _ e4
    have e6 : (b + 2) * ph g * 80 ≤ 300000 := by
      rw [Nat.mul_assoc]
      omega
    have e7 : (b + 2) * 4 ≤ (b + 2) * ph g := Nat.mul_le_mul_left _ e1
    have e8 : (b + 2) * (2 * g + 3) ≤ (b + 2) * ph g := Nat.mul_le_mul_left _ e2
    have e9 : (b + 2) * (2 * g + 3) = 2 * ((g + 1) * (b + 2)) + (b + 2) := by grind
    have e10 : (g + 1) * (b + 2) = (g + 1) * (b + 1) + (g + 1) := by grind
    refine ⟨by omega, ?_⟩
    -- the next size, in halves
    refine ⟨max (a + (g + 1) * (b + 1) + 1) (2 * (b + 2) - 2), Nat.le_max_left _ _, .inr ⟨by omega, by omega, by omega, ?_⟩⟩
    have f1 : 2 * (max (a + (g + 1) * (b + 1) + 1) (2 * (b + 2) - 2) + 2) ≤ (b + 2) * ph g := by
      rcases Nat.le_total (a + (g + 1) * (b + 1) + 1) (2 * (b + 2) - 2) with c | c
      · rw [Nat.max_eq_right c]
        omega
      · rw [Nat.max_eq_left c]
        omega
    generalize max (a + (g + 1) * (b + 1) + 1) (2 * (b + 2) - 2) + 2 = B at f1
    have f2 := p5_step m (by omega) k hk
    have f3 : ph (m - k) = 2 * (m - k) + 3 := by
      unfold ph
      rw [if_neg (by omega)]
    rw [f3]
    have f4 : 2 * B * ((2 * (m - k) + 3) * p5 k) ≤ (b + 2) * ph g * (2 * p5 m) := Nat.mul_le_mul f1 f2
    have f5 : (b + 2) * ph g * (2 * p5 m) = 2 * ((b + 2) * (ph g * p5 m)) := by grind
    have f6 : 2 * B * ((2 * (m - k) + 3) * p5 k) = 2 * (B * ((2 * (m - k) + 3) * p5 k)) := by grind
    omega
theorem sg_par (n : Nat) : sg n = if n % 2 = 1 then -1 else 1 := by
  induction n with
  | zero => rfl
  | succ n ih =>
    rw [sg_add, ih, show sg 1 = -1 by show (1 : Rat) * -1 = -1; grind]
    by_cases c : n % 2 = 1
    · rw [if_pos c, if_neg (by omega)]
      grind
    · rw [if_neg c, if_pos (by omega)]
      grind
/-- how long a polynomial's row is, read from the heap -/
def plen (H : Hp) (y : Addr) : Nat := match H y with
  | some (.ins _ _ fs) => (match fs.lookup ("row" : Str) with
    | some (.ref r) => (match H r with | some (.tup xs) => xs.length | _ => 0)
    | _ => 0)
  | _ => 0
theorem plen_of {C CP : Addr} {H : Hp} {y : Addr} {qs : List Q2} (h : PolyAt C CP H y qs) : plen H y = qs.length := by
  obtain ⟨dx, r, nb, e, ⟨ps, er, q⟩, _, _⟩ := h
  unfold plen
  rw [e]
  dsimp only
  rw [pf_row]
  dsimp only
  rw [er]
  dsimp only
  rw [List.length_map, q.length]
theorem dg_row {qs : List Q2} {n : Nat} (ht : Trim qs) (lo : ∀ q ∈ qs, Lo q) (h : qs.length = n + 1) : Dg (rowF qs) n := ⟨by rw [← h]; exact fs_row qs, trim_top ht lo h⟩
def spRes (C CP : Addr) : Sp := fun vs H Q _ => ∃ (p q : Addr) (as bs : List Q2), vs = [.ref p, .ref q] ∧ PolyAt C CP H p as ∧ PolyAt C CP H q bs ∧
  ((as = [] ∨ bs = []) → ∀ (H' : Hp) (t : Addr), Same H H' → RatQ C H' t q0 → Q (.ref t) H') ∧
  (as ≠ [] → bs ≠ [] → ∃ (n m : Nat) (v : Rat), as.length = n + 1 ∧ bs.length = m + 1 ∧ n ≤ 5 ∧ m ≤ 5 ∧ n + m ≤ 9 ∧ PSz 22 as ∧ PSz 22 bs ∧ RR n (rowF as) m (rowF bs) v ∧ ∀ (H' : Hp) (t : Addr) (u : Q2), Same H H' → RatQ C H' t u → Lo u → rv u = v → Q (.ref t) H')
end Ind

set_option Elab.async false
set_option linter.all false
set_option maxRecDepth 100000
set_option maxHeartbeats 4000000
set_option exponentiation.threshold 9000
namespace Ind
open PySem PySem.Spec PyProof.Rows L2
open Builtin.Int (intBits)
theorem good_start {n m : Nat} (hn : n ≤ 5) (hm : m ≤ 5) (hs : n + m ≤ 9) : ∃ b, 22 ≤ b ∧ Good n m 22 b := by
  by_cases c : n < m
  · exact ⟨22, Nat.le_refl _, .inl ⟨c, hm, by omega, by omega, by omega⟩⟩
  · have : ∀ n, n ≤ 5 → ∀ m, m ≤ 5 → m ≤ n → n + m ≤ 9 → 48 * (ph (n - m) * p5 m) ≤ 300000 := by decide
    exact ⟨46, by omega, .inr ⟨by omega, hn, by omega, this n hn m hm (by omega) hs⟩⟩
/-- own operations of Ratio, as operators use them -/
structure OwnQ (P : Program) (w : World) (K : PySem.W.Frag) (mg : Str → Option Value) (base : Heap) (C : Addr) (m : Str) (sp : Sp) (ps : List Str) (f : Addr) (fd : FuncData) : Prop where
  fn : FnOk P w K mg base CX0 43 f fd ps sp
  at_ : PySem.W.findIn K (.ref C) m = some (some (.ref f))
  isf : PySem.W.isFn K (.ref f) = true
  b : Binds K fd ps []
  first : PySem.W.selfFirst K C = true
structure TxRes (P : Program) (w : World) (K : PySem.W.Frag) (mg : Str → Option Value) (base : Heap) (C Z CP : Addr) (fZr fOn fIz fDg fLa fPr fMd fMl fNg fPw fP : Addr) (fdZr fdOn fdIz fdDg fdLa fdPr fdMd fdMl fdNg fdPw fdP : FuncData) : Prop where
  gZr : mg "zero" = some (.ref fZr)
  kZr : PySem.W.keepIn K (.ref fZr) = true
  bZr : Binds K fdZr [] []
  fnZr : FnOk P w K mg base CX0 43 fZr fdZr [] (spMk C 0 1)
  gOn : mg "one" = some (.ref fOn)
  kOn : PySem.W.keepIn K (.ref fOn) = true
  bOn : Binds K fdOn [] []
  fnOn : FnOk P w K mg base CX0 43 fOn fdOn [] (spMk C 1 1)
  mIz : Meth K CP "is_zero" fIz
  bIz : Binds K fdIz ["self"] []
  fnIz : FnOk P w K mg base CX0 1 fIz fdIz ["self"] (spPIz C CP)
  mDg : Meth K CP "degree" fDg
  bDg : Binds K fdDg ["self"] []
  fnDg : FnOk P w K mg base CX0 1 fDg fdDg ["self"] (spPDg C CP)
  mLa : Meth K CP "last" fLa
  bLa : Binds K fdLa ["self"] []
  fnLa : FnOk P w K mg base (L2.CX P w) 2 fLa fdLa ["self"] (spPLa C Z CP)
  mPr : Meth K CP "primitive" fPr
  bPr : Binds K fdPr ["self"] []
  fnPr : FnOk P w K mg base (L2.CX P w) 43 fPr fdPr ["self"] (spPPr C Z CP)
  oMd : OwnR P w K mg base CP "__mod__" (spMd C Z CP) fMd fdMd
  oMl : OwnQ P w K mg base C "__mul__" (spMulR C) ["self", "other"] fMl fdMl
  oNg : OwnQ P w K mg base C "__neg__" (spNegR C) ["self"] fNg fdNg
  mPw : Meth K C "power" fPw
  bPw : Binds K fdPw ["self", "k"] []
  fnPw : FnOk P w K mg base CX0 43 fPw fdPw ["self", "k"] (spPowR C)
  mp : MkP P w K mg base C CP fP fdP
theorem mix_ints {C : Addr} {H : Hp} : ∀ ms : List Int, Paired (MixV C H) (ms.map V.int) (ms.map fun n => ((n, 1) : Q2))
  | [] => .nil
  | n :: ms => .cons (.inr ⟨n, rfl, rfl⟩) (mix_ints ms)
theorem row_ints (ms : List Int) : rowF (ms.map fun n => ((n, 1) : Q2)) = fr ms := funext fun j => by
  unfold rowF fr
  rw [List.getD_eq_getElem?_getD, List.getElem?_map, List.getD_eq_getElem?_getD]
  cases e : ms[j]? with
  | none => exact rv_q0
  | some n =>
    show ((n : Int) : Rat) / ((1 : Int) : Rat) = ((n : Int) : Rat)
    grind
theorem psz_ints {ms : List Int} {k : Nat} (hk : 1 ≤ k) (hl : ms.length ≤ 100) (h : ∀ n ∈ ms, intBits n ≤ k) : PSz k (ms.map fun n => ((n, 1) : Q2)) := by
  refine ⟨fun q hq => ?_, by rw [List.length_map]; exact hl, 1, by decide, Nat.le_trans (show intBits 1 ≤ 1 by decide) hk, fun q hq => ?_⟩
  · obtain ⟨n, _, rfl⟩ := List.mem_map.mp hq
    exact ⟨show (0 : Int) < 1 by decide, by show Nat.gcd n.natAbs 1 = 1; exact Nat.gcd_one_right _⟩
  · obtain ⟨n, hn, rfl⟩ := List.mem_map.mp hq
    refine ⟨⟨1, rfl⟩, ?_⟩
    show intBits (n * (1 : Int).fdiv 1) ≤ k
    rw [show (1 : Int).fdiv 1 = 1 by decide, Int.mul_one]
    exact h n hn
theorem psz_bq {k : Nat} {qs : List Q2} (h : PSz k qs) {q : Q2} (hq : q ∈ qs) : Bq k q := by
  obtain ⟨M, m0, mb, hM⟩ := psz_low h
  exact (hM q hq).2.1
section
variable {P : Program} {w : World} {K : PySem.W.Frag} {mg : Str → Option Value} {base : Heap} {C Z CP : Addr}
theorem sum_le3 {I X Y : Nat} (h1 : X ≤ 20000) (h2 : Y ≤ 20000) : I + 10 + (X + 1) + (Y + 1) ≤ I + 50000 + 10 := by omega
theorem big1 {i : Nat} (h : i ≤ 5) : i * 50000 + 10 ≤ 30000000 := by omega
theorem big2 {X : Nat} (h : X ≤ 20000) : X + 1 ≤ 30000000 := by omega
theorem big3 {I X : Nat} (h1 : I + 10 ≤ 300000) (h : X ≤ 20000) : I + 10 + (X + 1) ≤ 30000000 := by omega
theorem big4 {i : Nat} (h : i ≤ 5) : i * 50000 + 10 ≤ 300000 := by omega
theorem good_le {n m a b : Nat} (h : Good n m a b) (hm : 1 ≤ m) : gDv a b (n + 1 - m) ≤ 4000 := by
  by_cases c : n < m
  · exact (good_div h hm (k := n) c fun _ => rfl).1
  · exact (good_div h hm (k := 0) (by omega) fun z => absurd z c).1
/-- behind Poly(l), whatever follows -/
theorem mkP_ok2 {l : Addr} {xs : List V} {qs : List Q2} {k : Nat} {H1 : Hp} {Q0 : VK} {E : XK} (hl : H1 l = some (.lst xs) ∨ H1 l = some (.tup xs)) (hP : Paired (MixV C H1) xs qs) (hs : PSz k qs) (hk : k ≤ 4000) {x dx : Addr} (nx : H1 x = none) (nd : H1 dx = none) (ne : dx ≠ x)
    (h : ∀ H' : Hp, PolyAt C CP H' x (trimQ qs) → Same H1 H' → Q0 .non H') : spPI C CP [.ref x, .ref l] (upd (upd H1 dx (.own x)) x (.ins CP dx [])) Q0 E := by
  have nx2 : (upd H1 dx (.own x)) x = none := by
    rw [upd_ne (Ne.symm ne)]
    exact nx
  have s : Same H1 (upd (upd H1 dx (.own x)) x (.ins CP dx [])) := (same_upd nd).trans (same_upd nx2)
  exact ⟨x, dx, l, xs, qs, k, rfl, upd_same, hl.imp (s _ _) (s _ _), Paired.imp (fun _ _ f => MixV.same s f) hP, hs, hk, fun H' r kk => h H' r (Same.made nx nd kk)⟩
theorem pos_trim {ms : List Int} (h : ∀ m, ms.getLast? = some m → 0 < m) : Trim (ms.map fun n => ((n, 1) : Q2)) := fun q hq => by
  rw [List.getLast?_map] at hq
  cases e : ms.getLast? with
  | none =>
    rw [e] at hq
    cases hq
  | some m =>
    rw [e] at hq
    cases hq
    have := h m e
    show m ≠ 0
    omega
abbrev nRes : List Str := ["p", "q", "found", "rest", "scale", "numbers"]
theorem scRes : FnScope nRes ["p", "q"] (defScope sRes) := ⟨rfl, rfl, rfl, by decide +kernel, rfl, by decide +kernel, by decide +kernel⟩
theorem ok_res {f fZr fOn fIz fDg fLa fPr fMd fMl fNg fPw fP : Addr} {fd fdZr fdOn fdIz fdDg fdLa fdPr fdMd fdMl fdNg fdPw fdP : FuncData} (F : Fun K "resultant" "resultant" sRes f fd) (R : TxR K mg C Z) (TP : TxP K mg CP)
    (L : TxRes P w K mg base C Z CP fZr fOn fIz fDg fLa fPr fMd fMl fNg fPw fP fdZr fdOn fdIz fdDg fdLa fdPr fdMd fdMl fdNg fdPw fdP) : FnOk P w K mg base CX0 48 f fd ["p", "q"] (spRes C CP) := by
  refine F.ok scRes (fun vs H Q E h => ?_) (fun cdv A outer s H vs Q E hr h => ?_)
  · obtain ⟨p, q, as, bs, rfl, _⟩ := h
    rfl
  · obtain ⟨p, q, as, bs, rfl, hpa, hpb, kz, res⟩ := h
    have h1 := hr.mono (show 1 ≤ 47 by decide)
    have h2 := hr.mono (show 2 ≤ 47 by decide)
    have h43 := hr.mono (show 43 ≤ 47 by decide)
    have h44 := hr.mono (show 44 ≤ 47 by decide)
    refine ⟨_, (pss_cons (ps_if (PW.pt (pw_or (pt_val (pe_meth0 (pv 0) TP.cl L.mIz L.fnIz h1 L.bIz .nil pass0)) (pw_or1 (pt_val (pe_meth0 (pv 1) TP.cl L.mIz L.fnIz h1 L.bIz .nil pass0))))) (pss_one (ps_ret (pe_call0 L.fnZr h43 (by rfl) L.gZr L.kZr L.bZr .nil pass0))) pss_nil)
      (pss_cons (ps_set (i := 2) scRes.nd rfl (Or.inl rfl) (pe_call0 L.fnOn h43 (by rfl) L.gOn L.kOn L.bOn .nil pass0))
      (pss_cons (ps_while PassesOwn.never (pt_cmpR op_gt (pe_meth0 (pv 1) TP.cl L.mDg L.fnDg h1 L.bDg .nil pass0) pe_int (nomark _)) (pss_cons (ps_set (i := 3) scRes.nd rfl (Or.inl rfl) (pe_op (op_binO (E := E0) (m := "__mod__") (by rfl) ⟨L.oMd.fn, L.oMd.at_, L.oMd.isf, L.oMd.b, passL, L.oMd.first⟩ hr) (pv 0) (pv 1)))
      (pss_cons (ps_if (pt_val (pe_meth0 (pv 3) TP.cl L.mIz L.fnIz h1 L.bIz .nil pass0)) (pss_one (ps_ret (pe_call0 L.fnZr h43 (by rfl) L.gZr L.kZr L.bZr .nil pass0))) pss_nil)
      (pss_cons (ps_asg (pe_meth0 (E := E0) (pv 3) TP.cl L.mPr L.fnPr h43 L.bPr .nil passL) (pg_tup (by rfl) (pgs_cons (pg_name (i := 4) scRes.nd rfl (Or.inl rfl)) (pgs_cons (pg_name (i := 5) scRes.nd rfl (Or.inl rfl)) pgs_nil))))
      (C8.pss_cut (ps_if (pt_cmpR op_eq (pe_op op_modN (pe_op op_mulB (pe_meth0 (pv 0) TP.cl L.mDg L.fnDg h1 L.bDg .nil pass0) (pe_meth0 (pv 1) TP.cl L.mDg L.fnDg h1 L.bDg .nil pass0)) pe_int) pe_int (nomark _)) (pss_one (ps_set (i := 2) scRes.nd rfl (Or.inl rfl) (pe_un (un_negO (E := E0) ⟨L.oNg.fn, L.oNg.at_, L.oNg.isf, L.oNg.b, pass0, L.oNg.first⟩ h43) (pv 2)))) pss_nil)
      (pss_cons (ps_set (i := 2) scRes.nd rfl (Or.inl rfl) (pe_op (op_binO (E := E0) (m := "__mul__") (by rfl) ⟨L.oMl.fn, L.oMl.at_, L.oMl.isf, L.oMl.b, pass0, L.oMl.first⟩ h43) (pe_op (op_binO (E := E0) (m := "__mul__") (by rfl) ⟨L.oMl.fn, L.oMl.at_, L.oMl.isf, L.oMl.b, pass0, L.oMl.first⟩ h43) (pv 2) (pe_meth (pe_meth0 (E := E0) (pv 1) TP.cl L.mLa L.fnLa h2 L.bLa .nil passL) R.cl L.mPw L.fnPw h43 L.bPw .nil pass0 (pa_cons (pe_op op_sub (pe_meth0 (pv 0) TP.cl L.mDg L.fnDg h1 L.bDg .nil pass0) (pe_meth0 (pv 3) TP.cl L.mDg L.fnDg h1 L.bDg .nil pass0)) pa_nil))) (pe_meth (pv 4) R.cl L.mPw L.fnPw h43 L.bPw .nil pass0 (pa_cons (pe_meth0 (pv 1) TP.cl L.mDg L.fnDg h1 L.bDg .nil pass0) pa_nil))))
      (pss_one (ps_par (i := 0) (j := 1) rfl scRes.nd rfl rfl (by decide) rfl rfl (pa_cons (pv 1) (pa_cons (pe_make L.mp.cm L.mp.fn h44 (by rfl) TP.mgP L.mp.b .nil pass0 (pa_cons (pv 5) pa_nil)) pa_nil)) rfl))))))))
      (pss_one (ps_ret (pe_op (op_binO (E := E0) (m := "__mul__") (by rfl) ⟨L.oMl.fn, L.oMl.at_, L.oMl.isf, L.oMl.b, pass0, L.oMl.first⟩ h43) (pv 2) (pe_meth (pe_meth0 (E := E0) (pv 1) TP.cl L.mLa L.fnLa h2 L.bLa .nil passL) R.cl L.mPw L.fnPw h43 L.bPw .nil pass0 (pa_cons (pe_meth0 (pv 0) TP.cl L.mDg L.fnDg h1 L.bDg .nil pass0) pa_nil)))))))), ?_⟩
    have hpa' := hpa
    have hpb' := hpb
    obtain ⟨dp, _, _, ep, _⟩ := hpa'
    obtain ⟨dq, _, _, eq, _⟩ := hpb'
    have zero_ret : ∀ {Ha : Hp}, Same H Ha → (as = [] ∨ bs = []) → spMk C 0 1 [] Ha Q E0 := fun {Ha} s c => ⟨rfl, fun t H' ht s' _ => kz c H' t (s.trans s') ht⟩
    refine ⟨_, rfl, p, dp, _, rfl, ep, by rfl, p, as, rfl, hpa, _, rfl, ?_⟩
    by_cases ca : as.length = 0
    · rw [show decide (as.length = 0) = true from decide_eq_true ca]
      exact iteT (iteT (zero_ret same_rfl (.inl (List.length_eq_zero_iff.mp ca))))
    rw [show decide (as.length = 0) = false from decide_eq_false ca]
    refine iteF ⟨_, rfl, q, dq, _, rfl, eq, by rfl, q, bs, rfl, hpb, _, rfl, ite2 (fun cb => ?_) (fun cb => ?_)⟩
    · exact zero_ret same_rfl (.inr (List.length_eq_zero_iff.mp (of_decide_eq_true cb)))
    have cb : ¬ bs.length = 0 := fun z => cb (decide_eq_true z)
    obtain ⟨n0, m0, v, hn0, hm0, hn5, hm5, hnm, za, zb, hv, res⟩ := res (fun e => ca (by rw [e]; rfl)) (fun e => cb (by rw [e]; rfl))
    refine ⟨rfl, fun o H1 ho s1 _ => ?_⟩
    obtain ⟨b0, hb0, g0⟩ := good_start hn5 hm5 hnm
    have l1 : Lo ((1 : Int), (1 : Int)) := ⟨by decide, by decide⟩
    refine while_by (fun σ H5 => ∃ (x y z : Addr) (v3 v4 v5 : Option V) (cs ds : List Q2) (fq : Q2) (n m a b i : Nat) (w : Rat), σ = [some (.ref x), some (.ref y), some (.ref z), v3, v4, v5] ∧ Same H H5 ∧ PolyAt C CP H5 x cs ∧ PolyAt C CP H5 y ds ∧ RatQ C H5 z fq ∧ Lo fq ∧ Bq (i * 50000 + 10) fq ∧ i + m ≤ 5 ∧
        cs.length = n + 1 ∧ ds.length = m + 1 ∧ n ≤ 5 ∧ PSz a cs ∧ PSz b ds ∧ Good n m a b ∧ RR n (rowF cs) m (rowF ds) w ∧ rv fq * w = v)
      (fun σ H5 => match σ[1]? with | some (some (V.ref y)) => plen H5 y | _ => 0)
      ⟨p, q, o, none, none, none, as, bs, (1, 1), n0, m0, 22, b0, 0, v, rfl, s1, (PolyAt.stb C CP).same s1 hpa, (PolyAt.stb C CP).same s1 hpb, ho, l1, ⟨by decide, by decide⟩, by omega, hn0, hm0, hn5, za, psz_mono zb hb0, g0, hv, by rw [rv_q1]; grind⟩ ?_ ?_
    · rintro σ H5 ⟨x, y, z, v3, v4, v5, cs, ds, fq, n, m, a, b, i, w, rfl, s5, hx, hy, hz, lf, bf, him, hcl, hdl, hn, zc, zd, gd, hw, hfw⟩
      have hy' := hy
      have hx' := hx
      obtain ⟨dx, _, _, ex, _⟩ := hx'
      obtain ⟨dy, _, _, ey, _⟩ := hy'
      obtain ⟨ga, gb⟩ := good_big gd
      have dgc : Dg (rowF cs) n := hw.dg.1
      have dgd : Dg (rowF ds) m := hw.dg.2
      have dsn : ds ≠ [] := fun e => by rw [e] at hdl; cases hdl
      refine ⟨_, rfl, y, dy, _, rfl, ey, by rfl, y, ds, rfl, hy, _, _, rfl, rfl, _, rfl, ?_⟩
      rcases Nat.eq_zero_or_pos m with cm | cm
      · -- the end
        subst cm
        rw [show decide ((0 : Int) < ((ds.length : Int) - 1)) = false from decide_eq_false (by omega)]
        refine iteF ?_
        obtain ⟨ql, hql, hqd, hqm⟩ := at_d (qs := ds) (j := 0) (by omega)
        have elast : ds.getLast? = some ql := by rw [List.getLast?_eq_getElem?, hdl]; exact hql
        have lql := zd.1 ql hqm
        have bql := psz_bq zd hqm
        refine ⟨_, rfl, _, rfl, y, dy, _, rfl, ey, by rfl, y, ds, rfl, hy, fun e => absurd e dsn, fun r q1 hq1 hr1 => ?_⟩
        have eq1 : q1 = ql := by
          rw [elast] at hq1
          exact (Option.some.inj hq1).symm
        subst eq1
        obtain ⟨dr, er⟩ := id hr1
        refine ⟨r, dr, _, rfl, er, rf_no _ _ (by decide +kernel) (by decide +kernel), _, rfl, x, dx, _, rfl, ex, by rfl, x, cs, rfl, hx, r, q1, n, congrArg (fun z => [V.ref r, V.int z]) (by rw [hcl]; omega), by omega, hr1, lql, bql.mono (by omega), fun H6 t s6 ht => ?_⟩
        obtain ⟨dz, ez⟩ := hz.same s6
        obtain ⟨dt, et⟩ := id ht
        refine ⟨z, dz, _, t, dt, _, rfl, rfl, ez, et, z, t, fq, powq q1 n, rfl, hz.same s6, ht, lf, lo_powq lql n, bf.bg (by omega), (bq_powq bql n).bg (by have := Nat.mul_le_mul_left b hn; omega), fun H7 u s7 hu => ?_⟩
        have ew := hw.uniq (RR.const dgc dgd)
        refine res H7 u _ ((s5.trans s6).trans s7) hu (lo_mul lf.ne (lo_powq lql n).ne) ?_
        rw [rv_mul lf.ne (lo_powq lql n).ne, rv_powq lql, ← hfw, ew, show rowF ds 0 = rv q1 by unfold rowF; rw [hqd]]
      · rw [show decide ((0 : Int) < ((ds.length : Int) - 1)) = true from decide_eq_true (by omega)]
        refine iteT ?_
        have eL : cs.length + 1 - ds.length = n + 1 - m := by omega
        refine ⟨_, rfl, _, rfl, x, dx, _, y, dy, _, rfl, rfl, ex, ey, x, y, cs, ds, rfl, hx, hy, fun e => absurd e dsn, fun _ => ⟨a, b, ⟨zc, zd, by omega, by omega, by rw [eL]; exact good_le gd cm⟩, fun H6 u qs rs s6 hu ok => ?_⟩⟩
        have hr0 := ok.r
        rw [eL] at hr0
        have lr := ok.lr
        have hu' := hu
        obtain ⟨du, _, _, eu, _⟩ := hu'
        refine ⟨_, rfl, u, du, _, rfl, eu, by rfl, u, rs, rfl, hu, _, rfl, ite2 (fun c2 => ?_) (fun c2 => ?_)⟩
        · -- nothing is left
          have r0 : rs = [] := List.length_eq_zero_iff.mp (of_decide_eq_true c2)
          subst r0
          obtain ⟨m', rfl⟩ : ∃ m', m = m' + 1 := ⟨m - 1, by omega⟩
          have w0 := hw.uniq (RR.zero dgc dgd (fs_row qs) fun j => by
            rw [ok.id j, rowF_nil]
            grind)
          refine ⟨rfl, fun t H' ht s' _ => res H' t (0, 1) ((s5.trans s6).trans s') ht lo_q0 ?_⟩
          rw [rv_q0, ← hfw, w0]
          grind
        have c2 : ¬ rs.length = 0 := fun e => c2 (decide_eq_true e)
        obtain ⟨k, hk⟩ : ∃ k, rs.length = k + 1 := ⟨rs.length - 1, by omega⟩
        have rne : rs ≠ [] := fun e => c2 (by rw [e]; rfl)
        have dgr : Dg (rowF rs) k := dg_row ok.tr ok.r.1 hk
        obtain ⟨m', rfl⟩ : ∃ m', m = m' + 1 := ⟨m - 1, by omega⟩
        have hkm : k < m' + 1 := by omega
        have hkn0 : n < m' + 1 → k = n := fun c => by
          have := (div_uniq (s' := fun _ => 0) (r' := rowF cs) dgd.s dgd.t (fs_row qs) (fun _ _ => rfl) (fun j hj => dgr.s j (by omega)) (fun j hj => dgc.s j (by omega)) fun j => by
            rw [← ok.id j, cv_zl]
            grind).2
          have e : rowF rs = rowF cs := funext this
          rw [e] at dgr
          exact dg_uniq dgr dgc
        have hkn : k ≤ n := dg_kn dgc dgd (fs_row qs) (by omega) dgr ok.id
        obtain ⟨b2, hb2, gd2⟩ := (good_div gd (by omega) hkm hkn0).2
        obtain ⟨_, gb2⟩ := good_big gd2
        refine ⟨_, rfl, u, du, _, rfl, eu, by rfl, u, rs, gDr a b (n + 1 - (m' + 1)), rfl, hu, hr0, by omega, fun e => absurd e rne, fun _ H7 t r nu q ms s7 ht hr7 lq bq1 bq2 hnu msl msb _ mpos hrow => ?_⟩
        have s57 := s6.trans s7
        refine ⟨t, _, rfl, SqT.of ht, rfl, _, _, rfl, _, _, rfl, rfl, ?_⟩
        have hx7 := (PolyAt.stb C CP).same s57 hx
        have hy7 := (PolyAt.stb C CP).same s57 hy
        have hu7 := (PolyAt.stb C CP).same s7 hu
        have hz7 := hz.same s57
        have ex7 := s57 _ _ ex
        have ey7 := s57 _ _ ey
        have eu7 := s7 _ _ eu
        refine ⟨fun σ' H8 => ∃ (z1 : Addr) (fz : Q2), σ' = [some (.ref x), some (.ref y), some (.ref z1), some (.ref u), some (.ref r), some (.ref nu)] ∧ Same H7 H8 ∧ RatQ C H8 z1 fz ∧ Lo fz ∧ Bq (i * 50000 + 10) fz ∧ rv fz = sg (n * (m' + 1)) * rv fq, ?_, ?_⟩
        · refine ⟨_, rfl, x, dx, _, rfl, ex7, by rfl, x, cs, rfl, hx7, _, rfl, y, dy, _, rfl, ey7, by rfl, y, ds, rfl, hy7, _, _, rfl, rfl, ?_, _, _, rfl, rfl, (by show (2 : Int) ≠ 0; decide), rfl, _, rfl, ?_⟩
          · have h1 : intBits ((cs.length : Int) - 1) ≤ 10 := PySem.intBits_le_iff.mpr (by omega)
            have h2 : intBits ((ds.length : Int) - 1) ≤ 10 := PySem.intBits_le_iff.mpr (by omega)
            show intBits ((cs.length : Int) - 1) + intBits ((ds.length : Int) - 1) ≤ 134217728
            omega
          have e1 : ((cs.length : Int) - 1) * ((ds.length : Int) - 1) = ((n * (m' + 1) : Nat) : Int) := by
            rw [show (cs.length : Int) - 1 = (n : Int) by omega, show (ds.length : Int) - 1 = ((m' + 1 : Nat) : Int) by omega]
            exact (Int.natCast_mul _ _).symm
          rw [sg_par]
          have e2 : (((n * (m' + 1) : Nat)) : Int).fmod 2 = ((n * (m' + 1) % 2 : Nat) : Int) := by
            rw [Int.fmod_eq_emod_of_nonneg _ (by decide)]
            rfl
          dsimp only
          by_cases c3 : n * (m' + 1) % 2 = 1
          · rw [if_pos c3, show decide (V.int (Int.fmod (((cs.length : Int) - 1) * ((ds.length : Int) - 1)) 2) = V.int 1) = true from decide_eq_true (by rw [e1, e2, c3]; rfl)]
            obtain ⟨dz, ez⟩ := id hz7
            refine iteT ⟨_, rfl, z, dz, _, rfl, ez, z, fq, rfl, hz7, lf, fun H8 t8 s8 ht8 => ⟨t8, negq fq, rfl, s8, ht8, lo_mk lf.ne, bq_mk (PySem.intBits_neg_le bf.1) bf.2, ?_⟩⟩
            rw [rv_neg lf]
            grind
          · rw [if_neg c3, show decide (V.int (Int.fmod (((cs.length : Int) - 1) * ((ds.length : Int) - 1)) 2) = V.int 1) = false from decide_eq_false (fun e => c3 (by rw [e1, e2] at e; have := V.int.inj e; omega))]
            exact iteF ⟨z, fq, rfl, same_rfl, hz7, lf, bf, by grind⟩
        rintro σ' H8 ⟨z1, fz, rfl, s8, hz8, lfz, bfz, vfz⟩
        have s58 := s57.trans s8
        have hx8 := (PolyAt.stb C CP).same s8 hx7
        have hy8 := (PolyAt.stb C CP).same s8 hy7
        have hu8 := (PolyAt.stb C CP).same s8 hu7
        have ex8 := s8 _ _ ex7
        have ey8 := s8 _ _ ey7
        have eu8 := s8 _ _ eu7
        obtain ⟨ql, hql, hqd, hqm⟩ := at_d (qs := ds) (j := m' + 1) (by omega)
        have elast : ds.getLast? = some ql := by rw [List.getLast?_eq_getElem?, hdl]; exact hql
        have lql := zd.1 ql hqm
        have bql := psz_bq zd hqm
        refine ⟨_, rfl, _, rfl, y, dy, _, rfl, ey8, by rfl, y, ds, rfl, hy8, fun e => absurd e dsn, fun r1 q1 hq1 hr1 => ?_⟩
        have eq1 : q1 = ql := by
          rw [elast] at hq1
          exact (Option.some.inj hq1).symm
        subst eq1
        obtain ⟨dr, er⟩ := id hr1
        refine ⟨r1, dr, _, rfl, er, rf_no _ _ (by decide +kernel) (by decide +kernel), _, rfl, x, dx, _, rfl, ex8, by rfl, x, cs, rfl, hx8, _, rfl, u, du, _, rfl, eu8, by rfl, u, rs, rfl, hu8, _, _, rfl, rfl, r1, q1, n - k, congrArg (fun z => [V.ref r1, V.int z]) (by rw [hcl, hk]; omega), by omega, hr1, lql, bql.mono (by omega), fun H9 t9 s9 ht9 => ?_⟩
        obtain ⟨dz, ez⟩ := hz8.same s9
        obtain ⟨dt, et⟩ := id ht9
        have bn : b * (n - k) ≤ 20000 := Nat.mul_le_mul gb (show n - k ≤ 5 by omega)
        have i5 : i ≤ 5 := by omega
        have lp1 := lo_powq lql (n - k)
        have bp1 := bq_powq bql (n - k)
        refine ⟨z1, dz, _, t9, dt, _, rfl, rfl, ez, et, z1, t9, fz, _, rfl, hz8.same s9, ht9, lfz, lp1, bfz.bg (big1 i5), bp1.bg (big2 bn), fun H10 t10 s10 ht10 => ?_⟩
        have s810 := s9.trans s10
        have lm1 := lo_mul lfz.ne lp1.ne
        have bm1 := bq_mul bfz bp1
        have hr10 := hr7.same (s8.trans s810)
        obtain ⟨drs, ers⟩ := id hr10
        have bq0 : Bq 4000 q := ⟨by omega, by omega⟩
        have bm : 4000 * (m' + 1) ≤ 20000 := Nat.mul_le_mul_left 4000 (show m' + 1 ≤ 5 by omega)
        refine ⟨_, rfl, r, drs, _, rfl, ers, rf_no _ _ (by decide +kernel) (by decide +kernel), _, rfl, y, dy, _, rfl, s810 _ _ ey8, by rfl, y, ds, rfl, (PolyAt.stb C CP).same s810 hy8, r, q, m' + 1, congrArg (fun z => [V.ref r, V.int z]) (by rw [hdl]; omega), by omega, hr10, lq, bq0.mono (by omega), fun H11 t11 s11 ht11 => ?_⟩
        obtain ⟨d10, e10⟩ := ht10.same s11
        obtain ⟨d11, e11⟩ := id ht11
        have lp2 := lo_powq lq (m' + 1)
        have bp2 := bq_powq bq0 (m' + 1)
        refine ⟨t10, d10, _, t11, d11, _, rfl, rfl, e10, e11, t10, t11, _, _, rfl, ht10.same s11, ht11, lm1, lp2, bm1.bg (big3 (big4 i5) bn), bp2.bg (big2 bm), fun H12 t12 s12 ht12 => ?_⟩
        have lm2 := lo_mul lm1.ne lp2.ne
        have bm2 := bq_mul bm1 bp2
        have s812 := (s810.trans s11).trans s12
        have s712 := s8.trans s812
        refine ⟨_, rfl, _, rfl, ?_⟩
        intro P0 dP nP ndP neP
        have pz : PSz b2 (ms.map fun n => ((n, 1) : Q2)) := psz_ints (by have := gd2; have := (Nat.le_of_lt hkm); unfold gDr at hb2; omega) (by omega) fun n hn => Nat.le_trans (msb n hn) (by omega)
        refine mkP_ok2 (qs := ms.map fun n => ((n, 1) : Q2)) (.inr (s712 _ _ hnu)) (mix_ints ms) pz gb2 nP ndP neP fun H13 hP s13 => ⟨rfl, _, _, rfl, ?_⟩
        rw [trim_self (pos_trim mpos)] at hP
        have s813 := s812.trans s13
        have hy13 := (PolyAt.stb C CP).same s813 hy8
        have sc0 : rv q ≠ 0 := fun e => by
          have := dgr.t
          rw [hrow k, e] at this
          exact this (by grind)
        have lenP : (ms.map fun n => ((n, 1) : Q2)).length = k + 1 := by rw [List.length_map, msl, hk]
        have dgP : Dg (rowF (ms.map fun n => ((n, 1) : Q2))) k := dg_row hP.trim pz.1 lenP
        obtain ⟨w1, hw1⟩ := RR.ex k (m' + 1) (rowF ds) _ dgd dgP
        have hsc := (RR.sc sc0 hw1).1
        rw [show (fun j => rv q * rowF (ms.map fun n => ((n, 1) : Q2)) j) = rowF rs from funext fun j => by rw [row_ints, hrow j]] at hsc
        have ew := hw.uniq (RR.step dgc dgd (fs_row qs) (by omega) ok.id hsc)
        refine ⟨⟨y, P0, t12, _, _, _, ds, _, _, m' + 1, k, b, b2, i + 1, w1, rfl, (s5.trans s57).trans (s8.trans s813), hy13, hP, ht12.same s13, lm2, bm2.mono (by rw [Nat.add_mul i 1, Nat.one_mul]; exact sum_le3 bn bm), by omega, hdl, lenP, by omega, zd, pz, gd2, hw1, ?_⟩, ?_⟩
        · rw [rv_mul lm1.ne lp2.ne, rv_mul lfz.ne lp1.ne, rv_powq lql, rv_powq lq, vfz, ← hfw, ew, show rowF ds (m' + 1) = rv q1 by unfold rowF; rw [hqd]]
          grind
        · show plen H13 P0 < plen H5 y
          rw [plen_of hP, plen_of hy, lenP, hdl]
          omega
    · rintro σ H' R1 R2 hR ⟨v0, e0, a1, dx, fs, e1, e2, e3, p1, as1, e4, e5, i1, j1, e6, e7, c1, e8, h⟩
      exact ⟨v0, e0, a1, dx, fs, e1, e2, e3, p1, as1, e4, e5, i1, j1, e6, e7, c1, e8, hR _ _ h⟩
end
end Ind

set_option Elab.async false
set_option linter.all false
set_option maxRecDepth 100000
set_option maxHeartbeats 4000000
namespace Ind
open PySem PySem.Spec PyProof.Rows L2
open Builtin.Int (intBits)
section
variable {P : Program} {w : World} {K : PySem.W.Frag} {mg : Str → Option Value} {base : Heap} {C Z : Addr}
theorem scOn : FnScope [] [] (defScope sOn) := ⟨rfl, rfl, rfl, by decide +kernel, rfl, by decide +kernel, by decide +kernel⟩
theorem ok_on {f fI : Addr} {fd fdI : FuncData} {ds : List Value} (F : Fun K "one" "one" sOn f fd) (R : TxR K mg C Z) (M : MkR P w K mg base C Z fI fdI ds) : FnOk P w K mg base CX0 43 f fd [] (spMk C 1 1) := by
  refine F.ok scOn (fun vs H Q E h => ?_) (fun cdv A outer s H vs Q E hr h => ?_)
  · obtain ⟨rfl, _⟩ := h
    rfl
  · obtain ⟨rfl, k⟩ := h
    refine ⟨_, pss_one (ps_ret (pe_make M.cm M.fn hr (by rfl) R.mgC M.b1 M.v1 passL (pa_cons pe_int pa_nil))), ?_⟩
    have e := n_one 1
    refine mk_ok (n := 1) (d := 1) (by decide) fun p H' r s n => k p H' ?_ s n
    rw [e.1, e.2] at r
    exact r
end
end Ind

set_option Elab.async false
set_option linter.all false
namespace Ind
/-! ### values; a polynomial by its values at 0, 1, .. -/
theorem val_ex {f : Fr} {N : Nat} (h : Fs f N) (c : Rat) : ∃ y, Val f c y := by
  obtain ⟨s, r, M, hs, hr, e⟩ := div_ex (lx_dg c) N f h
  refine ⟨r 0, s, M, hs, fun j => ?_⟩
  rw [e j]
  by_cases z : j = 0
  · rw [if_pos z, z]
  · rw [if_neg z, hr j (by omega)]
theorem val_add {f g : Fr} {c y z : Rat} (h1 : Val f c y) (h2 : Val g c z) : Val (fun j => f j + g j) c (y + z) := by
  obtain ⟨s, N, hs, e⟩ := h1
  obtain ⟨t, M, ht, q⟩ := h2
  refine ⟨fun j => s j + t j, max N M, fun j hj => ?_, fun j => ?_⟩
  · show s j + t j = 0
    rw [hs j (by omega), ht j (by omega)]
    grind
  · show f j + g j = _
    rw [cv_addl, e j, q j]
    split <;> grind
theorem val_sc {f : Fr} {c y : Rat} (a : Rat) (h : Val f c y) : Val (fun j => a * f j) c (a * y) := by
  obtain ⟨s, N, hs, e⟩ := h
  refine ⟨fun j => a * s j, N, fun j hj => ?_, fun j => ?_⟩
  · show a * s j = 0
    rw [hs j hj]
    grind
  · show a * f j = _
    rw [cv_sc', e j]
    split <;> grind
theorem val_cst (a c : Rat) : Val (fun j => if j = 0 then a else 0) c a := ⟨fun _ => 0, 0, fun _ _ => rfl, fun j => by
  rw [cv_zl]
  grind⟩
theorem d0_one (a : Rat) (f : Fr) (j : Nat) : cv (fun j => if j = 0 then a else 0) f j = a * f j := by
  rw [cv_delta0, if_pos (Nat.zero_le _), Nat.sub_zero]
theorem val_mul {f g : Fr} {c y z : Rat} {N : Nat} (hg : Fs g N) (h1 : Val f c y) (h2 : Val g c z) : Val (cv f g) c (y * z) := by
  obtain ⟨s, A, hs, e⟩ := h1
  obtain ⟨t, B, ht, q⟩ := id h2
  refine ⟨fun j => cv s g j + y * t j, max (A + N) B, fun j hj => ?_, fun j => ?_⟩
  · show cv s g j + y * t j = 0
    rw [cv_out hs hg j (by omega), ht j (by omega)]
    grind
  · rw [show f = fun j => cv s (Lx c) j + (fun j => if j = 0 then y else 0) j from funext e, cv_addl, d0_one, q j, cv_addl (cv s g) (fun j => y * t j), cv_sc', cv_assoc', cv_comm' (Lx c) g, ← cv_assoc']
    split <;> grind
theorem fs_of_dg {f : Fr} {n N : Nat} (h : Dg f n) (hf : Fs f N) : n < N := by
  apply Nat.lt_of_not_le
  intro z
  exact h.t (hf n z)
theorem root_uniq : ∀ (N : Nat) (f : Fr), Fs f N → (∀ n : Nat, n < N → Val f (((n : Nat) : Int) : Rat) 0) → ∀ j, f j = 0
  | 0, f, h, _ => fun j => h j (Nat.zero_le _)
  | N + 1, f, h, hv => by
    obtain ⟨s, M, hs, e⟩ := hv N (by omega)
    have e : ∀ j, f j = cv s (Lx (((N : Nat) : Int) : Rat)) j := fun j => by
      rw [e j]
      split <;> grind
    have hsN : Fs s N := by
      rcases dg_or hs with z | ⟨k, _, dk⟩
      · exact fun j _ => z j
      · have := fs_of_dg (dg_cv dk (lx_dg (((N : Nat) : Int) : Rat))) (by rw [← funext e]; exact h)
        exact dk.s.mono (by omega)
    have h0 := root_uniq N s hsN fun n hn => by
      obtain ⟨y, hy⟩ := val_ex hsN (((n : Nat) : Int) : Rat)
      have hl : Val (Lx (((N : Nat) : Int) : Rat)) (((n : Nat) : Int) : Rat) ((((n : Nat) : Int) : Rat) - (((N : Nat) : Int) : Rat)) := ⟨fun j => if j = 0 then 1 else 0, 1, fun j hj => if_neg (by omega), fun j => by
        rw [d0_one]
        unfold Lx
        by_cases c : j = 0
        · rw [if_pos c, if_pos c, if_pos c]
          grind
        · rw [if_neg c, if_neg c, if_neg c]
          grind⟩
      have h2 := val_mul (lx_fs _) hy hl
      rw [← funext e] at h2
      have h3 := val_uniq h2 (hv n (by omega))
      have hne : (((n : Nat) : Int) : Rat) - (((N : Nat) : Int) : Rat) ≠ 0 := fun z => by
        have : (((n : Nat) : Int) : Rat) = (((N : Nat) : Int) : Rat) := by grind
        have : ((n : Nat) : Int) = ((N : Nat) : Int) := by exact_mod_cast this
        omega
      rcases Rat.mul_eq_zero.mp h3 with z | z
      · rw [z] at hy
        exact hy
      · exact absurd z hne
    intro j
    rw [e j, show s = fun _ => 0 from funext h0, cv_zl]
/-! ### Newton's form -/
def bin (x : Rat) : Nat → Rat
  | 0 => 1
  | j + 1 => bin x j * ((x - (((j : Nat) : Int) : Rat)) / (((j + 1 : Nat) : Int) : Rat))
theorem cast_s (j : Nat) : (((j + 1 : Nat) : Int) : Rat) = (((j : Nat) : Int) : Rat) + 1 := by
  rw [show ((j + 1 : Nat) : Int) = (j : Int) + 1 by omega, Rat.intCast_add]
  rfl
theorem cast_sn (j : Nat) : (((j + 1 : Nat) : Int) : Rat) ≠ 0 := fun z => by
  have : ((j + 1 : Nat) : Int) = 0 := by exact_mod_cast z
  omega
theorem pascal (x : Rat) : ∀ j, bin (x + 1) (j + 1) = bin x (j + 1) + bin x j
  | 0 => by
    show (1 : Rat) * _ = 1 * _ + 1
    have := cast_sn 0
    have e := cast_s 0
    have e0 : (((0 : Nat) : Int) : Rat) = 0 := rfl
    rw [e, e0]
    grind
  | j + 1 => by
    have ih := pascal x j
    show bin (x + 1) (j + 1) * ((x + 1 - (((j + 1 : Nat) : Int) : Rat)) / (((j + 1 + 1 : Nat) : Int) : Rat)) = bin x (j + 1) * ((x - (((j + 1 : Nat) : Int) : Rat)) / (((j + 1 + 1 : Nat) : Int) : Rat)) + bin x (j + 1)
    rw [ih]
    have h1 := cast_sn j
    have h2 := cast_sn (j + 1)
    have e1 := cast_s j
    have e2 := cast_s (j + 1)
    have hb : bin x (j + 1) * (((j + 1 : Nat) : Int) : Rat) = bin x j * (x - (((j : Nat) : Int) : Rat)) := by
      show bin x j * ((x - (((j : Nat) : Int) : Rat)) / (((j + 1 : Nat) : Int) : Rat)) * _ = _
      grind
    rw [e2] at h2 ⊢
    generalize (((j + 1 : Nat) : Int) : Rat) = b at *
    generalize (((j : Nat) : Int) : Rat) = a at *
    generalize bin x (j + 1) = B at *
    generalize bin x j = A at *
    grind
/-- the differences of a list of values -/
def dif (a : Nat → Rat) : Nat → Rat := fun n => a (n + 1) - a n
def difN (a : Nat → Rat) : Nat → Nat → Rat
  | 0 => a
  | k + 1 => dif (difN a k)
theorem difN_s (a : Nat → Rat) : ∀ k, difN (dif a) k = difN a (k + 1)
  | 0 => rfl
  | k + 1 => by
    show dif (difN (dif a) k) = dif (difN a (k + 1))
    rw [difN_s a k]
/-- the sum of the first m parts at x -/
def nwt (a : Nat → Rat) (x : Rat) (m : Nat) : Rat := sumTo m fun j => difN a j 0 * bin x j
theorem bin_z : ∀ j, bin 0 (j + 1) = 0
  | 0 => by
    show (1 : Rat) * _ = 0
    have e0 : (((0 : Nat) : Int) : Rat) = 0 := rfl
    rw [e0]
    grind
  | j + 1 => by
    show bin 0 (j + 1) * _ = 0
    rw [bin_z j]
    grind
theorem bin_out : ∀ n j : Nat, n < j → bin (((n : Nat) : Int) : Rat) j = 0
  | 0, j + 1, _ => bin_z j
  | n + 1, j + 1, h => by
    rw [cast_s, pascal, bin_out n (j + 1) (by omega), bin_out n j (by omega)]
    grind
theorem nwt_at : ∀ (n m : Nat) (a : Nat → Rat), n < m → nwt a (((n : Nat) : Int) : Rat) m = a n
  | 0, m, a, h => by
    unfold nwt
    rw [sumTo_only (n := 0) h fun t _ ht => by
      obtain ⟨k, rfl⟩ : ∃ k, t = k + 1 := ⟨t - 1, by omega⟩
      show difN a (k + 1) 0 * bin 0 (k + 1) = 0
      rw [bin_z]
      grind]
    show a 0 * 1 = a 0
    grind
  | n + 1, m, a, h => by
    obtain ⟨m, rfl⟩ : ∃ k, m = k + 1 := ⟨m - 1, by omega⟩
    have h1 := nwt_at n m a (by omega)
    have h2 := nwt_at n m (dif a) (by omega)
    have e : nwt a (((n + 1 : Nat) : Int) : Rat) (m + 1) = nwt a (((n : Nat) : Int) : Rat) (m + 1) + nwt (dif a) (((n : Nat) : Int) : Rat) m := by
      unfold nwt
      rw [sumTo_front, sumTo_front, cast_s]
      have : ∀ j, j < m → (fun t => difN a (t + 1) 0 * bin ((((n : Nat) : Int) : Rat) + 1) (t + 1)) j = (fun t => 1 * (fun t => difN a (t + 1) 0 * bin (((n : Nat) : Int) : Rat) (t + 1)) t + 1 * (fun t => difN (dif a) t 0 * bin (((n : Nat) : Int) : Rat) t) t) j := fun j _ => by
        show difN a (j + 1) 0 * bin ((((n : Nat) : Int) : Rat) + 1) (j + 1) = 1 * (difN a (j + 1) 0 * bin (((n : Nat) : Int) : Rat) (j + 1)) + 1 * (difN (dif a) j 0 * bin (((n : Nat) : Int) : Rat) j)
        rw [pascal, difN_s]
        grind
      rw [sumTo_congr this, sumTo_lin]
      show difN a 0 0 * 1 + _ = difN a 0 0 * 1 + _ + _
      grind
    have h3 : nwt a (((n : Nat) : Int) : Rat) (m + 1) = nwt a (((n : Nat) : Int) : Rat) m + difN a m 0 * bin (((n : Nat) : Int) : Rat) m := rfl
    rw [e, h3, h1, h2, bin_out n m (by omega)]
    show a n + _ + (a (n + 1) - a n) = a (n + 1)
    grind
/-- the polynomial of Newton's form, from the top part down to k -/
def lnk (k : Nat) : Fr := fun j => if j = 0 then (((-(k : Int)) : Int) : Rat) / (((k + 1 : Nat) : Int) : Rat) else if j = 1 then 1 / (((k + 1 : Nat) : Int) : Rat) else 0
theorem lnk_fs (k : Nat) : Fs (lnk k) 2 := fun j hj => by
  unfold lnk
  rw [if_neg (by omega), if_neg (by omega)]
theorem lnk_val (k : Nat) (c : Rat) : Val (lnk k) c ((c - (((k : Nat) : Int) : Rat)) / (((k + 1 : Nat) : Int) : Rat)) := ⟨fun j => if j = 0 then 1 / (((k + 1 : Nat) : Int) : Rat) else 0, 1, fun j hj => if_neg (by omega), fun j => by
  rw [d0_one]
  unfold lnk Lx
  have := cast_sn k
  by_cases c0 : j = 0
  · rw [if_pos c0, if_pos c0, if_pos c0, Rat.intCast_neg]
    grind
  · rw [if_neg c0, if_neg c0, if_neg c0]
    by_cases c1 : j = 1
    · rw [if_pos c1, if_pos c1]
      grind
    · rw [if_neg c1, if_neg c1]
      grind⟩
/-- N - i .. : after i steps -/
def nPoly (d : Nat → Rat) (N : Nat) : Nat → Fr
  | 0 => fun _ => 0
  | i + 1 => fun j => cv (nPoly d N i) (lnk (N - 1 - i)) j + if j = 0 then d (N - 1 - i) else 0
theorem nPoly_fs (d : Nat → Rat) (N : Nat) : ∀ i, Fs (nPoly d N i) i
  | 0 => fun _ _ => rfl
  | i + 1 => fun j hj => by
    show cv (nPoly d N i) (lnk (N - 1 - i)) j + (if j = 0 then _ else 0) = 0
    rw [if_neg (by omega)]
    match i, hj with
    | 0, hj =>
      rw [show nPoly d N 0 = fun _ => 0 from rfl, cv_zl]
      grind
    | i + 1, hj =>
      rw [cv_out1 (n := i) (m := 1) (nPoly_fs d N (i + 1)) (lnk_fs _) j (by omega)]
      grind
/-- the parts from k on, without their common factor -/
theorem nPoly_val (d : Nat → Rat) (N : Nat) (c : Rat) : ∀ i, i ≤ N → ∃ y, Val (nPoly d N i) c y ∧ bin c (N - i) * y = sumTo N (fun j => d j * bin c j) - sumTo (N - i) (fun j => d j * bin c j)
  | 0, _ => ⟨0, ⟨fun _ => 0, 0, fun _ _ => rfl, fun j => by
    rw [cv_zl]
    show (0 : Rat) = _
    split <;> grind⟩, by
    rw [Nat.sub_zero]
    grind⟩
  | i + 1, h => by
    obtain ⟨y, hy, e⟩ := nPoly_val d N c i (by omega)
    obtain ⟨k, hk⟩ : ∃ k, N - i = k + 1 := ⟨N - 1 - i, by omega⟩
    have ek : N - 1 - i = k := by omega
    have ek2 : N - (i + 1) = k := by omega
    refine ⟨y * ((c - (((k : Nat) : Int) : Rat)) / (((k + 1 : Nat) : Int) : Rat)) + d k, ?_, ?_⟩
    · have := val_add (val_mul (lnk_fs k) hy (lnk_val k c)) (val_cst (d k) c)
      show Val (fun j => cv (nPoly d N i) (lnk (N - 1 - i)) j + if j = 0 then d (N - 1 - i) else 0) c _
      rw [ek]
      exact this
    · rw [ek2]
      rw [hk] at e
      have e2 : sumTo (k + 1) (fun j => d j * bin c j) = sumTo k (fun j => d j * bin c j) + d k * bin c k := rfl
      have e3 : bin c (k + 1) = bin c k * ((c - (((k : Nat) : Int) : Rat)) / (((k + 1 : Nat) : Int) : Rat)) := rfl
      rw [e2, e3] at e
      grind
/-- so it is the polynomial with these values -/
theorem nPoly_is {D : Fr} {a : Nat → Rat} {N : Nat} (hD : Fs D N) (ha : ∀ n : Nat, n < N → Val D (((n : Nat) : Int) : Rat) (a n)) : nPoly (fun k => difN a k 0) N N = D := by
  have key := root_uniq N (fun j => nPoly (fun k => difN a k 0) N N j + (-1) * D j) (fun j hj => by
    show _ + (-1) * D j = 0
    rw [nPoly_fs _ N N j hj, hD j hj]
    grind) fun n hn => by
    obtain ⟨y, hy, e⟩ := nPoly_val (fun k => difN a k 0) N (((n : Nat) : Int) : Rat) N (Nat.le_refl _)
    rw [Nat.sub_self] at e
    have e2 := nwt_at n N a hn
    have ey : y = a n := by
      have e3 : bin (((n : Nat) : Int) : Rat) 0 = 1 := rfl
      have e4 : sumTo 0 (fun j => (fun k => difN a k 0) j * bin (((n : Nat) : Int) : Rat) j) = 0 := rfl
      rw [e3, e4] at e
      unfold nwt at e2
      have e5 : sumTo N (fun j => (fun k => difN a k 0) j * bin (((n : Nat) : Int) : Rat) j) = a n := e2
      rw [e5] at e
      grind
    rw [ey] at hy
    have := val_add hy (val_sc (-1) (ha n hn))
    rw [show a n + (-1) * a n = 0 by grind] at this
    exact this
  funext j
  have := key j
  grind
end Ind

set_option Elab.async false
set_option linter.all false
set_option maxRecDepth 100000
set_option maxHeartbeats 4000000
set_option exponentiation.threshold 9000
namespace Ind
open PySem PySem.Spec PyProof.Rows L2
open Builtin.Int (intBits)
abbrev sInt : Stmt := top 30
/-- a number whose M-fold is an int of at most B, by its value -/
def Mv (M : Int) (B : Nat) (x : Rat) : Prop := ∃ z : Int, ((z : Int) : Rat) = ((M : Int) : Rat) * x ∧ z.natAbs ≤ B
theorem Mq.mv {M : Int} {B : Nat} {q : Q2} (h : Mq M B q) : Mv M B (rv q) := h.2
theorem mv_mono {M : Int} {B C : Nat} {x : Rat} (h : Mv M B x) (l : B ≤ C) : Mv M C x := let ⟨z, e, b⟩ := h; ⟨z, e, Nat.le_trans b l⟩
theorem mv_add {M : Int} {A B : Nat} {x y : Rat} (h1 : Mv M A x) (h2 : Mv M B y) : Mv M (A + B) (x + y) := by
  obtain ⟨z, e, b⟩ := h1
  obtain ⟨t, q, c⟩ := h2
  exact ⟨z + t, by rw [Rat.intCast_add, e, q]; grind, by omega⟩
theorem mv_sub {M : Int} {A B : Nat} {x y : Rat} (h1 : Mv M A x) (h2 : Mv M B y) : Mv M (A + B) (x - y) := by
  obtain ⟨z, e, b⟩ := h1
  obtain ⟨t, q, c⟩ := h2
  exact ⟨z - t, by rw [Rat.intCast_sub, e, q]; grind, by omega⟩
theorem mv_mul {M N : Int} {A B : Nat} {x y : Rat} (h1 : Mv M A x) (h2 : Mv N B y) : Mv (M * N) (A * B) (x * y) := by
  obtain ⟨z, e, b⟩ := h1
  obtain ⟨t, q, c⟩ := h2
  exact ⟨z * t, by rw [Rat.intCast_mul, Rat.intCast_mul, e, q]; grind, by rw [Int.natAbs_mul]; exact Nat.mul_le_mul b c⟩
theorem mv_zero (M : Int) (B : Nat) : Mv M B 0 := ⟨0, by show (0 : Rat) = _; grind, Nat.zero_le _⟩
theorem mv_up {M : Int} {B : Nat} {x : Rat} (h : Mv M B x) (c : Nat) : Mv (M * c) (B * c) x := by
  obtain ⟨z, e, b⟩ := h
  refine ⟨z * (c : Int), ?_, by rw [Int.natAbs_mul, Int.natAbs_natCast]; exact Nat.mul_le_mul_right _ b⟩
  rw [Rat.intCast_mul, Rat.intCast_mul, e]
  grind
theorem mq_rows {M : Int} {B : Nat} {qs : List Q2} (lo : ∀ q ∈ qs, Lo q) (h : ∀ j, Mv M B (rowF qs j)) : ∀ q ∈ qs, Mq M B q := fun q hq => by
  obtain ⟨j, hj, e⟩ := List.getElem_of_mem hq
  have e2 : rowF qs j = rv q := by
    unfold rowF
    rw [getD_q (q := q) (by rw [List.getElem?_eq_getElem hj, e])]
  have := h j
  rw [e2] at this
  exact ⟨lo q hq, this⟩
theorem mv_row {M : Int} {B : Nat} {qs : List Q2} (h : ∀ q ∈ qs, Mq M B q) (j : Nat) : Mv M B (rowF qs j) := (mq_getD h j).mv
theorem cv_two {f g : Fr} (hg : Fs g 2) : ∀ j, cv f g j = f j * g 0 + if j = 0 then 0 else f (j - 1) * g 1
  | 0 => by
    rw [cv_z]
    grind
  | j + 1 => by
    rw [cv_r, show tl g = fun t => if t = 0 then g 1 else 0 from funext fun t => by
      show g (t + 1) = _
      by_cases c : t = 0
      · rw [if_pos c, c]
      · rw [if_neg c, hg (t + 1) (by omega)], cv_comm, d0_one, if_neg (by omega)]
    show g 1 * f j + _ = _ + f (j + 1 - 1) * g 1
    rw [Nat.add_sub_cancel]
    grind
def mfac (N : Nat) : Nat → Nat
  | 0 => 1
  | i + 1 => mfac N i * (N - i)
theorem mfac_pos {N : Nat} : ∀ {i : Nat}, i ≤ N → 0 < mfac N i
  | 0, _ => Nat.zero_lt_one
  | i + 1, h => Nat.mul_pos (mfac_pos (by omega)) (by omega)
theorem mfac_le {N : Nat} (h : N ≤ 9) : ∀ i, mfac N i ≤ 9 ^ i
  | 0 => Nat.le_refl _
  | i + 1 => by
    show mfac N i * (N - i) ≤ _
    rw [Nat.pow_succ]
    exact Nat.mul_le_mul (mfac_le h i) (by omega)
theorem nPoly_mv {d : Nat → Rat} {N B : Nat} {M : Int} (hN : N ≤ 9) (hd : ∀ k, k < N → Mv M B (d k)) : ∀ i, i ≤ N → ∀ j, Mv (M * (mfac N i : Nat)) (B * (i * 9 ^ i)) (nPoly d N i j)
  | 0, _, _ => mv_zero _ _
  | i + 1, h, j => by
    have ih := nPoly_mv hN hd i (by omega)
    obtain ⟨k, hk⟩ : ∃ k, N = i + (k + 1) := ⟨N - i - 1, by omega⟩
    have e1 : N - 1 - i = k := by omega
    have e2 : N - i = k + 1 := by omega
    show Mv _ _ (cv (nPoly d N i) (lnk (N - 1 - i)) j + if j = 0 then d (N - 1 - i) else 0)
    rw [e1, cv_two (lnk_fs k)]
    have l0 : lnk k 0 = (((-(k : Int)) : Int) : Rat) / (((k + 1 : Nat) : Int) : Rat) := rfl
    have l1 : lnk k 1 = 1 / (((k + 1 : Nat) : Int) : Rat) := by
      unfold lnk
      rw [if_neg (by decide), if_pos rfl]
    have hc := cast_sn k
    have m0 : Mv (((k + 1 : Nat) : Int)) k (lnk k 0) := ⟨-(k : Int), by rw [l0]; grind, by omega⟩
    have m1 : Mv (((k + 1 : Nat) : Int)) 1 (lnk k 1) := ⟨1, by rw [l1]; show (1 : Rat) = _; grind, by decide⟩
    have eM : M * ((mfac N (i + 1) : Nat) : Int) = M * ((mfac N i : Nat) : Int) * ((k + 1 : Nat) : Int) := by
      show M * ((mfac N i * (N - i) : Nat) : Int) = _
      rw [e2, Int.natCast_mul, Int.mul_assoc]
    rw [eM]
    have a1 := mv_mul (ih j) m0
    have a2 : Mv (M * ((mfac N i : Nat) : Int) * ((k + 1 : Nat) : Int)) (B * (i * 9 ^ i)) (if j = 0 then 0 else nPoly d N i (j - 1) * lnk k 1) := by
      split
      · exact mv_zero _ _
      · have := mv_mul (ih (j - 1)) m1
        rw [Nat.mul_one] at this
        exact this
    have a3 : Mv (M * ((mfac N i : Nat) : Int) * ((k + 1 : Nat) : Int)) (B * 9 ^ (i + 1)) (if j = 0 then d k else 0) := by
      split
      · have := mv_up (mv_up (hd k (by omega)) (mfac N i)) (k + 1)
        refine mv_mono this ?_
        rw [Nat.mul_assoc]
        refine Nat.mul_le_mul_left _ ?_
        rw [Nat.pow_succ]
        exact Nat.mul_le_mul (mfac_le hN i) (by omega)
      · exact mv_zero _ _
    refine mv_mono (mv_add (mv_add a1 a2) a3) ?_
    have k9 : k + 1 ≤ 9 := by omega
    have : B * (i * 9 ^ i) * k + B * (i * 9 ^ i) = B * (i * 9 ^ i) * (k + 1) := by rw [Nat.mul_succ]
    rw [this]
    have b1 : B * (i * 9 ^ i) * (k + 1) ≤ B * (i * 9 ^ i) * 9 := Nat.mul_le_mul_left _ k9
    have b2 : B * (i * 9 ^ i) * 9 + B * 9 ^ (i + 1) = B * ((i + 1) * 9 ^ (i + 1)) := by
      rw [Nat.pow_succ]
      generalize 9 ^ i = X
      grind
    omega
/-- own operations of Poly, as operators use them -/
structure OwnM (P : Program) (w : World) (K : PySem.W.Frag) (mg : Str → Option Value) (base : Heap) (C CP : Addr) (m : Str) (sp : Sp) (ps : List Str) (f : Addr) (fd : FuncData) : Prop where
  fn : FnOk P w K mg base CX0 46 f fd ps sp
  at_ : PySem.W.findIn K (.ref CP) m = some (some (.ref f))
  isf : PySem.W.isFn K (.ref f) = true
  b : Binds K fd ps []
  first : PySem.W.selfFirst K CP = true
def spInt (C CP : Addr) : Sp := fun vs H Q _ => ∃ (l : Addr) (as : List Q2) (M : Int) (B : Nat), vs = [.ref l] ∧ Ls (RatQ C) H l as ∧ 0 < M ∧ M.natAbs < 2 ^ 100 ∧ B < 2 ^ 200 ∧ as.length ≤ 9 ∧ (∀ q ∈ as, Mq M B q) ∧
  ∀ (H' : Hp) (t : Addr) (rs : List Q2), Same H H' → PolyAt C CP H' t rs → (∀ q ∈ rs, Lo q ∧ Bq 300 q) → rs.length ≤ 50 → rowF rs = nPoly (fun k => difN (rowF as) k 0) as.length as.length → Q (.ref t) H'
end Ind

set_option Elab.async false
set_option linter.all false
set_option maxRecDepth 100000
set_option maxHeartbeats 4000000
set_option exponentiation.threshold 9000
namespace Ind
open PySem PySem.Spec PyProof.Rows L2
open Builtin.Int (intBits)
section
variable {P : Program} {w : World} {K : PySem.W.Frag} {mg : Str → Option Value} {base : Heap} {C Z CP : Addr}
abbrev nInt : List Str := ["values", "differences", "rest", "k", "found"]
theorem scInt : FnScope nInt ["values"] (defScope sInt) := ⟨rfl, rfl, rfl, by decide +kernel, rfl, by decide +kernel, by decide +kernel⟩
theorem lnk_mv {k : Nat} (h : k ≤ 9) (j : Nat) : Mv ((k + 1 : Nat) : Int) 9 (lnk k j) := by
  have hc := cast_sn k
  by_cases c0 : j = 0
  · refine ⟨-(k : Int), ?_, by omega⟩
    unfold lnk
    rw [if_pos c0]
    grind
  · by_cases c1 : j = 1
    · refine ⟨1, ?_, by decide⟩
      unfold lnk
      rw [if_neg c0, if_pos c1]
      show (1 : Rat) = _
      grind
    · unfold lnk
      rw [if_neg c0, if_neg c1]
      exact mv_zero _ _
theorem difN_mv {a : Nat → Rat} {M : Int} {B : Nat} (h : ∀ n, Mv M B (a n)) : ∀ k n, Mv M (B * 2 ^ k) (difN a k n)
  | 0, n => by
    rw [Nat.pow_zero, Nat.mul_one]
    exact h n
  | k + 1, n => by
    refine mv_mono (mv_sub (difN_mv h k (n + 1)) (difN_mv h k n)) ?_
    rw [Nat.pow_succ, ← Nat.mul_assoc]
    omega
theorem nPoly_all {a : Nat → Rat} {N B : Nat} {M : Int} (hN : N ≤ 9) (h : ∀ n, Mv M B (a n)) {i : Nat} (hi : i ≤ N) (j : Nat) : Mv (M * (mfac N i : Nat)) (B * 2 ^ 9 * (9 * 9 ^ 9)) (nPoly (fun k => difN a k 0) N i j) := by
  refine mv_mono (nPoly_mv hN (fun k hk => mv_mono (difN_mv h k 0) (Nat.mul_le_mul_left B (Nat.pow_le_pow_right (by decide) (show k ≤ 9 by omega)))) i hi j) ?_
  exact Nat.mul_le_mul_left _ (Nat.mul_le_mul (by omega) (Nat.pow_le_pow_right (by decide) (by omega)))
theorem difN_step (a : Nat → Rat) (i n : Nat) : difN a (i + 1) n = difN a i (n + 1) - difN a i n := rfl
theorem ok_int {f fI fP fC fS fM fA : Addr} {fd fdI fdP fdC fdS fdM fdA : FuncData} {ds : List Value} (F : Fun K "interpolated" "interpolated" sInt f fd) (T : TxL K mg) (R : TxR K mg C Z) (TP : TxP K mg CP) (M : MkR P w K mg base C Z fI fdI ds) (MP : MkP P w K mg base C CP fP fdP)
    (GC : FnOk P w K mg base CX0 45 fC fdC ["r"] (spCst C CP)) (kC : PySem.W.keepIn K (.ref fC) = true) (bC : Binds K fdC ["r"] []) (gC : mg "constant" = some (.ref fC))
    (OS : OwnQ P w K mg base C "__sub__" (spSubR C) ["self", "other"] fS fdS) (OM : OwnM P w K mg base C CP "__mul__" (spPMul C CP) ["self", "other"] fM fdM) (OA : OwnM P w K mg base C CP "__add__" (spPAdd C CP) ["self", "other"] fA fdA) : FnOk P w K mg base CX0 47 f fd ["values"] (spInt C CP) := by
  refine F.ok scInt (fun vs H Q E h => ?_) (fun cdv A outer s H vs Q E hr h => ?_)
  · obtain ⟨l, as, M, B, rfl, _⟩ := h
    rfl
  · obtain ⟨l, as, Mm, B, rfl, hl, hM, hM2, hB, hn, ha, res⟩ := h
    have h42 := hr.mono (show 42 ≤ 46 by decide)
    have h43 := hr.mono (show 43 ≤ 46 by decide)
    have h44 := hr.mono (show 44 ≤ 46 by decide)
    have h45 := hr.mono (show 45 ≤ 46 by decide)
    have h46 := hr.mono (show 46 ≤ 46 by decide)
    refine ⟨_, (pss_cons (ps_set (i := 1) scInt.nd rfl (Or.inl rfl) (pe_lst pa_nil))
      (pss_cons (ps_set (i := 2) scInt.nd rfl (Or.inr rfl) (pe_callTy call_list_of (by rfl) TP.list (by decide +kernel) (pa_cons (pv 0) pa_nil)))
      (C8.pss_cut (ps_while PassesOwn.never (pt_cmpR op_gt (pe_callB call_len_seq (by rfl) T.len PySem.boot_len (pa_cons (pv 2) pa_nil)) pe_int (nomark _)) (pss_cons (ps_expr (pe_bm PySem.F.plainAttrs_list PySem.F.slot_list_append PySem.F.type_list_append mt_append (pv 1) (pa_cons (pe_ix ix_list (pv 2) pe_int fun _ _ => rfl) pa_nil)))
      (pss_one (ps_set (i := 2) scInt.nd rfl (Or.inr rfl) (pe_lc (own := [("k", 3)]) (g := gName 3) (tt := tYes) (te := tOp (rBinO C (spSubR C) E0) (tOp (rIxL K) (tVar 2) (tOp (rI0 fun i j => .int (i + j)) (tVar 3) (tC (.int 1)))) (tOp (rIxL K) (tVar 2) (tVar 3))) rfl scInt.nd (pi_range1 (by rfl) T.range (pa_cons (pe_op op_sub (pe_callB call_len_seq (by rfl) T.len PySem.boot_len (pa_cons (pv 2) pa_nil)) pe_int) pa_nil)) (blkOk_by (N := nInt) (sc := defScope sInt) (by decide +kernel)) (fun _ _ _ _ _ => pg_name (i := 3) scInt.nd rfl (Or.inl rfl)) (fun _ _ _ _ _ => pts_nil) (fun _ _ _ _ _ => (pe_op (op_binO (E := E0) (m := "__sub__") (by rfl) ⟨OS.fn, OS.at_, OS.isf, OS.b, pass0, OS.first⟩ h43) (pe_ix ix_list (pv 2) (pe_op op_add (pv 3) pe_int) fun _ _ => rfl) (pe_ix ix_list (pv 2) (pv 3) fun _ _ => rfl))))))))
      (pss_cons (ps_set (i := 4) scInt.nd rfl (Or.inl rfl) (pe_make MP.cm MP.fn h44 (by rfl) TP.mgP MP.b .nil pass0 (pa_cons (pe_tup pa_nil) pa_nil)))
      (pss_cons (ps_for PassesOwn.never rfl (pi_range3 (by rfl) T.range (pa_cons (pe_op op_sub (pe_callB call_len_seq (by rfl) T.len PySem.boot_len (pa_cons (pv 1) pa_nil)) pe_int) (pa_cons (pe_un un_neg pe_int) (pa_cons (pe_un un_neg pe_int) pa_nil)))) (pg_name (i := 3) scInt.nd rfl (Or.inl rfl)) (pss_one (ps_set (i := 4) scInt.nd rfl (Or.inl rfl) (pe_op (op_binO (E := E0) (m := "__add__") (by rfl) ⟨OA.fn, OA.at_, OA.isf, OA.b, pass0, OA.first⟩ h46) (pe_op (op_binO (E := E0) (m := "__mul__") (by rfl) ⟨OM.fn, OM.at_, OM.isf, OM.b, pass0, OM.first⟩ h46) (pv 4) (pe_make MP.cm MP.fn h44 (by rfl) TP.mgP MP.b .nil pass0 (pa_cons (pe_tup (pa_cons (pe_make M.cm M.fn h42 (by rfl) R.mgC M.b2 .nil passL (pa_cons (pe_un un_neg (pv 3)) (pa_cons (pe_op op_add (pv 3) pe_int) pa_nil))) (pa_cons (pe_make M.cm M.fn h42 (by rfl) R.mgC M.b2 .nil passL (pa_cons pe_int (pa_cons (pe_op op_add (pv 3) pe_int) pa_nil))) pa_nil))) pa_nil))) (pe_call GC h45 (by rfl) gC kC bC .nil pass0 (pa_cons (pe_ix ix_list (pv 1) (pv 3) fun _ _ => rfl) pa_nil))))))
      (pss_one (ps_ret (pv 4)))))))), ?_⟩
    obtain ⟨pl, el, ql⟩ := id hl
    have alen := ql.length
    refine ⟨(by show 0 ≤ sizeLine; decide), fun D hD => ?_⟩
    have sD : Same H (upd H D (.lst [])) := same_upd hD
    refine ⟨_, rfl, l, _, rfl, .inl (SqL.of (sD _ _ el)), fun E0' hE => ?_⟩
    have sE := same_upd (o := .lst (pl.map V.ref)) hE
    have nDE : E0' ≠ D := fun e => by rw [e, upd_same] at hE; cases hE
    refine ⟨fun σ' H5 => ∃ (E' : Addr) (ds : List Q2), σ' = [some (.ref l), some (.ref D), some (.ref E'), none, none] ∧ Col (RatQ C) D H H5 ds ∧ ds.length = as.length ∧ (∀ q ∈ ds, Lo q) ∧ (∀ j, j < as.length → rowF ds j = difN (rowF as) j 0), ?_, ?_⟩
    · refine while_by (fun σ' H5 => ∃ (i : Nat) (E' : Addr) (ds rs : List Q2), σ' = [some (.ref l), some (.ref D), some (.ref E'), none, none] ∧ Col (RatQ C) D H H5 ds ∧ E' ≠ D ∧ Ls (RatQ C) H5 E' rs ∧ ds.length = i ∧ rs.length + i = as.length ∧ (∀ q ∈ ds, Lo q) ∧ (∀ q ∈ rs, Mq Mm (B * 2 ^ i) q) ∧
          (∀ j, j < i → rowF ds j = difN (rowF as) j 0) ∧ ∀ j, j < rs.length → rowF rs j = difN (rowF as) i j)
        (fun σ H5 => match σ[2]? with | some (some (V.ref e)) => (match H5 e with | some (.lst xs) => xs.length | _ => 0) | _ => 0)
        ⟨0, E0', [], as, rfl, ⟨sD.trans sE, [], sE _ _ upd_same, .nil⟩, nDE, ⟨pl, upd_same, Paired.imp (fun _ _ f => (RatQ.stb C).same (sD.trans sE) f) ql⟩, rfl, rfl, fun q h => absurd h (by simp), fun q hq => by rw [Nat.pow_zero, Nat.mul_one]; exact ha q hq, fun j h => absurd h (Nat.not_lt_zero _), fun j _ => rfl⟩ ?_ ?_
      · rintro σ H5 ⟨i, E', ds, rs, rfl, z, nE, hrs, dl, rl, dlo, rmq, hd, hrw⟩
        obtain ⟨pr, er, qr⟩ := id hrs
        have rlen := qr.length
        refine ⟨_, rfl, E', _, rfl, .inl (SqL.of er), _, _, rfl, rfl, _, rfl, ?_⟩
        rw [List.length_map, rlen]
        rcases Nat.eq_zero_or_pos rs.length with c | c
        · rw [show decide ((0 : Int) < ((rs.length : Nat) : Int)) = false from decide_eq_false (by omega)]
          exact iteF ⟨E', ds, rfl, z, by omega, dlo, fun j hj => hd j (by omega)⟩
        · rw [show decide ((0 : Int) < ((rs.length : Nat) : Int)) = true from decide_eq_true (by omega)]
          refine iteT ?_
          obtain ⟨q0', hq0, hq0d, hq0m⟩ := at_d (qs := rs) (j := 0) c
          obtain ⟨a0, ha0, hra0⟩ := Paired.at2 qr hq0
          obtain ⟨pd, ed, _⟩ := z.at_
          obtain ⟨acc, f1, f2, f3⟩ := z.push ((RatQ.stb C).x D) hD same_rfl hra0 (by omega)
          refine ⟨_, rfl, .inl ⟨rfl, _, SqL.of ed⟩, _, rfl, E', _, _, V.ref a0, rfl, rfl, SqL.of er, atI_of (k := 0) (ref_at ha0), D, acc, _, rfl, rfl, f1, f2, ?_⟩
          -- the next row of differences
          have hrs6 : E' ≠ D ∧ Ls (RatQ C) (upd H5 D (.lst (acc ++ [V.ref a0]))) E' rs := Ls.stbx (RatQ.stb C) D _ _ _ _ (sx_upd f1) ⟨nE, hrs⟩
          generalize (upd H5 D (.lst (acc ++ [V.ref a0]))) = H6 at f3 hrs6 ⊢
          obtain ⟨_, hrs6⟩ := hrs6
          obtain ⟨pr6, er6, qr6⟩ := id hrs6
          refine ⟨_, rfl, E', _, rfl, .inl (SqL.of er6), _, _, rfl, rfl, _, rfl, by rw [List.length_map, qr6.length]; omega, by rw [List.length_map, qr6.length]; omega, fun G hG => ?_⟩
          rw [List.length_map, qr6.length, show ((rs.length : Int) - 1).toNat = rs.length - 1 by omega]
          refine lc_range (lo := 0) (n := rs.length - 1) (fun t H7 => ∃ zs, Col (RatQ C) G H6 H7 zs ∧ zs.length = t ∧ (∀ q ∈ zs, Mq Mm (B * 2 ^ (i + 1)) q) ∧ ∀ j, j < t → rowF zs j = difN (rowF as) (i + 1) j) ⟨[], Col.start hG, rfl, fun q h => absurd h (by simp), fun j h => absurd h (Nat.not_lt_zero _)⟩ ?_ ?_
          · rintro t H7 ht ⟨zs, z7, zl, zm, zr⟩
            obtain ⟨u, hu1, hu2, hu3⟩ := at_d (qs := rs) (j := t + 1) (by omega)
            obtain ⟨v, hv1, hv2, hv3⟩ := at_d (qs := rs) (j := t) (by omega)
            obtain ⟨pu, hpu, hru⟩ := Paired.at2 qr6 hu1
            obtain ⟨pv', hpv, hrv⟩ := Paired.at2 qr6 hv1
            have mu := rmq u hu3
            have mv := rmq v hv3
            have e1 : (0 : Int) + (t : Int) + 1 = ((t + 1 : Nat) : Int) := by omega
            have e2 : (0 : Int) + (t : Int) = ((t : Nat) : Int) := by omega
            have er7 := z7.s _ _ er6
            have hru7 := hru.same z7.s
            have hrv7 := hrv.same z7.s
            obtain ⟨du, eu⟩ := id hru7
            obtain ⟨dv, ev⟩ := id hrv7
            have p2 : 2 ^ i ≤ 2 ^ 9 := Nat.pow_le_pow_right (by decide) (by omega)
            have bB : B * 2 ^ i < 2 ^ 250 := Nat.lt_of_le_of_lt (Nat.mul_le_mul_left B p2) (Nat.lt_of_lt_of_le (Nat.mul_lt_mul_of_pos_right hB (by decide)) (by decide))
            have bM : Mm.natAbs < 2 ^ 250 := Nat.lt_of_lt_of_le hM2 (Nat.pow_le_pow_right (by decide) (by decide))
            refine ⟨rfl, _, rfl, _, rfl, _, _, rfl, rfl, E', _, _, V.ref pu, rfl, rfl, SqL.of er7, (by rw [e1]; exact atI_of (ref_at hpu)), _, rfl, _, rfl, E', _, _, V.ref pv', rfl, rfl, SqL.of er7, (by rw [e2]; exact atI_of (ref_at hpv)), pu, du, _, pv', dv, _, rfl, rfl, eu, ev, pu, pv', u, v, rfl, hru7, hrv7, mu.1, mv.1, (mq_bq hM mu bB bM).bg (by decide), (mq_bq hM mv bB bM).bg (by decide), fun H8 t8 s8 ht8 => ?_⟩
            obtain ⟨acc2, g1, g2, g3⟩ := z7.push ((RatQ.stb C).x G) hG s8 ht8 (by omega)
            have lsub : Lo (subq u v) := lo_mk (Int.mul_ne_zero mu.1.ne mv.1.ne)
            refine ⟨acc2, g1, g2, _, g3, by rw [List.length_append, zl]; rfl, fun q hq => ?_, fun j hj => ?_⟩
            · rcases List.mem_append.mp hq with h | h
              · exact zm q h
              · rw [List.mem_singleton.mp h]
                refine ⟨lsub, ?_⟩
                rw [rv_sub mu.1 mv.1]
                refine mv_mono (mv_sub mu.mv mv.mv) ?_
                rw [Nat.pow_succ, ← Nat.mul_assoc]
                omega
            · unfold rowF
              rw [List.getD_eq_getElem?_getD]
              by_cases c : j < t
              · rw [List.getElem?_append_left (by omega)]
                have := zr j c
                unfold rowF at this
                rw [List.getD_eq_getElem?_getD] at this
                exact this
              · have ej : j = t := by omega
                subst ej
                rw [List.getElem?_append_right (by omega), zl, Nat.sub_self]
                show rv (subq u v) = _
                have r1 := hrw (j + 1) (by omega)
                have r2 := hrw j (by omega)
                unfold rowF at r1 r2
                rw [hu2] at r1
                rw [hv2] at r2
                rw [rv_sub mu.1 mv.1, difN_step, r1, r2]
          · rintro H7 ⟨zs, z7, zl, zm, zr⟩
            obtain ⟨pz, ez, qz⟩ := id z7.at_
            have nG : G ≠ D := fun e => by
              obtain ⟨_, e3, _⟩ := f3.at_
              rw [e, e3] at hG
              cases hG
            refine ⟨⟨i + 1, G, _, zs, rfl, ⟨f3.s.trans z7.s, Ls.same (RatQ.stb C) z7.s f3.at_⟩, nG, z7.at_, by rw [List.length_append, dl]; rfl, by omega, fun q hq => ?_, zm, fun j hj => ?_, fun j hj => zr j (by omega)⟩, ?_⟩
            · rcases List.mem_append.mp hq with h | h
              · exact dlo q h
              · rw [List.mem_singleton.mp h]
                exact (rmq _ hq0m).1
            · unfold rowF
              rw [List.getD_eq_getElem?_getD]
              by_cases c7 : j < i
              · rw [List.getElem?_append_left (by omega)]
                have := hd j c7
                unfold rowF at this
                rw [List.getD_eq_getElem?_getD] at this
                exact this
              · have ej : j = i := by omega
                subst ej
                rw [List.getElem?_append_right (by omega), dl, Nat.sub_self]
                show rv q0' = _
                have r1 := hrw 0 c
                unfold rowF at r1
                rw [hq0d] at r1
                exact r1
            · show (match H7 G with | some (.lst xs) => xs.length | _ => 0) < (match H5 E' with | some (.lst xs) => xs.length | _ => 0)
              rw [ez, er]
              show (pz.map V.ref).length < (pr.map V.ref).length
              rw [List.length_map, List.length_map, qz.length, rlen]
              omega
      · rintro σ H' R1 R2 hR ⟨v0, e0, p1, ys1, e1, e2, i1, j1, e3, e4, c1, e5, h⟩
        exact ⟨v0, e0, p1, ys1, e1, e2, i1, j1, e3, e4, c1, e5, hR _ _ h⟩
    rintro σ' H5 ⟨E', ds, rfl, z, dl, dlo, hd⟩
    obtain ⟨pd, ed, qd⟩ := id z.at_
    have dlen := qd.length
    refine ⟨(by show 0 ≤ sizeLine; decide), fun T0 hT0 => ?_⟩
    have sT0 := same_upd (o := .tup []) hT0
    intro x dx nx nd ne
    refine mkP_ok2 (qs := []) (k := 1) (.inr upd_same) .nil ⟨fun q h => absurd h (by simp), by decide, 1, by decide, by decide, fun q h => absurd h (by simp)⟩ (by decide) nx nd ne fun H6 h6 s6 => ?_
    rw [show trimQ ([] : List Q2) = [] from rfl] at h6
    have s56 := sT0.trans s6
    have ed6 := s56 _ _ ed
    refine ⟨rfl, _, rfl, D, _, rfl, .inl (SqL.of ed6), _, _, rfl, rfl, _, rfl, _, rfl, _, _, _, _, rfl, RgC.neg (by rw [List.length_map]; omega) (by rw [List.length_map]; omega) (by decide) (by decide), ?_⟩
    rw [List.length_map, dlen, dl]
    rw [show ((as.length : Int) - 1 - -1).toNat = as.length by omega]
    refine for_it (walk_rangeC (lo := (as.length : Int) - 1) (c := -1) (n := as.length))
      (fun i σ H7 => ∃ (E' x : Addr) (fs : List Q2) (v3 : Option V), σ = [some (.ref l), some (.ref D), some (.ref E'), v3, some (.ref x)] ∧ Same H6 H7 ∧ PolyAt C CP H7 x fs ∧ (∀ q ∈ fs, Lo q) ∧ fs.length ≤ 2 * i ∧ rowF fs = nPoly (fun k => difN (rowF as) k 0) as.length i)
      ⟨E', x, [], none, rfl, same_rfl, h6, fun q h => absurd h (by simp), Nat.zero_le _, funext fun j => rowF_nil j⟩ (fun i σ H7 _ _ => trivial) ?_ ?_
    · rintro i x0 σ H0 H7 hi ⟨E2, x, fs, v3, rfl, s7, hx, flo, fl, fr⟩ y
      obtain ⟨rfl, ey⟩ := y
      obtain ⟨k, ek⟩ : ∃ k : Nat, as.length = i + (k + 1) := ⟨as.length - 1 - i, by omega⟩
      have ey2 : x0 = V.int ((k : Nat) : Int) := ey.trans (by show V.int _ = _; rw [show (as.length : Int) - 1 + ((i : Nat) : Int) * (-1) = ((k : Nat) : Int) by omega])
      subst ey2
      refine ⟨_, rfl, _, rfl, _, rfl, _, rfl, _, _, rfl, rfl, ?_⟩
      intro u du nu ndu neu
      refine ⟨u, du, _, _, rfl, upd_same, fun z => absurd z (by omega), fun _ H8 hu ku => ?_⟩
      have s78 := Same.made nu ndu ku
      refine ⟨rfl, _, rfl, _, _, rfl, rfl, ?_⟩
      intro u2 du2 nu2 ndu2 neu2
      refine ⟨u2, du2, _, _, rfl, upd_same, fun z => absurd z (by omega), fun _ H9 hu2 ku2 => ⟨rfl, (by show 2 ≤ sizeLine; decide), fun T1 hT1 => ?_⟩⟩
      have s89 := Same.made nu2 ndu2 ku2
      have sT1 := same_upd (o := .tup [.ref u, .ref u2]) hT1
      have k9 : k + 1 ≤ 9 := by omega
      obtain ⟨qa, eqa⟩ : ∃ q, q = mkq (-(k : Int)) ((k : Int) + 1) := ⟨_, rfl⟩
      obtain ⟨qb, eqb⟩ : ∃ q, q = mkq 1 ((k : Int) + 1) := ⟨_, rfl⟩
      have la : Lo qa := by rw [eqa]; exact lo_mk (by omega)
      have lb : Lo qb := by rw [eqb]; exact lo_mk (by omega)
      have ra : RatQ C H8 u qa := by rw [eqa]; exact hu
      have rb : RatQ C H9 u2 qb := by rw [eqb]; exact hu2
      have va : rv qa = lnk k 0 := by
        rw [eqa, rv_mk (by omega)]
        rfl
      have vb : rv qb = lnk k 1 := by
        rw [eqb, rv_mk (by omega)]
        rfl
      have rowAB : rowF [qa, qb] = lnk k := funext fun j => by
        match j with
        | 0 => rw [rowF_z, va]
        | 1 => rw [rowF_s, rowF_z, vb]
        | j + 2 => rw [rowF_s, rowF_s, rowF_nil, lnk_fs k (j + 2) (by omega)]
      have mqAB : ∀ q ∈ [qa, qb], Mq ((k + 1 : Nat) : Int) 9 q := mq_rows (fun q hq => by
        rcases List.mem_cons.mp hq with e | e
        · rw [e]; exact la
        · rw [List.mem_singleton.mp e]; exact lb) fun j => by
        rw [rowAB]
        exact lnk_mv (by omega) j
      have pAB : PSz 5 [qa, qb] := mq_psz (by omega) mqAB (by decide) (by omega) (by show 2 ≤ 100; decide)
      intro x1 dx1 nx1 nd1 ne1
      refine mkP_ok2 (.inr upd_same) (.cons (.inl ⟨u, rfl, (ra.same s89).same sT1, la⟩) (.cons (.inl ⟨u2, rfl, rb.same sT1, lb⟩) .nil)) pAB (by decide) nx1 nd1 ne1 fun H10 h10 s10 => ⟨rfl, ?_⟩
      have s710 := ((s78.trans s89).trans sT1).trans s10
      have hx10 := (PolyAt.stb C CP).same s710 hx
      have hx10' := hx10
      obtain ⟨ex1, _, _, ex2, _⟩ := hx10'
      have h10' := h10
      obtain ⟨ey1, _, _, ey2, _⟩ := h10'
      have fmq : ∀ q ∈ fs, Mq (Mm * ((mfac as.length i : Nat) : Int)) (B * 2 ^ 9 * (9 * 9 ^ 9)) q := mq_rows flo fun j => by
        rw [fr]
        exact nPoly_all hn (mv_row ha) (by omega) j
      have mf : mfac as.length i ≤ 9 ^ 9 := Nat.le_trans (mfac_le hn i) (Nat.pow_le_pow_right (by decide) (by omega))
      have mf0 : 0 < mfac as.length i := mfac_pos (by omega)
      have pfs : PSz 250 fs := by
        refine mq_psz (Int.mul_pos hM (by omega)) fmq ?_ ?_ (by omega)
        · have : B * 2 ^ 9 * (9 * 9 ^ 9) < 2 ^ 200 * 2 ^ 9 * (9 * 9 ^ 9) := Nat.mul_lt_mul_of_pos_right (Nat.mul_lt_mul_of_pos_right hB (by decide)) (by decide)
          exact Nat.lt_of_lt_of_le this (by decide)
        · rw [Int.natAbs_mul, Int.natAbs_natCast]
          have : Mm.natAbs * mfac as.length i < 2 ^ 100 * 9 ^ 9 := Nat.lt_of_lt_of_le (Nat.mul_lt_mul_of_pos_right hM2 mf0) (Nat.mul_le_mul_left _ mf)
          exact Nat.lt_of_lt_of_le this (by decide)
      refine ⟨x, ex1, _, x1, ey1, _, rfl, rfl, ex2, ey2, x, x1, fs, _, 250, rfl, hx10, h10, pfs, psz_trim (psz_mono pAB (by decide)), by decide, by omega, Nat.le_trans (trim_len _) (by show 2 ≤ 50; decide), fun H11 t11 gs s11 ht11 pgs lgs rgs => ?_⟩
      obtain ⟨qk, hqk, hqkd, hqkm⟩ := at_d (qs := ds) (j := k) (by omega)
      obtain ⟨ak, hak, hrk⟩ := Paired.at2 qd hqk
      have s511 := (((s56.trans s7).trans s710).trans s11)
      have ed11 := s511 _ _ ed
      have hrk11 := hrk.same s511
      have vqk : rv qk = difN (rowF as) k 0 := by
        have := hd k (by omega)
        unfold rowF at this
        rw [hqkd] at this
        exact this
      have mqk : Mq Mm (B * 2 ^ 9) qk := ⟨dlo qk hqkm, by
        have := mv_mono (difN_mv (mv_row ha) k 0) (Nat.mul_le_mul_left B (Nat.pow_le_pow_right (by decide) (show k ≤ 9 by omega)))
        rw [← vqk] at this
        exact this⟩
      have bqk : Bq 600 qk := (mq_bq hM mqk (m := 300) (Nat.lt_of_lt_of_le (Nat.mul_lt_mul_of_pos_right hB (by decide)) (by decide)) (Nat.lt_of_lt_of_le hM2 (Nat.pow_le_pow_right (by decide) (by decide)))).mono (by decide)
      refine ⟨_, rfl, _, rfl, D, _, _, V.ref ak, rfl, rfl, SqL.of ed11, atI_of (ref_at hak), ?_⟩
      refine ⟨ak, qk, 600, rfl, hrk11, dlo qk hqkm, bqk.1, bqk.2, by decide, by decide, fun H12 t12 s12 ht12 p12 => ?_⟩
      have ht11' := (PolyAt.stb C CP).same s12 ht11
      obtain ⟨ez1, _, _, ez2, _⟩ := id ht11'
      obtain ⟨ew1, _, _, ew2, _⟩ := id ht12
      refine ⟨t11, ez1, _, t12, ew1, _, rfl, rfl, ez2, ew2, t11, t12, gs, _, 600, rfl, ht11', ht12, pgs, p12, by decide, fun H13 t13 hs s13 ht13 phs lhs rhs => ?_⟩
      refine ⟨E2, t13, hs, _, rfl, ((s7.trans s710).trans (s11.trans s12)).trans s13, ht13, phs.1, ?_, ?_⟩
      · have l1 : (trimQ [qa, qb]).length ≤ 2 := trim_len _
        have l2 : (trimQ [qk]).length ≤ 1 := trim_len _
        omega
      · funext j
        rw [rhs j]
        show rowF gs j + rowF (trimQ [qk]) j = _
        rw [rgs j, trim_row, cvR_cv, show rowF (trimQ [qa, qb]) = lnk k from funext fun t => by rw [trim_row, rowAB], fr]
        show _ = cv (nPoly (fun k => difN (rowF as) k 0) as.length i) (lnk (as.length - 1 - i)) j + if j = 0 then difN (rowF as) (as.length - 1 - i) 0 else 0
        rw [show as.length - 1 - i = k by omega]
        match j with
        | 0 => rw [rowF_z, vqk, if_pos rfl]
        | j + 1 => rw [rowF_s, rowF_nil, if_neg (by omega)]
    · rintro σ H7 ⟨E2, x, fs, v3, rfl, s7, hx, flo, fl, fr⟩
      have fmq : ∀ q ∈ fs, Mq (Mm * ((mfac as.length as.length : Nat) : Int)) (B * 2 ^ 9 * (9 * 9 ^ 9)) q := mq_rows flo fun j => by
        rw [fr]
        exact nPoly_all hn (mv_row ha) (Nat.le_refl _) j
      have mf : mfac as.length as.length ≤ 9 ^ 9 := Nat.le_trans (mfac_le hn _) (Nat.pow_le_pow_right (by decide) (by omega))
      have mf0 : 0 < mfac as.length as.length := mfac_pos (Nat.le_refl _)
      refine ⟨_, rfl, res H7 x fs ((z.s.trans s56).trans s7) hx (fun q hq => ⟨flo q hq, (mq_bq (m := 300) (Int.mul_pos hM (by omega)) (fmq q hq) ?_ ?_)⟩) (by omega) fr⟩
      · have : B * 2 ^ 9 * (9 * 9 ^ 9) < 2 ^ 200 * 2 ^ 9 * (9 * 9 ^ 9) := Nat.mul_lt_mul_of_pos_right (Nat.mul_lt_mul_of_pos_right hB (by decide)) (by decide)
        exact Nat.lt_of_lt_of_le this (by decide)
      · rw [Int.natAbs_mul, Int.natAbs_natCast]
        have : Mm.natAbs * mfac as.length as.length < 2 ^ 100 * 9 ^ 9 := Nat.lt_of_lt_of_le (Nat.mul_lt_mul_of_pos_right hM2 mf0) (Nat.mul_le_mul_left _ mf)
        exact Nat.lt_of_lt_of_le this (by decide)

end
end Ind

set_option Elab.async false
set_option linter.all false
set_option maxRecDepth 100000
set_option maxHeartbeats 4000000
set_option exponentiation.threshold 9000
namespace Ind
open PySem PySem.Spec PyProof.Rows L2
open Builtin.Int (intBits)
/-! ### t[::-1] of a tuple -/
theorem back_adj (n : Nat) : Builtin.Slice.sliceAdjust none none (-1) (n : Int) = ((n : Int) - 1, -1) := rfl
theorem back_pl (n : Nat) : Builtin.Slice.slicePlaces ((n : Int) - 1) (-1) (-1) = n := by
  unfold Builtin.Slice.slicePlaces
  simp
  split <;> omega
theorem back_pick (xs : Array Value) : ((List.range xs.size).filterMap fun (m : Nat) => xs[(((xs.size : Nat) : Int) - 1 + (m : Int) * (-1)).toNat]?).toArray = xs.toList.reverse.toArray := by
  have h1 : ((List.range xs.size).filterMap fun (m : Nat) => xs[(((xs.size : Nat) : Int) - 1 + (m : Int) * (-1)).toNat]?) = ((List.range xs.size).map fun k => xs.size - 1 - k).filterMap (xs[·]?) := by
    rw [List.filterMap_map]
    congr 1
    funext m
    have e : (((xs.size : Nat) : Int) - 1 + (m : Int) * (-1)).toNat = xs.size - 1 - m := by omega
    show xs[_]? = xs[_]?
    rw [e]
  rw [h1, PySem.W.krv_range, List.filterMap_reverse, PySem.W.krv_all]
section
variable {prog : Program} {w : World} {A : Around} {E : Value → Shared → Prop} {s : Shared}
theorem applied_back {sl : Addr} {vk : Value} {n : Nat} {Q : Int × Int × Nat → Shared → Prop} (hs : s.heap.IsSliceOf sl .none .none vk) (pk : IsPart vk (some (-1)))
    (h : Q ((n : Int) - 1, -1, n) s) : wpAny (model prog w) A (Builtin.Slice.sliceApplied (.ref sl) (pure (n : Int))) Q E s := by
  obtain ⟨os, hos, hcs, hds⟩ := id hs
  unfold Builtin.Slice.sliceApplied Builtin.Slice.sliceFields
  refine wpAny_bind (wpAny_bind (wpAny_field hos hds (x := .none) rfl (wpAny_bind (wpAny_field hos hds (x := .none) rfl (wpAny_bind (wpAny_field hos hds (x := vk) rfl (wpAny_pure ?_)))))))
  refine wpAny_bind (HT.slicePart_ pk ?_)
  show wpAny _ _ (if ((-1 : Int) == 0) = true then _ else _) _ _ s
  rw [if_neg (by decide)]
  refine wpAny_bind (HT.slicePart_ .none (wpAny_bind (HT.slicePart_ .none (wpAny_bind (wpAny_pure ?_)))))
  show wpAny _ _ (pure ((n : Int) - 1, (-1 : Int), Builtin.Slice.slicePlaces ((n : Int) - 1) (-1) (-1))) _ _ s
  rw [back_pl]
  exact wpAny_pure h
theorem item_back {t sl : Addr} {items : Array Value} {vk : Value} {Q : Value → Shared → Prop} (ht : IsTup s.heap t items) (hs : s.heap.IsSliceOf sl .none .none vk) (pk : IsPart vk (some (-1)))
    (h : Q (.ref s.heap.objs.size) { s with heap := s.heap.push { cls := .type "tuple", data := .seq items.toList.reverse.toArray } })
    (hsz : items.size ≤ sizeLine) : wpAny (model prog w) A (getItem (.ref t) (.ref sl)) Q E s := by
  have hok : sizeOk (.seq items.toList.reverse.toArray) := by
    show items.toList.reverse.toArray.size ≤ sizeLine
    rw [List.size_toArray, List.length_reverse, Array.length_toList]
    exact hsz
  obtain ⟨os, hos, hcs, hds⟩ := id hs
  have hTs : s.TypeIs (.ref sl) "slice" := ⟨os, hos, hcs⟩
  unfold getItem
  try with_reducible refine wpAny_holding ?_
  first | refine wpAny_bind (wpAny_pure ?_) | skip
  refine wpAny_bind (wpAny_sequenceKey ht.typeIs (by decide) ?_)
  refine wpAny_bind (wpAny_callSpecial?_slot (name := Str.ofString "__getitem__") ht.typeIs PyProof.Rows.slot_tuple_getitem
    (wpAny_call_entry PyProof.Rows.slot_tuple_getitem ht.typeIs entry_tuple_getitem ?_ (args_tuple_getitem _ _)))
  show wpAny _ _ (Builtin.Tuple.tupleItemsOf (.ref t) >>= _) _ _ s
  refine wpAny_bind (tupleItemsOf_ ht ?_)
  refine wpAny_bind (wpAny_typeOf hTs ?_)
  rw [if_pos (by decide)]
  refine wpAny_bind (applied_back hs pk ?_)
  have hno : ¬ ((((items.size : Int) - 1) == 0 && (-1 : Int) == 1 && items.size == items.size) = true) := by
    intro q
    rw [Bool.and_eq_true, Bool.and_eq_true] at q
    exact absurd (eq_of_beq q.1.2) (by decide)
  show wpAny _ _ (if (((items.size : Int) - 1) == 0 && (-1 : Int) == 1 && items.size == items.size) = true then _ else _) _ _ s
  rw [if_neg hno, back_pick]
  first
    | exact wpAny_bind (m := Builtin.Tuple.tupleExact _) (wpAny_newObj_type (wpAny_pure ⟨_, rfl, wpAny_pure h⟩) hok)
    | exact wpAny_bind (m := Builtin.Tuple.tupleExact _) (wpAny_newObj_type (wpAny_bind (wpAny_pure (wpAny_pure ⟨_, rfl, wpAny_pure h⟩))) hok)
    | exact wpAny_bind (wpAny_bind (m := Builtin.Tuple.tupleExact _) (wpAny_newObj_type (wpAny_pure (wpAny_pure ⟨_, rfl, wpAny_pure h⟩)) hok))
    | exact wpAny_bind (wpAny_bind (m := Builtin.Tuple.tupleExact _) (wpAny_newObj_type (wpAny_pure ⟨_, rfl, wpAny_pure h⟩) hok))
end
def tBack (K : PySem.W.Frag) (te : TE) : TE := fun σ H Q => te σ H fun x H1 => ∃ a xs, x = .ref a ∧ SqT K H1 a xs ∧ ∀ p, H1 p = none → Q (.ref p) (upd H1 p (.tup xs.reverse))
theorem pe_back {X : Cx} {e st : Expr} {te ts : TE} {pos p2 : Pos} (he : PE X e te) (hst : PE X st ts) (hm : ∀ σ H Q, Q (.int (-1)) H → ts σ H Q := by intro σ H Q h; exact ⟨_, rfl, h⟩) : PE X (.Subscript e (.Slice none none (some st) p2) pos) (tBack X.K te) := by
  refine ⟨fun pins s σ H Q I h => ?_⟩
  refine Subscript_ (thn (he.run pins s σ H _ I h) fun v s1 ⟨x, H1, I1, r1, q1⟩ => ?_)
  obtain ⟨a, xs, rfl, hx, q⟩ := q1
  cases r1
  refine wpAny_Slice ?_
  rw [evalPart_none]
  refine wpAny_pure ?_
  refine wpAny_pure ?_
  rw [evalPart_some]
  refine thn (hst.run pins s1 σ H1 (fun v H2 => v = .int (-1) ∧ H2 = H1) I1 (hm _ _ _ ⟨rfl, rfl⟩)) fun u s3 ⟨y, H3, I3, r3, q3⟩ => ?_
  obtain ⟨rfl, rfl⟩ := q3
  obtain ⟨t, rfl⟩ := r3
  have I4 : Inv X pins σ H3 { s3 with heap := s3.heap.push { cls := .type "slice", data := .fields #[.none, .none, .int (-1) t] } } := I3.kept (t' := s3.toks) fun b ob q => Heap.get?_push_of_some _ q
  obtain ⟨its, r, ht, hz⟩ := I4.tuple hx
  have hlen : its.toArray.size = xs.length := by rw [List.size_toArray]; exact r.length.symm
  show wpAny (model X.prog X.w) X.A (subscriptTail e (.Slice none none (some st) p2) (.ref a) (.ref s3.heap.objs.size)) (EP X pins σ Q) X.xe { s3 with heap := s3.heap.push { cls := .type "slice", data := .fields #[.none, .none, .int (-1) t] } }
  refine tail_any (ops := [.ref a, .ref s3.heap.objs.size]) ht.typeIs PyProof.Rows.slot_tuple_getitem.lookup ?_ (by with_unfolding_all rfl)
  refine item_back ht (Heap.IsSliceOf.new ..) (.int _ t) ?_ (by rw [hlen]; exact hz)
  refine ⟨.ref _, _, I4.laid (t' := s3.toks) (o := .tup xs.reverse) (fun b ob q => Heap.get?_push_of_some _ q) (Nat.le_refl _) ?_, rfl, q _ (I4.hok.fresh (Nat.le_refl _))⟩
  exact ⟨by rw [List.length_reverse]; exact hz, _, r.reverse, IsTup.new _ _⟩
end Ind

set_option Elab.async false
set_option linter.all false
set_option maxRecDepth 100000
set_option maxHeartbeats 4000000
set_option exponentiation.threshold 9000
namespace Ind
open PySem PySem.Spec PyProof.Rows L2
open Builtin.Int (intBits)
abbrev sPor : Stmt := top 29
/-- the sum of the rows times the powers of v -/
def mixL : List (List Q2) → Rat → Fr
  | [], _ => fun _ => 0
  | l :: ls, v => fun j => mixL ls v j * v + rowF l j
theorem mixL_mv {M : Int} {B v : Nat} (hv : v ≤ 8) : ∀ {ls : List (List Q2)}, (∀ l ∈ ls, ∀ q ∈ l, Mq M B q) → ∀ j, Mv M (B * 9 ^ ls.length) (mixL ls ((v : Int) : Rat) j)
  | [], _, j => mv_zero _ _
  | l :: ls, h, j => by
    have ih := mixL_mv hv (fun l hl => h l (List.mem_cons_of_mem _ hl)) j (ls := ls)
    have hr := mv_row (h l List.mem_cons_self) j
    have h1 : Mv M (B * 9 ^ ls.length * 8) (mixL ls ((v : Int) : Rat) j * ((v : Int) : Rat)) := by
      obtain ⟨z, e, b⟩ := ih
      refine ⟨z * (v : Int), by rw [Rat.intCast_mul, e]; grind, ?_⟩
      rw [Int.natAbs_mul, Int.natAbs_natCast]
      exact Nat.mul_le_mul b hv
    refine mv_mono (mv_add h1 hr) ?_
    show _ ≤ B * 9 ^ (ls.length + 1)
    have : B ≤ B * 9 ^ ls.length := Nat.le_mul_of_pos_right _ (Nat.pow_pos (by decide))
    rw [Nat.pow_succ, ← Nat.mul_assoc]
    omega
theorem mixL_fs {N : Nat} (v : Rat) : ∀ {ls : List (List Q2)}, (∀ l ∈ ls, l.length ≤ N) → Fs (mixL ls v) N
  | [], _ => fun _ _ => rfl
  | l :: ls, h => fun j hj => by
    show mixL ls v j * v + rowF l j = 0
    rw [mixL_fs v (fun l hl => h l (List.mem_cons_of_mem _ hl)) j hj, rowF_out (Nat.le_trans (h l List.mem_cons_self) hj)]
    grind
theorem spRes_of {C CP : Addr} {vs : List V} {H : Hp} {Q : VK} {E : XK} (h : ∃ (p q : Addr) (as bs : List Q2) (W1 : Rat), vs = [.ref p, .ref q] ∧ PolyAt C CP H p as ∧ PolyAt C CP H q bs ∧ ((as = [] ∨ bs = []) → W1 = 0) ∧
    (as ≠ [] → bs ≠ [] → ∃ (n m : Nat), as.length = n + 1 ∧ bs.length = m + 1 ∧ n ≤ 5 ∧ m ≤ 5 ∧ n + m ≤ 9 ∧ PSz 22 as ∧ PSz 22 bs ∧ RR n (rowF as) m (rowF bs) W1) ∧ ∀ (H' : Hp) (t : Addr) (u : Q2), Same H H' → RatQ C H' t u → Lo u → rv u = W1 → Q (.ref t) H') : spRes C CP vs H Q E := by
  obtain ⟨p, q, as, bs, W1, e, hp, hq, hz, hn, k⟩ := h
  refine ⟨p, q, as, bs, e, hp, hq, fun z H' t s ht => k H' t q0 s ht lo_q0 (by rw [rv_q0, hz z]), fun za zb => ?_⟩
  obtain ⟨n, m, h1, h2, h3, h4, h5, h6, h7, h8⟩ := hn za zb
  exact ⟨n, m, W1, h1, h2, h3, h4, h5, h6, h7, h8, k⟩
def spPor (C CP : Addr) : Sp := fun vs H Q _ => ∃ (p rl : Addr) (as : List Q2) (ls : List (List Q2)) (v bd n : Nat) (W : Rat), vs = [.ref p, .ref rl, .int v, .int bd] ∧ PolyAt C CP H p as ∧ Tp (PolyAt C CP) H rl ls ∧ as.length = n + 1 ∧ n ≤ 4 ∧ PSz 22 as ∧ ls.length ≤ 3 ∧ v ≤ 8 ∧ bd ≤ 2 ∧
  (∀ l ∈ ls, l.length ≤ bd + 1 ∧ ∀ q ∈ l, Mq 60 900 q) ∧ ((∀ j, mixL ls ((v : Int) : Rat) j = 0) → W = 0) ∧
  (∀ m w, Dg (mixL ls ((v : Int) : Rat)) m → RR n (rowF as) m (mixL ls ((v : Int) : Rat)) w → w * rp (rowF as n) (bd - m) = W ∧ ∃ (M : Int) (B : Nat), 0 < M ∧ M.natAbs < 2 ^ 500 ∧ B < 2 ^ 500 ∧ Mv M B w) ∧
  ∀ (H' : Hp) (t : Addr) (u : Q2), Same H H' → RatQ C H' t u → Lo u → rv u = W → Q (.ref t) H'
section
variable {P : Program} {w : World} {K : PySem.W.Frag} {mg : Str → Option Value} {base : Heap} {C Z CP : Addr}
abbrev nPor : List Str := ["p", "rows", "v", "bound", "value", "row"]
theorem scPor : FnScope nPor ["p", "rows", "v", "bound"] (defScope sPor) := ⟨rfl, rfl, rfl, by decide +kernel, rfl, by decide +kernel, by decide +kernel⟩
theorem ok_por {f fI fSc fR fA fZr fOn fIz fDg fLa fPr fMd fMl fNg fPw fP : Addr} {fd fdI fdSc fdR fdA fdZr fdOn fdIz fdDg fdLa fdPr fdMd fdMl fdNg fdPw fdP : FuncData} {dfs : List Value} (F : Fun K "product_over_roots" "product_over_roots" sPor f fd) (R : TxR K mg C Z) (TP : TxP K mg CP) (M : MkR P w K mg base C Z fI fdI dfs) (MP : MkP P w K mg base C CP fP fdP)
    (L : TxRes P w K mg base C Z CP fZr fOn fIz fDg fLa fPr fMd fMl fNg fPw fP fdZr fdOn fdIz fdDg fdLa fdPr fdMd fdMl fdNg fdPw fdP)
    (mSc : Meth K CP "scaled" fSc) (GSc : FnOk P w K mg base CX0 46 fSc fdSc ["self", "r"] (spPSc C CP)) (bSc : Binds K fdSc ["self", "r"] [])
    (GR : FnOk P w K mg base CX0 48 fR fdR ["p", "q"] (spRes C CP)) (kR : PySem.W.keepIn K (.ref fR) = true) (bR : Binds K fdR ["p", "q"] []) (gR : mg "resultant" = some (.ref fR))
    (OA : OwnM P w K mg base C CP "__add__" (spPAdd C CP) ["self", "other"] fA fdA) : FnOk P w K mg base CX0 49 f fd ["p", "rows", "v", "bound"] (spPor C CP) := by
  refine F.ok scPor (fun vs H Q E h => ?_) (fun cdv A outer s H vs Q E hr h => ?_)
  · obtain ⟨p, rl, as, ls, v, bd, n, W, rfl, _⟩ := h
    rfl
  · obtain ⟨p, rl, as, ls, v, bd, n, W, rfl, hp, hl, han, hn4, za, hl3, hv8, hbd, hls, kz, kw, res⟩ := h
    have h1 := hr.mono (show 1 ≤ 48 by decide)
    have h2 := hr.mono (show 2 ≤ 48 by decide)
    have h42 := hr.mono (show 42 ≤ 48 by decide)
    have h43 := hr.mono (show 43 ≤ 48 by decide)
    have h44 := hr.mono (show 44 ≤ 48 by decide)
    have h46 := hr.mono (show 46 ≤ 48 by decide)
    refine ⟨_, (pss_cons (ps_set (i := 4) scPor.nd rfl (Or.inl rfl) (pe_make MP.cm MP.fn h44 (by rfl) TP.mgP MP.b .nil pass0 (pa_cons (pe_tup pa_nil) pa_nil)))
      (pss_cons (ps_for PassesOwn.never rfl (pi_tup (pe_back (pv 1) (pe_un un_neg pe_int))) (pg_name (i := 5) scPor.nd rfl (Or.inl rfl)) (pss_one (ps_set (i := 4) scPor.nd rfl (Or.inl rfl) (pe_op (op_binO (E := E0) (m := "__add__") (by rfl) ⟨OA.fn, OA.at_, OA.isf, OA.b, pass0, OA.first⟩ h46) (pe_meth (pv 4) TP.cl mSc GSc h46 bSc .nil pass0 (pa_cons (pe_make M.cm M.fn h42 (by rfl) R.mgC M.b1 M.v1 passL (pa_cons (pv 2) pa_nil)) pa_nil)) (pv 5)))))
      (pss_one (ps_ret (pe_op (op_binO (E := E0) (m := "__mul__") (by rfl) ⟨L.oMl.fn, L.oMl.at_, L.oMl.isf, L.oMl.b, pass0, L.oMl.first⟩ h43) (pe_call GR hr (by rfl) gR kR bR .nil pass0 (pa_cons (pv 0) (pa_cons (pv 4) pa_nil))) (pe_meth (pe_meth0 (E := E0) (pv 0) TP.cl L.mLa L.fnLa h2 L.bLa .nil passL) R.cl L.mPw L.fnPw h43 L.bPw .nil pass0 (pa_cons (pe_op op_sub (pv 3) (pe_meth0 (pv 4) TP.cl L.mDg L.fnDg h1 L.bDg .nil pass0)) pa_nil))))))), ?_⟩
    obtain ⟨pl, el, ql⟩ := id hl
    have alen := ql.length
    refine ⟨(by show 0 ≤ sizeLine; decide), fun T0 hT0 => ?_⟩
    have sT0 := same_upd (o := .tup []) hT0
    intro x dx nx nd ne
    refine mkP_ok2 (qs := []) (k := 1) (.inr upd_same) .nil ⟨fun q h => absurd h (by simp), by decide, 1, by decide, by decide, fun q h => absurd h (by simp)⟩ (by decide) nx nd ne fun H6 h6 s6 => ?_
    rw [show trimQ ([] : List Q2) = [] from rfl] at h6
    have s56 := sT0.trans s6
    have el6 := s56 _ _ el
    have ql6 : Paired (PolyAt C CP H6) pl ls := Paired.imp (fun _ _ f => (PolyAt.stb C CP).same s56 f) ql
    refine ⟨rfl, _, rfl, rl, _, rfl, SqT.of el6, fun a ha0 => ?_⟩
    have sa := same_upd (o := .tup (pl.map V.ref).reverse) ha0
    have nlen : ((pl.map V.ref).reverse).length = ls.length := by rw [List.length_reverse, List.length_map, alen]
    refine ⟨_, rfl, ⟨_, SqT.of upd_same⟩, for_it (walk_tup (K := K) (a := a) (xs := (pl.map V.ref).reverse))
      (fun i σ H7 => ∃ (x : Addr) (bs : List Q2) (v5 : Option V), σ = [some (.ref p), some (.ref rl), some (.int v), some (.int bd), some (.ref x), v5] ∧ Same (upd H6 a (.tup (pl.map V.ref).reverse)) H7 ∧ PolyAt C CP H7 x bs ∧ (∀ q ∈ bs, Lo q) ∧ bs.length ≤ bd + 1 ∧ rowF bs = mixL (ls.drop (ls.length - i)) ((v : Int) : Rat))
      ⟨x, [], none, rfl, same_rfl, (PolyAt.stb C CP).same sa h6, fun q h => absurd h (by simp), Nat.zero_le _, by
        rw [Nat.sub_zero, List.drop_length]
        exact funext fun j => rowF_nil j⟩ (fun i σ H7 _ ⟨x, bs, v5, _, s7, _⟩ => SqT.of (s7 _ _ upd_same)) ?_ ?_⟩
    · rintro i y σ H7 H8 hi ⟨x, bs, v5, rfl, s7, hx, blo, bl, br⟩ ⟨rfl, hy⟩
      rw [nlen] at hi
      obtain ⟨k, hk⟩ : ∃ k, ls.length = i + (k + 1) := ⟨ls.length - 1 - i, by omega⟩
      have ekk : ls.length - 1 - i = k := by omega
      obtain ⟨l, hlk⟩ : ∃ l, ls[k]? = some l := ⟨_, List.getElem?_eq_getElem (by omega)⟩
      obtain ⟨pk, hpk, hrk⟩ := Paired.at2 ql6 hlk
      have ey : y = V.ref pk := by
        rw [List.getElem?_reverse (by rw [List.length_map, alen]; exact hi), List.length_map, alen, ekk, List.getElem?_map, hpk] at hy
        exact (Option.some.inj hy).symm
      subst ey
      have dk : ls.drop k = l :: ls.drop (k + 1) := by
        rw [List.drop_eq_getElem_cons (by omega)]
        rw [List.getElem?_eq_getElem (by omega)] at hlk
        rw [Option.some.inj hlk]
      have lmem : l ∈ ls := List.mem_of_getElem? hlk
      have hsub : ∀ m, ∀ l ∈ ls.drop m, ∀ q ∈ l, Mq 60 900 q := fun m l hl => (hls l (List.mem_of_mem_drop hl)).2
      have psz_mix : ∀ (m : Nat) (cs : List Q2), (∀ q ∈ cs, Lo q) → cs.length ≤ 50 → rowF cs = mixL (ls.drop m) ((v : Int) : Rat) → PSz 22 cs := fun m cs clo cl cr => by
        have hm := mq_rows clo (M := 60) (B := 900 * 9 ^ 3) fun j => by
          rw [cr]
          refine mv_mono (mixL_mv hv8 (hsub m) j) (Nat.mul_le_mul_left _ (Nat.pow_le_pow_right (by decide) ?_))
          rw [List.length_drop]
          omega
        exact mq_psz (by decide) hm (by decide) (by decide) (by omega)
      have pbs : PSz 22 bs := psz_mix _ bs blo (by omega) br
      have hl2 := hls l lmem
      have pln : PSz 22 l := mq_psz (M := 60) (by decide) hl2.2 (by decide) (by decide) (by omega)
      have hrk7 := (PolyAt.stb C CP).same (sa.trans s7) hrk
      have lov : Lo ((v : Int), (1 : Int)) := ⟨by show (0 : Int) < 1; decide, by show Nat.gcd (v : Int).natAbs 1 = 1; exact Nat.gcd_one_right _⟩
      have emk : mkq (v : Int) 1 = ((v : Int), (1 : Int)) := mkq_lo (q := ((v : Int), (1 : Int))) lov
      obtain ⟨ex1, _, _, ex2, _⟩ := id hx
      refine ⟨_, rfl, x, ex1, _, rfl, ex2, by rfl, _, rfl, ?_⟩
      intro u du nu ndu neu
      refine ⟨u, du, _, _, rfl, upd_same, fun z => absurd z (by decide), fun _ H9 hu ku => ⟨rfl, ?_⟩⟩
      have s79 := Same.made nu ndu ku
      have hu : RatQ C H9 u ((v : Int), (1 : Int)) := by
        have hu' : RatQ C H9 u (mkq (v : Int) 1) := hu
        rw [emk] at hu'
        exact hu'
      have bv : intBits (v : Int) ≤ 10 := PySem.intBits_le_iff.mpr (by omega)
      refine ⟨x, u, bs, _, 22, 10, rfl, (PolyAt.stb C CP).same s79 hx, hu, lov, pbs, bv, (by show intBits 1 ≤ 10; decide), by decide, fun H10 t10 gs s10 ht10 pgs lgs rgs => ?_⟩
      have s710 := s79.trans s10
      obtain ⟨ey1, _, _, ey2, _⟩ := id ht10
      have hrk10 := (PolyAt.stb C CP).same s710 hrk7
      obtain ⟨ez1, _, _, ez2, _⟩ := id hrk10
      refine ⟨_, rfl, t10, ey1, _, pk, ez1, _, rfl, rfl, ey2, ez2, t10, pk, gs, l, 32, rfl, ht10, hrk10, pgs, psz_mono pln (by decide), by decide, fun H11 t11 cs s11 ht11 pcs lcs rcs => ?_⟩
      refine ⟨t11, cs, _, rfl, s7.trans (s710.trans s11), ht11, pcs.1, by omega, ?_⟩
      rw [show ls.length - (i + 1) = k by omega, dk]
      funext j
      rw [rcs j]
      show rowF gs j + rowF l j = mixL (ls.drop (k + 1)) ((v : Int) : Rat) j * ((v : Int) : Rat) + rowF l j
      rw [rgs j, br, show ls.length - i = k + 1 by omega]
      have : rv ((v : Int), (1 : Int)) = ((v : Int) : Rat) := by
        show ((v : Int) : Rat) / ((1 : Int) : Rat) = _
        grind
      rw [this]
    · rintro σ H7 ⟨x, bs, v5, rfl, s7, hx, blo, bl, br⟩
      rw [nlen, Nat.sub_self, List.drop_zero] at br
      have s67 := sa.trans s7
      have hp7 := (PolyAt.stb C CP).same (s56.trans s67) hp
      have tas := hp7.trim
      have dga : Dg (rowF as) n := dg_row tas za.1 han
      have asn : as ≠ [] := fun e => by rw [e] at han; cases han
      have pbs : PSz 22 bs := by
        have hm := mq_rows blo (M := 60) (B := 900 * 9 ^ 3) fun j => by
          rw [br]
          exact mv_mono (mixL_mv hv8 (fun l hl => (hls l hl).2) j) (Nat.mul_le_mul_left _ (Nat.pow_le_pow_right (by decide) hl3))
        exact mq_psz (by decide) hm (by decide) (by decide) (by omega)
      obtain ⟨ql2, hql, hqd, hqm⟩ := at_d (qs := as) (j := n) (by omega)
      have elast : as.getLast? = some ql2 := by rw [List.getLast?_eq_getElem?, han]; exact hql
      have lql := za.1 ql2 hqm
      have bql := psz_bq za hqm
      have etop : rowF as n = rv ql2 := by
        unfold rowF
        rw [hqd]
      obtain ⟨ex1, _, _, ex2, _⟩ := id hx
      obtain ⟨ep1, _, _, ep2, _⟩ := id hp7
      -- the resultant's value, and the exponent
      have key : ∃ (W1 : Rat) (e : Nat), e ≤ 8 ∧ (bd : Int) - ((bs.length : Int) - 1) = (e : Int) ∧ W1 * rp (rowF as n) e = W ∧ (∃ (M : Int) (B : Nat), 0 < M ∧ M.natAbs < 2 ^ 500 ∧ B < 2 ^ 500 ∧ Mv M B W1) ∧ (bs = [] → W1 = 0) ∧
          (bs ≠ [] → ∃ (n' m : Nat), as.length = n' + 1 ∧ bs.length = m + 1 ∧ n' ≤ 5 ∧ m ≤ 5 ∧ n' + m ≤ 9 ∧ PSz 22 as ∧ PSz 22 bs ∧ RR n' (rowF as) m (rowF bs) W1) := by
        by_cases cb : bs = []
        · have e0 : W = 0 := kz fun j => by
            rw [← br, cb, rowF_nil]
          refine ⟨0, bd + 1, by omega, by rw [cb]; show (bd : Int) - ((0 : Int) - 1) = _; omega, by rw [e0]; grind, ⟨1, 1, by decide, by decide, by decide, mv_zero _ _⟩, fun _ => rfl, fun z => absurd cb z⟩
        · obtain ⟨m, hm⟩ : ∃ m, bs.length = m + 1 := ⟨bs.length - 1, by have : bs.length ≠ 0 := fun z => cb (List.length_eq_zero_iff.mp z); omega⟩
          have dgb : Dg (rowF bs) m := dg_row hx.trim pbs.1 hm
          obtain ⟨w1, hw1⟩ := RR.ex m n (rowF as) _ dga dgb
          obtain ⟨e1, e2⟩ := kw m w1 (by rw [← br]; exact dgb) (by rw [← br]; exact hw1)
          exact ⟨w1, bd - m, by omega, by omega, e1, e2, fun z => absurd z cb, fun _ => ⟨n, m, han, hm, by omega, by omega, by omega, za, pbs, hw1⟩⟩
      obtain ⟨W1, e, he8, hexp, hW, ⟨M1, B1, m0, mM, mB, mv⟩, hz1, hn1⟩ := key
      refine ⟨_, rfl, _, rfl, ?_⟩
      unfold tNil
      show spRes C CP [.ref p, .ref x] H7 _ _
      refine spRes_of ⟨p, x, as, bs, W1, rfl, hp7, hx, fun z => z.elim (fun z => absurd z asn) hz1, fun _ => hn1, fun H8 t u s8 ht lu hu => ?_⟩
      have hp8 := (PolyAt.stb C CP).same s8 hp7
      have hx8 := (PolyAt.stb C CP).same s8 hx
      have ep8 := s8 _ _ ep2
      have ex8 := s8 _ _ ex2
      have mqu : Mq M1 B1 u := ⟨lu, by rw [hu]; exact mv⟩
      have bu : Bq 500 u := mq_bq m0 mqu mB mM
      refine ⟨_, rfl, p, ep1, _, rfl, ep8, by rfl, p, as, rfl, hp8, fun e => absurd e asn, fun r q1 hq1 hr1 => ?_⟩
      have eq1 : q1 = ql2 := by
        rw [elast] at hq1
        exact (Option.some.inj hq1).symm
      subst eq1
      obtain ⟨dr, er⟩ := id hr1
      refine ⟨r, dr, _, rfl, er, rf_no _ _ (by decide +kernel) (by decide +kernel), _, rfl, _, rfl, x, ex1, _, rfl, ex8, by rfl, x, bs, rfl, hx8, _, _, rfl, rfl, r, q1, e, congrArg (fun z => [V.ref r, V.int z]) hexp, he8, hr1, lql, bql.mono (by decide), fun H9 t9 s9 ht9 => ?_⟩
      obtain ⟨dt, et⟩ := ht.same s9
      obtain ⟨d9, e9⟩ := id ht9
      have be : 22 * e ≤ 176 := by omega
      refine ⟨t, dt, _, t9, d9, _, rfl, rfl, et, e9, t, t9, u, _, rfl, ht.same s9, ht9, lu, lo_powq lql e, bu.bg (by decide), (bq_powq bql e).bg (by omega), fun H10 t10 s10 ht10 => ?_⟩
      refine res H10 t10 _ ((((s56.trans s67).trans s8).trans s9).trans s10) ht10 (lo_mul lu.ne (lo_powq lql e).ne) ?_
      rw [rv_mul lu.ne (lo_powq lql e).ne, hu, rv_powq lql, ← etop, hW]

end
end Ind

set_option Elab.async false
set_option linter.all false
set_option maxRecDepth 100000
set_option maxHeartbeats 4000000
set_option exponentiation.threshold 9000
namespace Ind
open PySem PySem.Spec PyProof.Rows L2
open Builtin.Int (intBits)
abbrev sRiv : Stmt := top 28
/-- what the top says of Malformed -/
structure TxMF (K : PySem.W.Frag) (mg : Str → Option Value) (M : Addr) : Prop where
  x : PySem.W.excIn K M [.type "ValueError", .type "Exception", .type "BaseException", .type "object"] "ValueError.__new__" = true
  g : mg "Malformed" = some (.ref M)
  k : PySem.W.keepIn K (.ref M) = true
  b : PySem.W.subIn K (.ref M) (.type "BaseException") = some true
  t : PySem.W.typeIn K (.ref M) = some (.type "type")
theorem mixL_take (v : Rat) : ∀ (ls : List (List Q2)) (k : Nat), (∀ j, k ≤ j → ls.getD j [] = []) → mixL (ls.take k) v = mixL ls v
  | [], k, _ => by rw [List.take_nil]
  | l :: ls, 0, h => by
    have h0 : l = [] := h 0 (Nat.le_refl _)
    have ih := mixL_take v ls 0 fun j _ => h (j + 1) (Nat.zero_le _)
    rw [List.take_zero] at ih ⊢
    funext j
    show (0 : Rat) = mixL ls v j * v + rowF l j
    rw [← ih, h0, rowF_nil]
    show (0 : Rat) = 0 * v + 0
    grind
  | l :: ls, k + 1, h => by
    rw [List.take_succ_cons]
    funext j
    show mixL (ls.take k) v j * v + rowF l j = mixL ls v j * v + rowF l j
    rw [mixL_take v ls k fun j hj => h (j + 1) (by omega)]
theorem difN_congr {a b : Nat → Rat} : ∀ (k n : Nat), (∀ j, j ≤ n + k → a j = b j) → difN a k n = difN b k n
  | 0, n, h => h n (by omega)
  | k + 1, n, h => by
    show difN a k (n + 1) - difN a k n = difN b k (n + 1) - difN b k n
    rw [difN_congr k (n + 1) fun j hj => h j (by omega), difN_congr k n fun j hj => h j (by omega)]
theorem nPoly_congr {d e : Nat → Rat} {N : Nat} (h : ∀ k, k < N → d k = e k) : ∀ i, i ≤ N → nPoly d N i = nPoly e N i
  | 0, _ => rfl
  | i + 1, hi => by
    funext j
    show cv (nPoly d N i) _ j + _ = cv (nPoly e N i) _ j + _
    rw [nPoly_congr h i (by omega), h (N - 1 - i) (by omega)]
theorem sla_take {K : PySem.W.Frag} {a : Addr} {xs : List V} {i : Nat} {H : Hp} {Q : VK} (e : H a = some (.tup xs)) (hi : i ≤ xs.length) (k : ∀ (H' : Hp) (b : Addr), Same H H' → H' b = some (.tup (xs.take i)) → Q (.ref b) H') : rSlA K (.ref a) none (some (i : Int)) H Q := by
  have ex : HT.sIx xs.length xs.length (some (i : Int)) = i := by
    unfold HT.sIx
    show (if (i : Int) < 0 then _ else _) = i
    rw [if_neg (by omega)]
    omega
  have e0 : HT.sIx xs.length 0 none = 0 := rfl
  refine ⟨a, xs, rfl, SqT.of e, fun ⟨_, h⟩ => ?_, fun _ p hp => ?_⟩
  · rw [ex] at h
    refine k H a same_rfl ?_
    rw [h, List.take_length]
    exact e
  · have ec : cutV xs none (some (i : Int)) = xs.take i := by
      unfold cutV
      rw [ex, e0, Nat.sub_zero, List.drop_zero]
    rw [ec]
    exact k _ p (same_upd hp) upd_same
theorem choose_to {R : Nat → Rat → Prop} {N : Nat} (h : ∀ v, v ≤ N → ∃ W, R v W) : ∃ a : Nat → Rat, ∀ v, v ≤ N → R v (a v) :=
  ⟨fun v => if c : v ≤ N then Classical.choose (h v c) else 0, fun v c => by
    show R v (if c : v ≤ N then Classical.choose (h v c) else 0)
    rw [dif_pos c]
    exact Classical.choose_spec (h v c)⟩
def spRiv (C CP MF : Addr) : Sp := fun vs H Q E => ∃ (p rl : Addr) (as : List Q2) (ls : List (List Q2)), vs = [.ref p, .ref rl] ∧ PolyAt C CP H p as ∧ Tp (PolyAt C CP) H rl ls ∧ (as.length ≤ 1 → E (.ref MF) none H) ∧
  ∀ n, as.length = n + 1 → 1 ≤ n → n ≤ 4 ∧ PSz 22 as ∧ ls.length ≤ 3 ∧ (∀ l ∈ ls, l.length ≤ 3 ∧ ∀ q ∈ l, Mq 60 900 q) ∧
  ((∀ l ∈ ls, l = []) → ∀ (H' : Hp) (t : Addr), Same H H' → PolyAt C CP H' t [] → Q (.ref t) H') ∧
  ∀ bd, (∀ l ∈ ls, l.length ≤ bd + 1) → (∃ l ∈ ls, l.length = bd + 1) → bd ≤ 2 → ∃ (M : Int) (B : Nat), 0 < M ∧ M.natAbs < 2 ^ 100 ∧ B < 2 ^ 200 ∧ (∀ v : Nat, v ≤ 8 → ∃ W : Rat, Mv M B W ∧ ((∀ j, mixL ls ((v : Int) : Rat) j = 0) → W = 0) ∧
      (∀ m w, Dg (mixL ls ((v : Int) : Rat)) m → RR n (rowF as) m (mixL ls ((v : Int) : Rat)) w → w * rp (rowF as n) (bd - m) = W ∧ ∃ (M : Int) (B : Nat), 0 < M ∧ M.natAbs < 2 ^ 500 ∧ B < 2 ^ 500 ∧ Mv M B w)) ∧
    ∀ (H' : Hp) (t : Addr) (rs : List Q2) (s : Nat) (a : Nat → Rat), Same H H' → PolyAt C CP H' t rs → (∀ q ∈ rs, Lo q ∧ Bq 300 q) → rs.length ≤ 50 → s + 1 ≤ ls.length → (∀ j, s + 1 ≤ j → ls.getD j [] = []) →
      (∀ v : Nat, v ≤ s * n → ∃ W : Rat, a v = W ∧ ((∀ j, mixL ls ((v : Int) : Rat) j = 0) → W = 0) ∧
        (∀ m w, Dg (mixL ls ((v : Int) : Rat)) m → RR n (rowF as) m (mixL ls ((v : Int) : Rat)) w → w * rp (rowF as n) (bd - m) = W)) →
      rowF rs = nPoly (fun k => difN a k 0) (s * n + 1) (s * n + 1) → Q (.ref t) H'
section
variable {P : Program} {w : World} {K : PySem.W.Frag} {mg : Str → Option Value} {base : Heap} {C Z CP MFa : Addr}
abbrev nRiv : List Str := ["p", "rows", "size", "bound", "values", "row", "v"]
theorem scRiv : FnScope nRiv ["p", "rows"] (defScope sRiv) := ⟨rfl, rfl, rfl, by decide +kernel, rfl, by decide +kernel, by decide +kernel⟩
theorem ok_riv {f fO fI fZr fOn fIz fDg fLa fPr fMd fMl fNg fPw fP : Addr} {fd fdO fdI fdZr fdOn fdIz fdDg fdLa fdPr fdMd fdMl fdNg fdPw fdP : FuncData} (F : Fun K "resultant_in_v" "resultant_in_v" sRiv f fd) (T : TxL K mg) (TP : TxP K mg CP) (MF : TxMF K mg MFa) (hmax : mg "max" = none) (MP : MkP P w K mg base C CP fP fdP)
    (L : TxRes P w K mg base C Z CP fZr fOn fIz fDg fLa fPr fMd fMl fNg fPw fP fdZr fdOn fdIz fdDg fdLa fdPr fdMd fdMl fdNg fdPw fdP)
    (GO : FnOk P w K mg base CX0 49 fO fdO ["p", "rows", "v", "bound"] (spPor C CP)) (kO : PySem.W.keepIn K (.ref fO) = true) (bO : Binds K fdO ["p", "rows", "v", "bound"] []) (gO : mg "product_over_roots" = some (.ref fO))
    (GI : FnOk P w K mg base CX0 47 fI fdI ["values"] (spInt C CP)) (kI : PySem.W.keepIn K (.ref fI) = true) (bI : Binds K fdI ["values"] []) (gI : mg "interpolated" = some (.ref fI)) : FnOk P w K mg base (L2.CX P w) 50 f fd ["p", "rows"] (spRiv C CP MFa) := by
  refine F.okX scRiv (fun vs H Q E h => ?_) (fun cdv A outer s H vs Q E hr h => ?_)
  · obtain ⟨p, rl, as, ls, rfl, _⟩ := h
    rfl
  · obtain ⟨p, rl, as, ls, rfl, hp, hl, kM, kN⟩ := h
    have h1 := hr.mono (show 1 ≤ 49 by decide)
    have h44 := hr.mono (show 44 ≤ 49 by decide)
    have h47 := hr.mono (show 47 ≤ 49 by decide)
    refine ⟨_, (pss_cons (ps_if (pt_cmpR op_lt (pe_meth0 (pv 0) TP.cl L.mDg L.fnDg h1 L.bDg .nil pass0) pe_int (nomark _)) (pss_one (ps_raise rfl (takes_of rfl rfl rfl rfl) (pmk_own PySem.F.excBase_ValueError MF.x MF.g MF.k (raises_own MF.b MF.t) rfl))) pss_nil)
      (pss_cons (ps_set (i := 2) scRiv.nd rfl (Or.inr rfl) (pe_callB call_len_seq (by rfl) T.len PySem.boot_len (pa_cons (pv 1) pa_nil)))
      (C8.pss_cut (ps_while (passes_of rfl) (PW.pt (pw_and (pt_cmpR op_gt (pv 2) pe_int (nomark _)) (pw_and1 (pt_val (pe_meth0 (pe_ix ix_tup (pv 1) (pe_op op_sub (pv 2) pe_int) fun _ _ => rfl) TP.cl L.mIz L.fnIz h1 L.bIz .nil pass0))))) (pss_one (ps_set (i := 2) scRiv.nd rfl (Or.inr rfl) (pe_op op_sub (pv 2) pe_int))))
      (pss_cons (ps_if (pt_cmpR op_eq (pv 2) pe_int (nomark _)) (pss_one (ps_ret (pe_make MP.cm MP.fn h44 (by rfl) TP.mgP MP.b .nil pass0 (pa_cons (pe_tup pa_nil) pa_nil)))) pss_nil)
      (pss_cons (ps_set (i := 3) scRiv.nd rfl (Or.inr rfl) (pe_callB (cr_max rfl) (by rfl) hmax boot_max (pa_cons (pe_lc (own := [("row", 5)]) (g := gName 5) (tt := tYes) (te := tMeth CP "degree" (spPDg C CP) [] E0 (tVar 5) tNil) rfl scRiv.nd (pi_tup (pv 1)) (blkOk_by (N := nRiv) (sc := defScope sRiv) (by decide +kernel)) (fun _ _ _ _ _ => pg_name (i := 5) scRiv.nd rfl (Or.inl rfl)) (fun _ _ _ _ _ => pts_nil) (fun _ _ _ _ _ => (pe_meth0 (pv 5) TP.cl L.mDg L.fnDg h1 L.bDg .nil pass0))) pa_nil)))
      (pss_cons (ps_setLc (i := 4) (own := [("v", 6)]) (g := gName 6) (tt := tYes) (te := tCall (spPor C CP) [] E0 (tCons (tVar 0) (tCons (tSl (rSlA K) (tVar 1) tNoPart (tPart (tVar 2))) (tCons (tVar 6) (tCons (tVar 3) tNil))))) rfl scRiv.nd rfl rfl rfl (pi_range1 (by rfl) T.range (pa_cons (pe_op op_add (pe_op op_mulB (pe_op op_sub (pv 2) pe_int) (pe_meth0 (pv 0) TP.cl L.mDg L.fnDg h1 L.bDg .nil pass0)) pe_int) pa_nil)) (blkOk_by (N := nRiv) (sc := defScope sRiv) (by decide +kernel)) (fun _ _ _ _ _ => pg_name (i := 6) scRiv.nd rfl (Or.inl rfl)) (fun _ _ _ _ _ => pts_nil) (fun _ _ _ _ _ => (pe_call GO hr (by rfl) gO kO bO .nil pass0 (pa_cons (pv 0) (pa_cons (pe_slice sl_tupA (pv 1) po_none (po_some (pv 2))) (pa_cons (pv 6) (pa_cons (pv 3) pa_nil)))))))
      (pss_one (ps_ret (pe_call GI h47 (by rfl) gI kI bI .nil pass0 (pa_cons (pv 4) pa_nil)))))))))), ?_⟩
    obtain ⟨dp, _, _, ep, _⟩ := id hp
    obtain ⟨pl, el, ql⟩ := id hl
    have alen := ql.length
    have elN : pl.length ≤ 1000 ∨ True := .inr trivial
    refine ⟨_, rfl, p, dp, _, rfl, ep, by rfl, p, as, rfl, hp, _, _, rfl, rfl, _, rfl, ite2 (fun c0 => ?_) (fun c0 => ?_)⟩
    · exact kM (by have := of_decide_eq_true c0; omega)
    have c0 : ¬ ((as.length : Int) - 1 < 1) := fun z => c0 (decide_eq_true z)
    obtain ⟨n, han⟩ : ∃ n, as.length = n + 1 := ⟨as.length - 1, by omega⟩
    have hn1 : 1 ≤ n := by omega
    obtain ⟨hn4, za, hl3, hls, kz, kN⟩ := kN n han hn1
    refine ⟨_, rfl, rl, _, rfl, .inr (SqT.of el), ?_⟩
    rw [List.length_map, alen]
    refine ⟨fun σ' H' => H' = H ∧ ∃ i : Nat, σ' = [some (.ref p), some (.ref rl), some (.int (i : Int)), none, none, none, none] ∧ i ≤ ls.length ∧ (∀ j, i ≤ j → ls.getD j [] = []) ∧ (i ≠ 0 → ∃ l ∈ ls, l ≠ []), ?_, ?_⟩
    · refine while_by (fun σ' H' => H' = H ∧ ∃ i : Nat, σ' = [some (.ref p), some (.ref rl), some (.int (i : Int)), none, none, none, none] ∧ i ≤ ls.length ∧ ∀ j, i ≤ j → ls.getD j [] = []) (fun σ _ => match σ[2]? with | some (some (V.int y)) => y.toNat | _ => 0) ⟨rfl, ls.length, rfl, Nat.le_refl _, fun j hj => by rw [List.getD_eq_getElem?_getD, List.getElem?_eq_none hj]; rfl⟩ ?_ ?_
      · rintro σ H' ⟨rfl, i, rfl, hi, hz⟩
        refine ⟨_, rfl, _, _, rfl, rfl, _, rfl, ?_⟩
        rcases Nat.eq_zero_or_pos i with e | hpos
        · subst e
          rw [show decide ((0 : Int) < (((0 : Nat)) : Int)) = false from by decide]
          exact iteF (iteF ⟨rfl, 0, rfl, hi, hz, fun z => absurd rfl z⟩)
        · obtain ⟨m, rfl⟩ : ∃ m, i = m + 1 := ⟨i - 1, by omega⟩
          obtain ⟨l, hlm⟩ : ∃ l, ls[m]? = some l := ⟨_, List.getElem?_eq_getElem (by omega)⟩
          have em : ls.getD m [] = l := by
            rw [List.getD_eq_getElem?_getD, hlm]
            rfl
          obtain ⟨a, ha, hpa⟩ := Paired.at2 ql hlm
          obtain ⟨da, _, _, ea, _⟩ := id hpa
          have e1 : ((m + 1 : Nat) : Int) - 1 = (m : Int) := by omega
          rw [show decide ((0 : Int) < ((m + 1 : Nat) : Int)) = true from decide_eq_true (by omega)]
          refine iteT ⟨_, rfl, _, rfl, _, _, rfl, rfl, rl, _, _, V.ref a, rfl, rfl, SqT.of el, (by rw [e1]; exact atI_of (ref_at ha)), a, da, _, rfl, ea, by rfl, a, l, rfl, hpa, _, rfl, ite2 (fun c => ?_) (fun c => ?_)⟩
          · have hm0 : l = [] := List.length_eq_zero_iff.mp (of_decide_eq_true c)
            refine ⟨_, rfl, _, _, rfl, rfl, ⟨rfl, m, ?_, by omega, fun j hj => ?_⟩, ?_⟩
            · rw [← e1]
              rfl
            · by_cases e : j = m
              · rw [e, em, hm0]
              · exact hz j (by omega)
            · show (((m + 1 : Nat) : Int) - 1).toNat < ((m + 1 : Nat) : Int).toNat
              omega
          · exact ⟨rfl, m + 1, rfl, hi, hz, fun _ => ⟨l, List.mem_of_getElem? hlm, fun e => c (decide_eq_true (by rw [e]; rfl))⟩⟩
      · rintro σ H' R R' hR ⟨v, e1, i, j, e2, e3, c, e4, h⟩
        refine ⟨v, e1, i, j, e2, e3, c, e4, ?_⟩
        cases c with
        | false => exact hR _ _ h
        | true =>
          obtain ⟨a0, a1, b0, b1, i1, j1, d1, d2, p2, x2, i2, u2, g1, g2, g3, g4, a3, dx3, fs3, k1, k2, k3, p4, as4, k4, k5, c2, z2, h2⟩ := h
          exact ⟨a0, a1, b0, b1, i1, j1, d1, d2, p2, x2, i2, u2, g1, g2, g3, g4, a3, dx3, fs3, k1, k2, k3, p4, as4, k4, k5, c2, z2, hR _ _ h2⟩
    rintro σ' H' ⟨rfl, i, rfl, hi, hz, hex⟩
    refine ⟨_, rfl, rfl, _, rfl, ite2 (fun c => ?_) (fun c => ?_)⟩
    · -- only zeros
      have i0 : i = 0 := by
        have := V.int.inj (of_decide_eq_true c)
        omega
      subst i0
      have allz : ∀ l ∈ ls, l = [] := fun l hl => by
        obtain ⟨j, hj, e⟩ := List.getElem_of_mem hl
        have := hz j (Nat.zero_le _)
        rw [List.getD_eq_getElem?_getD, List.getElem?_eq_getElem hj, e] at this
        exact this
      refine ⟨(by show 0 ≤ sizeLine; decide), fun T0 hT0 => ?_⟩
      have sT0 := same_upd (o := .tup []) hT0
      intro x dx nx nd ne
      refine mkP_ok2 (qs := []) (k := 1) (.inr upd_same) .nil ⟨fun q h => absurd h (by simp), by decide, 1, by decide, by decide, fun q h => absurd h (by simp)⟩ (by decide) nx nd ne fun H6 h6 s6 => ⟨rfl, ?_⟩
      exact kz allz H6 x (sT0.trans s6) h6
    have i0 : i ≠ 0 := fun e => c (decide_eq_true (by rw [e]; rfl))
    obtain ⟨s0, rfl⟩ : ∃ s0, i = s0 + 1 := ⟨i - 1, by omega⟩
    obtain ⟨l0, hl0, hl0n⟩ := hex i0
    refine ⟨_, rfl, rl, rfl, ⟨_, SqT.of el⟩, fun D hD => lc_tup (K := K) (a := rl) (xs := pl.map V.ref) (fun i H2 => ColI D H' H2 ((ls.take i).map fun l => (l.length : Int) - 1)) (ColI.start hD) (fun i H2 _ z => .of (z.s _ _ el)) ?_ ?_⟩
    · rintro i y H2 hy z
      obtain ⟨l, hlm⟩ : ∃ l, ls[i]? = some l := by
        obtain ⟨hi1, _⟩ := List.getElem?_eq_some_iff.mp hy
        rw [List.length_map, alen] at hi1
        exact ⟨_, List.getElem?_eq_getElem hi1⟩
      have hil := (List.getElem?_eq_some_iff.mp hlm).1
      obtain ⟨a, ha, hpa⟩ := Paired.at2 ql hlm
      rw [ref_at ha] at hy
      have hy := Option.some.inj hy
      subst hy
      have hpa2 := (PolyAt.stb C CP).same z.s hpa
      obtain ⟨da, _, _, ea, _⟩ := id hpa2
      refine ⟨rfl, _, rfl, a, da, _, rfl, ea, by rfl, a, l, rfl, hpa2, ?_⟩
      rw [show (ls.take (i + 1)).map (fun l => (l.length : Int) - 1) = (ls.take i).map (fun l => (l.length : Int) - 1) ++ [(l.length : Int) - 1] by rw [take_snoc hlm, List.map_append]; rfl]
      refine z.push hD same_rfl ?_
      rw [List.length_map, List.length_take]
      omega
    rintro H2 z
    rw [List.length_map, alen, show ls.take ls.length = ls from List.take_length] at z
    refine ⟨D, _, rfl, SqL.of z.at_, (by rw [List.length_map]; omega), fun bdI hbm hbx => ?_⟩
    obtain ⟨l1, hl1, el1⟩ := List.mem_map.mp hbm
    have l1ge := hbx _ (List.mem_map.mpr ⟨l0, hl0, rfl⟩)
    have l0p : 0 < l0.length := List.length_pos_iff.mpr hl0n
    obtain ⟨bd, hbd⟩ : ∃ bd : Nat, l1.length = bd + 1 := ⟨l1.length - 1, by omega⟩
    have ebd : bdI = (bd : Int) := by rw [← el1, hbd]; omega
    subst ebd
    have hall : ∀ l ∈ ls, l.length ≤ bd + 1 := fun l hl => by
      have := hbx _ (List.mem_map.mpr ⟨l, hl, rfl⟩)
      omega
    have hbd2 : bd ≤ 2 := by have := (hls l1 hl1).1; omega
    obtain ⟨M, B, m0, mM, mB, hW, res⟩ := kN bd hall ⟨l1, hl1, hbd⟩ hbd2
    have hp2 := (PolyAt.stb C CP).same z.s hp
    obtain ⟨dp2, _, _, ep2, _⟩ := id hp2
    obtain ⟨a, ha⟩ := choose_to hW
    have s0n : s0 * n ≤ 2 * 4 := Nat.mul_le_mul (by omega) hn4
    have es : ((s0 + 1 : Nat) : Int) - 1 = (s0 : Int) := by omega
    have ed : (as.length : Int) - 1 = (n : Int) := by omega
    have emul : (((s0 + 1 : Nat) : Int) - 1) * ((as.length : Int) - 1) + 1 = ((s0 * n + 1 : Nat) : Int) := by
      rw [es, ed, Int.natCast_add, Int.natCast_mul]
      rfl
    refine ⟨_, rfl, _, _, rfl, rfl, _, rfl, p, dp2, _, rfl, ep2, by rfl, p, as, rfl, hp2, _, _, rfl, rfl, ?_, _, _, rfl, rfl, _, rfl, ?_, ?_, fun G hG => ?_⟩
    · have b1 : intBits (((s0 + 1 : Nat) : Int) - 1) ≤ 10 := PySem.intBits_le_iff.mpr (by omega)
      have b2 : intBits ((as.length : Int) - 1) ≤ 10 := PySem.intBits_le_iff.mpr (by omega)
      show intBits (((s0 + 1 : Nat) : Int) - 1) + intBits ((as.length : Int) - 1) ≤ 134217728
      omega
    · rw [emul]; omega
    · rw [emul]; omega
    rw [emul, Int.toNat_natCast]
    have hl2 : Tp (PolyAt C CP) H2 rl ls := Tp.stb (PolyAt.stb C CP) H' H2 rl ls (fun b o e _ => z.s b o e) hl
    have el2 := z.s _ _ el
    refine lc_range (lo := 0) (n := s0 * n + 1) (fun t H7 => ∃ zs, Col (RatQ C) G H2 H7 zs ∧ zs.length = t ∧ (∀ q ∈ zs, Mq M B q) ∧ ∀ j, j < t → rowF zs j = a j) ⟨[], Col.start hG, rfl, fun q h => absurd h (by simp), fun j h => absurd h (Nat.not_lt_zero _)⟩ ?_ ?_
    · rintro t H7 ht ⟨zs, z7, zl, zm, zr⟩
      have et : (0 : Int) + (t : Int) = (t : Int) := by omega
      rw [et]
      obtain ⟨hm, hz0, hw0⟩ := ha t (by omega)
      refine ⟨rfl, _, rfl, _, rfl, _, rfl, _, rfl, ?_⟩
      refine sla_take (K := K) (z7.s _ _ el2) (by rw [List.length_map, alen]; omega) fun H8 b s8 hb => ⟨_, rfl, _, rfl, ?_⟩
      have s28 := z7.s.trans s8
      have tk : Tp (PolyAt C CP) H8 b (ls.take (s0 + 1)) := by
        refine ⟨pl.take (s0 + 1), ?_, paired_take (Paired.imp (fun _ _ f => (PolyAt.stb C CP).same (z.s.trans s28) f) ql) _⟩
        rw [hb, List.map_take]
      have em : mixL (ls.take (s0 + 1)) ((t : Int) : Rat) = mixL ls ((t : Int) : Rat) := mixL_take _ ls (s0 + 1) hz
      refine ⟨p, b, as, ls.take (s0 + 1), t, bd, n, a t, rfl, (PolyAt.stb C CP).same s28 hp2, tk, han, hn4, za, by rw [List.length_take]; omega, by omega, hbd2, fun l hl => ⟨hall l (List.mem_of_mem_take hl), (hls l (List.mem_of_mem_take hl)).2⟩, by rw [em]; exact hz0, by rw [em]; exact hw0, fun H9 u q s9 hu lq rq => ?_⟩
      obtain ⟨acc, f1, f2, f3⟩ := z7.push ((RatQ.stb C).x G) hG (s8.trans s9) hu (by omega)
      refine ⟨acc, f1, f2, _, f3, by rw [List.length_append, zl]; rfl, fun q1 hq => ?_, fun j hj => ?_⟩
      · rcases List.mem_append.mp hq with h | h
        · exact zm q1 h
        · rw [List.mem_singleton.mp h]
          exact ⟨lq, by rw [rq]; exact hm⟩
      · unfold rowF
        rw [List.getD_eq_getElem?_getD]
        by_cases c : j < t
        · rw [List.getElem?_append_left (by omega)]
          have := zr j c
          unfold rowF at this
          rw [List.getD_eq_getElem?_getD] at this
          exact this
        · have ej : j = t := by omega
          subst ej
          rw [List.getElem?_append_right (by omega), zl, Nat.sub_self]
          exact rq
    rintro H7 ⟨zs, z7, zl, zm, zr⟩
    have hp7 := (PolyAt.stb C CP).same z7.s hp2
    refine ⟨_, rfl, G, zs, M, B, rfl, z7.at_, m0, mM, mB, by omega, zm, fun H8 t rs s8 ht lo8 len8 row8 => ?_⟩
    refine res H8 t rs s0 a ((z.s.trans z7.s).trans s8) ht lo8 len8 hi hz (fun v hv => ⟨a v, rfl, (ha v (by omega)).2.1, fun m w h1 h2 => ((ha v (by omega)).2.2 m w h1 h2).1⟩) ?_
    rw [row8, zl]
    exact nPoly_congr (fun k hk => difN_congr k 0 fun j hj => zr j (by omega)) _ (Nat.le_refl _)

end
end Ind

set_option Elab.async false
set_option linter.all false
set_option maxRecDepth 100000
set_option maxHeartbeats 4000000
set_option exponentiation.threshold 9000
namespace Ind
open PySem PySem.Spec PyProof.Rows L2
open Builtin.Int (intBits)
abbrev sLv : Stmt := top 44
abbrev sLw : Stmt := top 48
abbrev sLd2 : Stmt := top 49
abbrev sRf : Stmt := top 50
theorem val_cons {q : Q2} {qs : List Q2} {c y : Rat} (h : Val (rowF qs) c y) : Val (rowF (q :: qs)) c (y * c + rv q) := by
  have hx : Val (fun j => if j = 1 then 1 else 0) c c := ⟨fun j => if j = 0 then 1 else 0, 1, fun j hj => if_neg (by omega), fun j => by
    rw [d0_one]
    show (if j = 1 then (1 : Rat) else 0) = _
    unfold Lx
    match j with
    | 0 =>
      rw [if_neg (by decide), if_pos rfl, if_pos rfl]
      grind
    | 1 =>
      rw [if_pos rfl, if_neg (by decide), if_neg (by decide)]
      grind
    | j + 2 =>
      rw [if_neg (by omega), if_neg (by omega), if_neg (by omega)]
      grind⟩
  have fx : Fs (fun j => if j = 1 then (1 : Rat) else 0) 2 := fun j hj => if_neg (by omega)
  have h2 := val_add (val_mul fx h hx) (val_cst (rv q) c)
  rw [show rowF (q :: qs) = fun j => cv (rowF qs) (fun j => if j = 1 then (1 : Rat) else 0) j + if j = 0 then rv q else 0 from funext fun j => by
    rw [cv_two fx]
    match j with
    | 0 =>
      rw [rowF_z, if_neg (by decide), if_pos rfl, if_pos rfl]
      grind
    | j + 1 =>
      rw [rowF_s, if_neg (by decide), if_neg (by omega), if_pos rfl, if_neg (by omega), Nat.add_sub_cancel]
      grind]
  exact h2
theorem val_nil (c : Rat) : Val (rowF []) c 0 := ⟨fun _ => 0, 0, fun _ _ => rfl, fun j => by
  rw [cv_zl, rowF_nil]
  split <;> grind⟩
def spLv : Sp := fun vs H Q _ => ∃ (p x : Addr) (as : List Q2) (q : Q2), vs = [.ref p, .ref x] ∧ Tp PairQ H p as ∧ PairQ H x q ∧ Lo q ∧ Bq 5000 q ∧ as.length ≤ 20 ∧ (∀ a ∈ as, Lo a ∧ Bq 5000 a) ∧
  ∀ (H' : Hp) (t : Addr) (u : Q2), Same H H' → PairQ H' t u → Lo u → Bq 250000 u → Val (rowF as) (rv q) (rv u) → Q (.ref t) H'
def spLw : Sp := fun vs H Q _ => ∃ (x : Addr) (q : Q2) (k : Nat), vs = [.ref x, .int k] ∧ PairQ H x q ∧ Lo q ∧ Bq 5000 q ∧ k ≤ 20 ∧
  ∀ (H' : Hp) (t : Addr) (u : Q2), Same H H' → PairQ H' t u → Lo u → Bq 250000 u → rv u = rp (rv q) k → Q (.ref t) H'
def prodR : List Rat → Rat
  | [] => 1
  | y :: ys => y * prodR ys
theorem prodR_snoc (y : Rat) : ∀ ys : List Rat, prodR (ys ++ [y]) = prodR ys * y
  | [] => by
    show y * 1 = 1 * y
    grind
  | z :: ys => by
    show z * prodR (ys ++ [y]) = z * prodR ys * y
    rw [prodR_snoc y ys]
    grind
def spLd2 : Sp := fun vs H Q _ => ∃ (x r p : Addr) (hq : Q2) (cs as : List Q2) (high : Int), vs = [.ref x, .ref r, .ref p, .int high] ∧ PairQ H x hq ∧ Ls PairQ H r cs ∧ Tp PairQ H p as ∧ Lo hq ∧ Bq 5000 hq ∧ cs.length ≤ 10 ∧ (∀ c ∈ cs, Lo c ∧ Bq 5000 c) ∧ as.length ≤ 20 ∧ (∀ a ∈ as, Lo a ∧ Bq 5000 a) ∧
  ((hq.1 = 0 ∨ as = []) → ∀ (H' : Hp) (t : Addr), Same H H' → PairQ H' t q0 → Q (.ref t) H') ∧
  (hq.1 ≠ 0 → as ≠ [] → ∃ k : Nat, high = k ∧ k ≤ 20 ∧ ∀ (H' : Hp) (t : Addr) (u : Q2) (ys : List Rat), Same H H' → PairQ H' t u → Lo u → Paired (fun (c : Q2) y => Val (rowF as) (rv c) y) cs ys → rv u = rp (rv hq) k * prodR ys → Q (.ref t) H')
def spRf (C CP : Addr) : Sp := fun vs H Q _ => ∃ (r : Addr) (ls : List (List Q2)), vs = [.ref r] ∧ Tp (PolyAt C CP) H r ls ∧ ∀ H' : Hp, Same H H' → Q (.bl true) H'
section
variable {P : Program} {w : World} {K : PySem.W.Frag} {mg : Str → Option Value} {base : Heap} {C Z CP MFa : Addr}
abbrev nLv : List Str := ["p", "x", "out", "k"]
theorem scLv : FnScope nLv ["p", "x"] (defScope sLv) := ⟨rfl, rfl, rfl, by decide +kernel, rfl, by decide +kernel, by decide +kernel⟩
theorem ok_lv {f fA fM : Addr} {fd fdA fdM : FuncData} (F : Fun K "_law_value" "_law_value" sLv f fd) (T : TxL K mg)
    (GA : FnOk P w K mg base CX0 42 fA fdA ["a", "b"] spAddQ) (kA : PySem.W.keepIn K (.ref fA) = true) (bA : Binds K fdA ["a", "b"] []) (gA : mg "_law_add" = some (.ref fA))
    (GM : FnOk P w K mg base CX0 42 fM fdM ["a", "b"] spMulQ) (kM : PySem.W.keepIn K (.ref fM) = true) (bM : Binds K fdM ["a", "b"] []) (gM : mg "_law_mul" = some (.ref fM)) : FnOk P w K mg base CX0 43 f fd ["p", "x"] spLv := by
  refine F.ok scLv (fun vs H Q E h => ?_) (fun cdv A outer s H vs Q E hr h => ?_)
  · obtain ⟨p, x, as, q, rfl, _⟩ := h
    rfl
  · obtain ⟨p, x, as, q, rfl, hp, hx, lq, bq, al, ha, k⟩ := h
    refine ⟨_, pss_cons (ps_set (i := 2) scLv.nd rfl (Or.inl rfl) (pe_tup (pa_cons pe_int (pa_cons pe_int pa_nil))))
      (pss_cons (ps_for PassesOwn.never rfl (pi_range1 (by rfl) T.range (pa_cons (pe_callB call_len_seq (by rfl) T.len PySem.boot_len (pa_cons (pv 0) pa_nil)) pa_nil)) (pg_name (i := 3) scLv.nd rfl (Or.inl rfl))
        (pss_one (ps_set (i := 2) scLv.nd rfl (Or.inl rfl) (pe_call GA hr (by rfl) gA kA bA .nil pass0 (pa_cons (pe_call GM hr (by rfl) gM kM bM .nil pass0 (pa_cons (pv 2) (pa_cons (pv 1) pa_nil))) (pa_cons (pe_ix ix_tup (pv 0) (pe_op op_sub (pe_op op_sub (pe_callB call_len_seq (by rfl) T.len PySem.boot_len (pa_cons (pv 0) pa_nil)) pe_int) (pv 3)) fun _ _ => rfl) pa_nil))))))
      (pss_one (ps_ret (pv 2)))), ?_⟩
    obtain ⟨pa, ea, qa⟩ := id hp
    have e1 := qa.length
    have l1 : (pa.map V.ref).length = as.length := by rw [List.length_map, e1]
    refine ⟨(by show 2 ≤ sizeLine; decide), fun t0 ht0 => ?_⟩
    have s0 := same_upd (o := .tup [V.int 0, V.int 1]) ht0
    refine ⟨_, rfl, p, _, rfl, .inr (SqT.of (s0 _ _ ea)), _, rfl, by rw [l1]; omega, by rw [l1]; omega, ?_⟩
    rw [l1, Int.toNat_natCast]
    refine for_it (walk_range (lo := 0) (n := as.length))
      (fun i σ H5 => ∃ (t : Addr) (u : Q2) (v : Option V), σ = [some (.ref p), some (.ref x), some (.ref t), v] ∧ Same H H5 ∧ PairQ H5 t u ∧ Lo u ∧ Bq (1 + i * 10010) u ∧ Val (rowF (as.drop (as.length - i))) (rv q) (rv u))
      ⟨t0, q0, none, rfl, s0, upd_same, lo_q0, ⟨by decide, by decide⟩, by
        rw [Nat.sub_zero, List.drop_length, rv_q0]
        exact val_nil _⟩ (fun i σ H5 _ _ => trivial) ?_ ?_
    · rintro i y σ H0 H5 hi ⟨t, u, v, rfl, s5, ht, lu, bu, hv⟩ yy
      obtain ⟨rfl, ey⟩ := yy
      have ey2 : y = V.int (i : Int) := ey.trans (by show V.int _ = _; rw [Int.zero_add])
      subst ey2
      obtain ⟨j, hj⟩ : ∃ j, as.length = i + (j + 1) := ⟨as.length - 1 - i, by omega⟩
      obtain ⟨a, ha1, _, ha3⟩ := at_d (qs := as) (j := j) (by omega)
      obtain ⟨pj, hpj, hrj⟩ := Paired.at2 qa ha1
      obtain ⟨la, ba⟩ := ha a ha3
      have ebi : 1 + i * 10010 ≤ 200201 := by omega
      refine ⟨_, rfl, _, rfl, t, x, u, q, rfl, ht, PairQ.stb.same s5 hx, lu.ne, lq.ne, bu.bg (by omega), bq.bg (by decide), fun H6 t6 s6 ht6 => ?_⟩
      have lm := lo_mul lu.ne lq.ne
      have bm := bq_mul bu bq
      have s56 := s5.trans s6
      refine ⟨_, rfl, _, rfl, p, _, rfl, .inr (SqT.of (s56 _ _ ea)), _, _, rfl, rfl, _, rfl, _, _, rfl, rfl, p, _, _, V.ref pj, rfl, rfl, SqT.of (s56 _ _ ea), (by rw [l1, show (as.length : Int) - 1 - (i : Int) = ((j : Nat) : Int) by omega]; exact atI_of (ref_at hpj)), ?_⟩
      refine ⟨t6, pj, _, a, rfl, ht6, PairQ.stb.same s56 hrj, lm.ne, la.ne, bm.bg (by omega), ba.bg (by decide), fun H7 t7 s7 ht7 => ?_⟩
      refine ⟨t7, _, _, rfl, s56.trans s7, ht7, lo_add lm.ne la.ne, (bq_add bm ba).mono (by omega), ?_⟩
      rw [show as.length - (i + 1) = j by omega]
      rw [show as.length - i = j + 1 by omega] at hv
      have dj : as.drop j = a :: as.drop (j + 1) := by
        rw [List.drop_eq_getElem_cons (by omega)]
        rw [List.getElem?_eq_getElem (by omega)] at ha1
        rw [Option.some.inj ha1]
      rw [dj, rv_add lm.ne la.ne, rv_mul lu.ne lq.ne]
      exact val_cons hv
    · rintro σ H5 ⟨t, u, v, rfl, s5, ht, lu, bu, hv⟩
      rw [Nat.sub_self, List.drop_zero] at hv
      exact ⟨_, rfl, k H5 t u s5 ht lu (bu.mono (by omega)) hv⟩
abbrev nLw : List Str := ["a", "k", "out", "step"]
theorem scLw : FnScope nLw ["a", "k"] (defScope sLw) := ⟨rfl, rfl, rfl, by decide +kernel, rfl, by decide +kernel, by decide +kernel⟩
theorem ok_lw {f fM : Addr} {fd fdM : FuncData} (F : Fun K "_law_power" "_law_power" sLw f fd) (T : TxL K mg)
    (GM : FnOk P w K mg base CX0 42 fM fdM ["a", "b"] spMulQ) (kM : PySem.W.keepIn K (.ref fM) = true) (bM : Binds K fdM ["a", "b"] []) (gM : mg "_law_mul" = some (.ref fM)) : FnOk P w K mg base CX0 43 f fd ["a", "k"] spLw := by
  refine F.ok scLw (fun vs H Q E h => ?_) (fun cdv A outer s H vs Q E hr h => ?_)
  · obtain ⟨x, q, k, rfl, _⟩ := h
    rfl
  · obtain ⟨x, q, n, rfl, hx, lq, bq, hn, k⟩ := h
    refine ⟨_, pss_cons (ps_set (i := 2) scLw.nd rfl (Or.inl rfl) (pe_tup (pa_cons pe_int (pa_cons pe_int pa_nil))))
      (pss_cons (ps_for PassesOwn.never rfl (pi_range1 (by rfl) T.range (pa_cons (pv 1) pa_nil)) (pg_name (i := 3) scLw.nd rfl (Or.inl rfl))
        (pss_one (ps_set (i := 2) scLw.nd rfl (Or.inl rfl) (pe_call GM hr (by rfl) gM kM bM .nil pass0 (pa_cons (pv 2) (pa_cons (pv 0) pa_nil))))))
      (pss_one (ps_ret (pv 2)))), ?_⟩
    refine ⟨(by show 2 ≤ sizeLine; decide), fun t0 ht0 => ?_⟩
    have s0 := same_upd (o := .tup [V.int 1, V.int 1]) ht0
    refine ⟨_, rfl, _, rfl, by omega, by omega, ?_⟩
    rw [Int.toNat_natCast]
    refine for_it (walk_range (lo := 0) (n := n))
      (fun i σ H5 => ∃ (t : Addr) (u : Q2) (v : Option V), σ = [some (.ref x), some (.int n), some (.ref t), v] ∧ Same H H5 ∧ PairQ H5 t u ∧ Lo u ∧ Bq (1 + i * 10010) u ∧ rv u = rp (rv q) i)
      ⟨t0, (1, 1), none, rfl, s0, upd_same, ⟨by decide, by decide⟩, ⟨by decide, by decide⟩, rv_q1⟩ (fun i σ H5 _ _ => trivial) ?_ ?_
    · rintro i y σ H0 H5 hi ⟨t, u, v, rfl, s5, ht, lu, bu, hv⟩ yy
      obtain ⟨rfl, ey⟩ := yy
      have ebi : 1 + i * 10010 ≤ 200201 := by omega
      refine ⟨_, rfl, _, rfl, t, x, u, q, rfl, ht, PairQ.stb.same s5 hx, lu.ne, lq.ne, bu.bg (by omega), bq.bg (by decide), fun H6 t6 s6 ht6 => ?_⟩
      refine ⟨t6, _, _, rfl, s5.trans s6, ht6, lo_mul lu.ne lq.ne, (bq_mul bu bq).mono (by omega), ?_⟩
      rw [rv_mul lu.ne lq.ne, hv]
      rfl
    · rintro σ H5 ⟨t, u, v, rfl, s5, ht, lu, bu, hv⟩
      exact ⟨_, rfl, k H5 t u s5 ht lu (bu.mono (by omega)) hv⟩
abbrev nLd2 : List Str := ["head", "roots", "q", "high", "out", "c"]
theorem scLd2 : FnScope nLd2 ["head", "roots", "q", "high"] (defScope sLd2) := ⟨rfl, rfl, rfl, by decide +kernel, rfl, by decide +kernel, by decide +kernel⟩
theorem ok_ld2 {f fM fV fW : Addr} {fd fdM fdV fdW : FuncData} (F : Fun K "_law_due" "_law_due" sLd2 f fd) (T : TxL K mg)
    (GM : FnOk P w K mg base CX0 42 fM fdM ["a", "b"] spMulQ) (kM : PySem.W.keepIn K (.ref fM) = true) (bM : Binds K fdM ["a", "b"] []) (gM : mg "_law_mul" = some (.ref fM))
    (GV : FnOk P w K mg base CX0 43 fV fdV ["p", "x"] spLv) (kV : PySem.W.keepIn K (.ref fV) = true) (bV : Binds K fdV ["p", "x"] []) (gV : mg "_law_value" = some (.ref fV))
    (GW : FnOk P w K mg base CX0 43 fW fdW ["a", "k"] spLw) (kW : PySem.W.keepIn K (.ref fW) = true) (bW : Binds K fdW ["a", "k"] []) (gW : mg "_law_power" = some (.ref fW)) : FnOk P w K mg base CX0 44 f fd ["head", "roots", "q", "high"] spLd2 := by
  refine F.ok scLd2 (fun vs H Q E h => ?_) (fun cdv A outer s H vs Q E hr h => ?_)
  · obtain ⟨x, r, p, hq, cs, as, high, rfl, _⟩ := h
    rfl
  · obtain ⟨x, r, p, hq, cs, as, high, rfl, hx, hl, hp, lq, bq, cl, hc, al, ha, kz, kn⟩ := h
    have h42 := hr.mono (show 42 ≤ 43 by decide)
    refine ⟨_, pss_cons (ps_if (PW.pt (pw_or (pt_cmpR op_eq (pe_ix ix_tup (pv 0) pe_int fun _ _ => rfl) pe_int (nomark _)) (pw_or1 (pt_cmpR op_eq (pe_callB call_len_seq (by rfl) T.len PySem.boot_len (pa_cons (pv 2) pa_nil)) pe_int (nomark _))))) (pss_one (ps_ret (pe_tup (pa_cons pe_int (pa_cons pe_int pa_nil))))) pss_nil)
      (pss_cons (ps_set (i := 4) scLd2.nd rfl (Or.inl rfl) (pe_call GW hr (by rfl) gW kW bW .nil pass0 (pa_cons (pv 0) (pa_cons (pv 3) pa_nil))))
      (pss_cons (ps_for PassesOwn.never rfl (pi_list (pv 1)) (pg_name (i := 5) scLd2.nd rfl (Or.inl rfl))
        (pss_one (ps_set (i := 4) scLd2.nd rfl (Or.inl rfl) (pe_call GM h42 (by rfl) gM kM bM .nil pass0 (pa_cons (pv 4) (pa_cons (pe_call GV hr (by rfl) gV kV bV .nil pass0 (pa_cons (pv 2) (pa_cons (pv 5) pa_nil))) pa_nil))))))
      (pss_one (ps_ret (pv 4))))), ?_⟩
    obtain ⟨pa, ea, qa⟩ := id hp
    obtain ⟨pl, el, ql⟩ := id hl
    have e1 := qa.length
    have e2 := ql.length
    have l1 : (pa.map V.ref).length = as.length := by rw [List.length_map, e1]
    have ret0 : (hq.1 = 0 ∨ as = []) → 2 ≤ sizeLine ∧ ∀ t, H t = none → Q (.ref t) (upd H t (.tup [V.int 0, V.int 1])) := fun z => ⟨by decide, fun t ht => kz z _ t (same_upd ht) upd_same⟩
    refine ⟨_, rfl, x, _, _, _, rfl, rfl, SqT.of hx, rfl, rfl, _, rfl, ?_⟩
    by_cases c0 : hq.1 = 0
    · rw [show decide (V.int hq.1 = V.int 0) = true from decide_eq_true (by rw [c0])]
      exact iteT (iteT (ret0 (.inl c0)))
    rw [show decide (V.int hq.1 = V.int 0) = false from decide_eq_false (fun z => c0 (V.int.inj z))]
    refine iteF ⟨_, rfl, p, _, rfl, .inr (SqT.of ea), rfl, _, rfl, ite2 (fun c1 => ?_) (fun c1 => ?_)⟩
    · refine ret0 (.inr (List.length_eq_zero_iff.mp ?_))
      have := V.int.inj (of_decide_eq_true c1)
      rw [l1] at this
      omega
    have an : as ≠ [] := fun e => c1 (decide_eq_true (by rw [l1, e]; rfl))
    obtain ⟨k, rfl, hk, res⟩ := kn c0 an
    refine ⟨_, rfl, _, rfl, x, hq, k, rfl, hx, lq, bq, hk, fun H2 t2 u2 s2 ht2 lu2 bu2 v2 => ?_⟩
    refine ⟨_, rfl, r, rfl, ⟨_, SqL.of (s2 _ _ el)⟩, ?_⟩
    refine for_it (walk_list (K := K) (a := r) (xs := pl.map V.ref))
      (fun i σ H5 => ∃ (t : Addr) (u : Q2) (v : Option V) (ys : List Rat), σ = [some (.ref x), some (.ref r), some (.ref p), some (.int k), some (.ref t), v] ∧ Same H H5 ∧ PairQ H5 t u ∧ Lo u ∧ Bq (250000 + i * 250010) u ∧ Paired (fun (c : Q2) y => Val (rowF as) (rv c) y) (cs.take i) ys ∧ rv u = rp (rv hq) k * prodR ys)
      ⟨t2, u2, none, [], rfl, s2, ht2, lu2, bu2.mono (by omega), .nil, by rw [v2]; show _ = _ * (1 : Rat); grind⟩ (fun i σ H5 _ ⟨t, u, v, ys, _, s5, _⟩ => SqL.of (s5 _ _ el)) ?_ ?_
    · rintro i y σ H5 H6 hi ⟨t, u, v, ys, rfl, s5, ht, lu, bu, hy, hv⟩ ⟨rfl, hyy⟩
      rw [List.length_map, e2] at hi
      obtain ⟨c, hc1, _, hc3⟩ := at_d (qs := cs) hi
      obtain ⟨pc, hpc, hrc⟩ := Paired.at2 ql hc1
      rw [ref_at hpc] at hyy
      have hyy := Option.some.inj hyy
      subst hyy
      obtain ⟨lc, bc⟩ := hc c hc3
      refine ⟨_, rfl, _, rfl, _, rfl, p, pc, as, c, rfl, VecP.stb.same s5 hp, PairQ.stb.same s5 hrc, lc, bc, al, ha, fun H7 t7 u7 s7 ht7 lu7 bu7 v7 => ?_⟩
      refine ⟨t, t7, u, u7, rfl, PairQ.stb.same s7 ht, ht7, lu.ne, lu7.ne, bu.bg (by omega), bu7.bg (by decide), fun H8 t8 s8 ht8 => ?_⟩
      refine ⟨t8, _, _, ys ++ [rv u7], rfl, (s5.trans s7).trans s8, ht8, lo_mul lu.ne lu7.ne, (bq_mul bu bu7).mono (by omega), ?_, ?_⟩
      · rw [take_snoc hc1]
        exact Paired.snocP hy v7
      · rw [rv_mul lu.ne lu7.ne, hv, prodR_snoc]
        grind
    · rintro σ H5 ⟨t, u, v, ys, rfl, s5, ht, lu, bu, hy, hv⟩
      rw [List.length_map, e2, List.take_length] at hy
      exact ⟨_, rfl, res H5 t u ys s5 ht lu hy hv⟩
abbrev nRf : List Str := ["rows"]
theorem scRf : FnScope nRf ["rows"] (defScope sRf) := ⟨rfl, rfl, rfl, by decide +kernel, rfl, by decide +kernel, by decide +kernel⟩
theorem ok_rf {f fP fV : Addr} {fd fdP fdV : FuncData} (F : Fun K "_law_refused" "_law_refused" sRf f fd) (TP : TxP K mg CP) (MF : TxMF K mg MFa) (ex : PySem.W.exmOne K (.ref MFa) (.ref MFa) = some true) (MP : MkP P w K mg base C CP fP fdP)
    (GV : FnOk P w K mg base (L2.CX P w) 50 fV fdV ["p", "rows"] (spRiv C CP MFa)) (kV : PySem.W.keepIn K (.ref fV) = true) (bV : Binds K fdV ["p", "rows"] []) (gV : mg "resultant_in_v" = some (.ref fV)) : FnOk P w K mg base CX0 51 f fd ["rows"] (spRf C CP) := by
  refine F.ok scRf (fun vs H Q E h => ?_) (fun cdv A outer s H vs Q E hr h => ?_)
  · obtain ⟨r, ls, rfl, _⟩ := h
    rfl
  · obtain ⟨r, ls, rfl, hl, k⟩ := h
    have h44 := hr.mono (show 44 ≤ 50 by decide)
    refine ⟨_, pss_cons (ps_try_only (c := .ref MFa) (Wout := fun _ _ _ _ => False) rfl rfl ⟨rfl, by decide, .inl MF.g⟩ takes0
        (fun W pn xe tk _ => pss_one (ps_expr (pe_callS (E := fun σ => WE W σ) GV hr (by rfl) gV kV bV (fun σ => passAt tk σ) (pa_cons (pe_make MP.cm MP.fn h44 (by rfl) TP.mgP MP.b .nil pass0 (pa_cons (pe_tup (pa_cons pe_int pa_nil)) pa_nil)) (pa_cons (pv 0) pa_nil)))))
        (fun a oe cls d pn _ _ => pss_one (ps_ret pe_bl)))
      (pss_one (ps_ret pe_bl)), ?_⟩
    refine ⟨(by show 1 ≤ sizeLine; decide), fun t ht => ?_⟩
    have st : Same H (upd H t (.tup [V.int 3])) := same_upd ht
    have ps : PSz 2 [((3 : Int), (1 : Int))] := mq_psz (M := 1) (B := 3) (by decide) (fun q hq => by
      rw [List.mem_singleton.mp hq]
      exact ⟨⟨by decide, by decide⟩, 3, by show (3 : Rat) = 1 * (((3 : Int) : Rat) / ((1 : Int) : Rat)); grind, by decide⟩) (by decide) (by decide) (by decide)
    intro u du nu ndu neu
    refine mkP_ok2 (qs := [((3 : Int), (1 : Int))]) (.inr upd_same) (.cons (.inr ⟨3, rfl, rfl⟩) .nil) ps (by decide) nu ndu neu fun H2 hu s2 => ⟨rfl, ?_⟩
    have S2 := st.trans s2
    have hl2 := Tp.stb (PolyAt.stb C CP) H H2 r ls (fun b o e _ => S2 b o e) hl
    refine ⟨_, rfl, u, r, _, ls, rfl, hu, hl2, fun _ => ⟨true, ex, fun _ _ _ => k H2 S2, fun z => Bool.noConfusion z⟩, fun n hn h1 => ?_⟩
    exfalso
    have : trimQ [((3 : Int), (1 : Int))] = [((3 : Int), (1 : Int))] := rfl
    rw [this] at hn
    have : (1 : Nat) = n + 1 := hn
    omega
end
end Ind

set_option Elab.async false
set_option linter.all false
set_option maxRecDepth 100000
set_option maxHeartbeats 4000000
set_option exponentiation.threshold 9000
namespace Ind
open PySem PySem.Spec PyProof.Rows L2
open Builtin.Int (intBits)
/-! ### what the law asks, over rows -/
theorem cut_mid (ds : List Int) {a b : Nat} (h : a ≤ b) (h2 : b ≤ ds.length) : cutV (ds.map V.int) (some ((a : Nat) : Int)) (some ((b : Nat) : Int)) = ((ds.drop a).take (b - a)).map V.int := by
  unfold cutV
  rw [HT.sIx_nat, HT.sIx_nat, List.length_map, Nat.min_eq_left h2, Nat.min_eq_left (by omega), List.map_take, List.map_drop]
theorem neD_pair {K : PySem.W.Frag} {H : Hp} {t u : Addr} {q r : Q2} {Q : VK} (h1 : PairQ H t q) (h2 : PairQ H u r) (e : q = r) (k : Q (.bl false) H) : rNeD K (.ref t) (.ref u) H Q := by
  subst e
  refine ⟨_, _, dp_pair h1, dp_pair h2, shape_pair q, shape_pair q, ?_⟩
  rw [eqv_shape (shape_pair q)]
  exact k
/-- a small number with its bounds -/
structure S9 (q : Q2) : Prop where
  s : Sm q
  n : q.1.natAbs ≤ 9
  d : q.2.natAbs ≤ 5
theorem s9_mk (n d : Int) : S9 (smq n d) := by
  have h1 := fmod_in (x := n) (b := 19) (by decide)
  have h2 := fmod_in (x := d) (b := 5) (by decide)
  have hd : d.fmod 5 + 1 ≠ 0 := by omega
  have e1 := nN_mul (n := n.fmod 19 - 9) hd
  have e2 := nD_mul (n := n.fmod 19 - 9) hd
  have hc : cg (n.fmod 19 - 9) (d.fmod 5 + 1) ≠ 0 := fun z => by
    rw [z] at e2
    omega
  have hc2 : 1 ≤ (cg (n.fmod 19 - 9) (d.fmod 5 + 1)).natAbs := by omega
  refine ⟨sm_mk n d, ?_, ?_⟩
  · have : (n.fmod 19 - 9).natAbs ≤ 9 := by omega
    rw [e1, Int.natAbs_mul] at this
    exact Nat.le_trans (Nat.le_mul_of_pos_right _ hc2) this
  · have : (d.fmod 5 + 1).natAbs ≤ 5 := by omega
    rw [e2, Int.natAbs_mul] at this
    exact Nat.le_trans (Nat.le_mul_of_pos_right _ hc2) this
def facQ (c : Q2) : List Q2 := [(-c.1, c.2), (1, 1)]
theorem lo_negc {c : Q2} (h : Lo c) : Lo ((-c.1, c.2) : Q2) := ⟨h.pos, by show Nat.gcd (-c.1).natAbs c.2.natAbs = 1; rw [Int.natAbs_neg]; exact h.2⟩
theorem rv_negc (c : Q2) : rv ((-c.1, c.2) : Q2) = -rv c := by
  show (((-c.1 : Int)) : Rat) / ((c.2 : Int) : Rat) = -(((c.1 : Int) : Rat) / ((c.2 : Int) : Rat))
  rw [Rat.intCast_neg]
  grind
theorem fac_row (c : Q2) : rowF (facQ c) = Lx (rv c) := funext fun j => by
  unfold Lx facQ
  match j with
  | 0 => rw [rowF_z, rv_negc, if_pos rfl]
  | 1 => rw [rowF_s, rowF_z, rv_q1, if_neg (by decide), if_pos rfl]
  | j + 2 => rw [rowF_s, rowF_s, rowF_nil, if_neg (by omega), if_neg (by omega)]
theorem fac_mq {c : Q2} (h : S9 c) : ∀ q ∈ facQ c, Mq c.2 9 q := fun q hq => by
  have lo := h.s.lo
  have hd := cst_ne lo.ne
  rcases List.mem_cons.mp hq with e | hq
  · rw [e]
    refine ⟨lo_negc lo, -c.1, ?_, by rw [Int.natAbs_neg]; exact h.n⟩
    rw [rv_negc, Rat.intCast_neg]
    show _ = ((c.2 : Int) : Rat) * -(((c.1 : Int) : Rat) / ((c.2 : Int) : Rat))
    grind
  · rw [List.mem_singleton.mp hq]
    refine ⟨⟨by decide, by decide⟩, c.2, ?_, Nat.le_trans h.d (by decide)⟩
    rw [rv_q1]
    grind
def pB : Nat → Nat
  | 0 => 9
  | i + 1 => pB i * 9 * (i + 1)
theorem pB_lt {i : Nat} (h : i ≤ 4) : pB i < 2 ^ 22 := by
  rcases (show i = 0 ∨ i = 1 ∨ i = 2 ∨ i = 3 ∨ i = 4 by omega) with rfl | rfl | rfl | rfl | rfl <;> decide
theorem hd_mq {hd q : Q2} (h : S9 hd) (e : q = hd) : Mq hd.2 (pB 0) q := by
  rw [e]
  have hd2 := cst_ne h.s.lo.ne
  refine ⟨h.s.lo, hd.1, ?_, h.n⟩
  unfold rv
  grind
/-! ### p, by its roots -/
def facL : Fr → List Rat → Fr
  | f, [] => f
  | f, c :: cs => facL (cv f (Lx c)) cs
theorem facL_snoc (c : Rat) : ∀ (cs : List Rat) (f : Fr), facL f (cs ++ [c]) = cv (facL f cs) (Lx c)
  | [], f => rfl
  | d :: cs, f => facL_snoc c cs (cv f (Lx d))
def dl0 (a : Rat) : Fr := fun j => if j = 0 then a else 0
theorem dl0_dg {a : Rat} (h : a ≠ 0) : Dg (dl0 a) 0 := ⟨fun j hj => if_neg (by omega), by show (if (0 : Nat) = 0 then a else 0) ≠ 0; rw [if_pos rfl]; exact h⟩
theorem facL_dg : ∀ (cs : List Rat) {f : Fr} {n : Nat}, Dg f n → Dg (facL f cs) (n + cs.length) ∧ facL f cs (n + cs.length) = f n
  | [], f, n, h => ⟨h, rfl⟩
  | c :: cs, f, n, h => by
    have h2 := facL_dg cs (dg_cv h (lx_dg c))
    have e : n + 1 + cs.length = n + (c :: cs).length := by rw [List.length_cons]; omega
    rw [e] at h2
    refine ⟨h2.1, h2.2.trans ?_⟩
    rw [cv_top h.s (lx_dg c).s]
    show f n * Lx c 1 = f n
    unfold Lx
    rw [if_neg (by decide), if_pos rfl]
    grind
theorem one_row (hd : Q2) (j : Nat) : rowF [hd] j = facL (dl0 (rv hd)) ((([] : List Q2)).map rv) j := by
  show rowF [hd] j = if j = 0 then rv hd else 0
  match j with
  | 0 => rfl
  | j + 1 => rw [rowF_s, rowF_nil, if_neg (by omega)]
theorem facL_len : ∀ (cs : List Rat) {f : Fr} {n : Nat}, Fs f (n + 1) → Fs (facL f cs) (n + cs.length + 1)
  | [], _, _, h => h
  | c :: cs, f, n, h => by
    have h1 := cv_out1 (n := n) (m := 1) h (lx_fs c)
    have h2 := facL_len cs (n := n + 1) h1
    rw [List.length_cons, show n + (cs.length + 1) + 1 = n + 1 + cs.length + 1 by omega]
    exact h2
theorem dl0_fs (a : Rat) : Fs (dl0 a) 1 := fun j hj => if_neg (by omega)
theorem facL_fs {cs : List Q2} {c : Q2} {i : Nat} (h : Rat) (hc : cs[i]? = some c) : ∀ j, i + 1 + 1 ≤ j → cv (facL (dl0 h) ((cs.take i).map rv)) (Lx (rv c)) j = 0 := fun j hj => by
  have h1 := facL_len (cs := (cs.take i).map rv) (n := 0) (dl0_fs h)
  have l1 : ((cs.take i).map rv).length ≤ i := by rw [List.length_map, List.length_take]; omega
  have h2 := cv_out1 (n := i) (m := 1) (h1.mono (by omega)) (lx_fs (rv c))
  exact h2 j hj
/-- a trimmed row is no longer than what it holds -/
theorem trim_short {qs : List Q2} {n : Nat} (t : Trim qs) (lo : ∀ q ∈ qs, Lo q) (h : ∀ j, n ≤ j → rowF qs j = 0) : qs.length ≤ n := by
  apply Nat.le_of_not_lt
  intro z
  obtain ⟨m, hm⟩ : ∃ m, qs.length = m + 1 := ⟨qs.length - 1, by omega⟩
  exact trim_top t lo hm (h m (by omega))
theorem fac_tp {c : Q2} {H : Hp} {t1 t2 t3 : Addr} (h1 : H t1 = none) (h2 : (upd H t1 (.tup [V.int (-c.1), V.int c.2])) t2 = none)
    (h3 : (upd (upd H t1 (.tup [V.int (-c.1), V.int c.2])) t2 (.tup [V.int 1, V.int 1])) t3 = none) :
    Tp PairQ (upd (upd (upd H t1 (.tup [V.int (-c.1), V.int c.2])) t2 (.tup [V.int 1, V.int 1])) t3 (.tup [V.ref t1, V.ref t2])) t3 (facQ c) := by
  have s2 := same_upd (o := .tup [V.int 1, V.int 1]) h2
  have s3 := same_upd (o := .tup [V.ref t1, V.ref t2]) h3
  exact ⟨[t1, t2], upd_same, .cons (s3 _ _ (s2 _ _ upd_same)) (.cons (s3 _ _ upd_same) .nil)⟩
theorem facL_zero : ∀ (cs : List Rat) {f : Fr}, (∀ j, f j = 0) → ∀ j, facL f cs j = 0
  | [], _, h, j => h j
  | c :: cs, f, h, j => facL_zero cs (fun t => by rw [show f = fun _ => 0 from funext h, cv_zl]) j
theorem facL_rr : ∀ (cs : List Q2) {ys : List Rat} {f g : Fr} {n m : Nat} {v : Rat}, RR n f m g v → Paired (fun (c : Q2) y => Val g (rv c) y) cs ys → RR (n + cs.length) (facL f (cs.map rv)) m g (v * prodR ys)
  | [], _, f, g, n, m, v, h, .nil => by
    rw [show v * prodR [] = v by show v * (1 : Rat) = v; grind]
    exact h
  | c :: cs, _, f, g, n, m, v, h, .cons (l₂ := ys) (b := y) hy t => by
    have h1 := RR.lin n m f g v (rv c) y h hy
    rw [cv_comm'] at h1
    have h2 := facL_rr cs h1 t
    have e : n + 1 + cs.length = n + (c :: cs).length := by rw [List.length_cons]; omega
    rw [e, show y * v * prodR ys = v * prodR (y :: ys) by show _ = v * (y * prodR ys); grind] at h2
    exact h2
theorem facL_res {h : Rat} (hh : h ≠ 0) {cs : List Q2} {ys : List Rat} {g : Fr} {m : Nat} (dg : Dg g m) (p : Paired (fun (c : Q2) y => Val g (rv c) y) cs ys) : RR cs.length (facL (dl0 h) (cs.map rv)) m g (rp h m * prodR ys) := by
  have := facL_rr cs (RR.cst (dl0_dg hh) dg) p
  rw [Nat.zero_add] at this
  exact this
/-! ### values of the lines -/
theorem val_shift {f : Fr} {c y : Rat} (a : Rat) (h : Val f c y) : Val (fun j => if j = 0 then a else f (j - 1)) c (y * c + a) := by
  obtain ⟨s, N, hs, e⟩ := h
  refine ⟨fun j => (if j = 0 then y else 0) + (if j = 0 then 0 else s (j - 1)), N + 1, fun j hj => ?_, fun j => ?_⟩
  · show (if j = 0 then y else 0) + (if j = 0 then 0 else s (j - 1)) = 0
    rw [if_neg (by omega), if_neg (by omega), hs _ (by omega)]
    grind
  · rw [cv_two (lx_fs c), show Lx c 0 = -c from by unfold Lx; rw [if_pos rfl], show Lx c 1 = 1 from by unfold Lx; rw [if_neg (by decide), if_pos rfl]]
    match j with
    | 0 =>
      simp
      grind
    | 1 =>
      have := e 0
      rw [cv_two (lx_fs c), show Lx c 0 = -c from by unfold Lx; rw [if_pos rfl], if_pos rfl, if_pos rfl] at this
      simp
      grind
    | j + 2 =>
      have := e (j + 1)
      rw [cv_two (lx_fs c), show Lx c 0 = -c from by unfold Lx; rw [if_pos rfl], show Lx c 1 = 1 from by unfold Lx; rw [if_neg (by decide), if_pos rfl], if_neg (by omega), if_neg (by omega)] at this
      simp at this ⊢
      grind
noncomputable def ev (l : List Q2) (c : Rat) : Rat := Classical.choose (val_ex (fs_row l) c)
theorem ev_val (l : List Q2) (c : Rat) : Val (rowF l) c (ev l c) := Classical.choose_spec (val_ex (fs_row l) c)
noncomputable def hL : List (List Q2) → Rat → Rat → Rat
  | [], _, _ => 0
  | l :: ls, c, v => hL ls c v * v + ev l c
theorem val_z (c : Rat) : Val (fun _ => 0) c 0 := ⟨fun _ => 0, 0, fun _ _ => rfl, fun j => by
  rw [cv_zl]
  split <;> grind⟩
theorem mix_val (c v : Rat) : ∀ ls : List (List Q2), Val (mixL ls v) c (hL ls c v)
  | [] => val_z c
  | l :: ls => by
    have h1 := val_add (val_sc v (mix_val c v ls)) (ev_val l c)
    have e1 : mixL (l :: ls) v = fun j => v * mixL ls v j + rowF l j := funext fun j => by
      show mixL ls v j * v + rowF l j = _
      grind
    have e2 : hL (l :: ls) c v = v * hL ls c v + ev l c := by
      show hL ls c v * v + ev l c = _
      grind
    rw [e1, e2]
    exact h1
noncomputable def LF : List (List Q2) → Rat → Fr
  | [], _ => fun _ => 0
  | l :: ls, c => fun j => if j = 0 then ev l c else LF ls c (j - 1)
theorem LF_val (c v : Rat) : ∀ ls : List (List Q2), Val (LF ls c) v (hL ls c v)
  | [] => val_z v
  | l :: ls => val_shift (ev l c) (LF_val c v ls)
theorem ev_nil (c : Rat) : ev [] c = 0 := val_uniq (ev_val [] c) (val_nil c)
theorem LF_at (c : Rat) : ∀ (ls : List (List Q2)) (j : Nat), LF ls c j = ev (ls.getD j []) c
  | [], j => (ev_nil c).symm
  | l :: ls, 0 => rfl
  | l :: ls, j + 1 => by
    show (if j + 1 = 0 then ev l c else LF ls c (j + 1 - 1)) = _
    rw [if_neg (by omega), Nat.add_sub_cancel]
    exact LF_at c ls j
theorem LF_fs {ls : List (List Q2)} {s : Nat} (h : ∀ j, s + 1 ≤ j → ls.getD j [] = []) (c : Rat) : Fs (LF ls c) (s + 1) := fun j hj => by
  rw [LF_at, h j hj, ev_nil]
def prodF : List Fr → Fr
  | [] => dl0 1
  | f :: fs => cv f (prodF fs)
theorem prodF_fs {s : Nat} : ∀ {fs : List Fr}, (∀ f ∈ fs, Fs f (s + 1)) → Fs (prodF fs) (s * fs.length + 1)
  | [], _ => fun j hj => if_neg (by omega)
  | f :: fs, h => by
    have := cv_out1 (h f List.mem_cons_self) (prodF_fs fun g hg => h g (List.mem_cons_of_mem _ hg))
    rw [List.length_cons, show s * (fs.length + 1) = s + s * fs.length by rw [Nat.mul_add, Nat.mul_one, Nat.add_comm]]
    exact this
noncomputable def vsL (ls : List (List Q2)) (cs : List Q2) (v : Rat) : List Rat := cs.map fun c => hL ls (rv c) v
noncomputable def DD (h : Rat) (bd : Nat) (ls : List (List Q2)) (cs : List Q2) : Fr := fun j => rp h bd * prodF (cs.map fun c => LF ls (rv c)) j
theorem prodF_val {ls : List (List Q2)} {s : Nat} (hz : ∀ j, s + 1 ≤ j → ls.getD j [] = []) (v : Rat) : ∀ cs : List Q2, Val (prodF (cs.map fun c => LF ls (rv c))) v (prodR (vsL ls cs v))
  | [] => val_cst 1 v
  | c :: cs => val_mul (prodF_fs (s := s) fun f hf => by
      obtain ⟨c, _, rfl⟩ := List.mem_map.mp hf
      exact LF_fs hz (rv c)) (LF_val (rv c) v ls) (prodF_val hz v cs)
theorem DD_val {ls : List (List Q2)} {s : Nat} (hz : ∀ j, s + 1 ≤ j → ls.getD j [] = []) (h : Rat) (bd : Nat) (cs : List Q2) (v : Rat) : Val (DD h bd ls cs) v (rp h bd * prodR (vsL ls cs v)) := val_sc _ (prodF_val hz v cs)
theorem DD_fs {ls : List (List Q2)} {s : Nat} (hz : ∀ j, s + 1 ≤ j → ls.getD j [] = []) (h : Rat) (bd : Nat) (cs : List Q2) : Fs (DD h bd ls cs) (s * cs.length + 1) := fun j hj => by
  have := prodF_fs (s := s) (fs := cs.map fun c => LF ls (rv c)) (fun f hf => by
    obtain ⟨c, _, rfl⟩ := List.mem_map.mp hf
    exact LF_fs hz (rv c)) j (by rw [List.length_map]; exact hj)
  show rp h bd * prodF _ j = 0
  rw [this]
  grind
theorem mix_pair (ls : List (List Q2)) (v : Rat) : ∀ cs : List Q2, Paired (fun (c : Q2) y => Val (mixL ls v) (rv c) y) cs (vsL ls cs v)
  | [] => .nil
  | c :: cs => .cons (mix_val (rv c) v ls) (mix_pair ls v cs)
theorem pair_uniq {g : Fr} : ∀ {cs : List Q2} {ys zs : List Rat}, Paired (fun (c : Q2) y => Val g (rv c) y) cs ys → Paired (fun (c : Q2) y => Val g (rv c) y) cs zs → ys = zs
  | _, _, _, .nil, .nil => rfl
  | _, _, _, .cons a t, .cons b u => by rw [val_uniq a b, pair_uniq t u]
theorem mix_zero {ls : List (List Q2)} {v : Rat} (h : ∀ j, mixL ls v j = 0) : ∀ {cs : List Q2}, 1 ≤ cs.length → prodR (vsL ls cs v) = 0
  | c :: cs, _ => by
    have e : hL ls (rv c) v = 0 := val_uniq (mix_val (rv c) v ls) (by rw [show mixL ls v = fun _ => 0 from funext h]; exact val_z _)
    show hL ls (rv c) v * _ = 0
    rw [e]
    grind
theorem rp_mv {M : Int} {B : Nat} {x : Rat} (h : Mv M B x) : ∀ k, Mv (M ^ k) (B ^ k) (rp x k)
  | 0 => ⟨1, by rw [Int.pow_zero]; show (1 : Rat) = 1 * 1; grind, by show 1 ≤ B ^ 0; rw [Nat.pow_zero]; omega⟩
  | k + 1 => by
    rw [Int.pow_succ, Nat.pow_succ]
    exact mv_mul (rp_mv h k) h
theorem prod_mv {M : Int} {B : Nat} : ∀ {ys : List Rat}, (∀ y ∈ ys, Mv M B y) → Mv (M ^ ys.length) (B ^ ys.length) (prodR ys)
  | [], _ => ⟨1, by rw [List.length_nil, Int.pow_zero]; show (1 : Rat) = 1 * 1; grind, by show 1 ≤ B ^ 0; rw [Nat.pow_zero]; omega⟩
  | y :: ys, h => by
    have := mv_mul (h y List.mem_cons_self) (prod_mv fun z hz => h z (List.mem_cons_of_mem _ hz))
    rw [List.length_cons, Int.pow_succ, Nat.pow_succ, Int.mul_comm, Nat.mul_comm]
    exact this
theorem val_three {f : Fr} (h : Fs f 3) (c : Rat) : Val f c (f 0 + f 1 * c + f 2 * c * c) := by
  refine ⟨fun j => if j = 0 then f 1 + f 2 * c else if j = 1 then f 2 else 0, 2, fun j hj => by show (if j = 0 then _ else if j = 1 then _ else _) = _; rw [if_neg (by omega), if_neg (by omega)], fun j => ?_⟩
  rw [cv_two (lx_fs c), show Lx c 0 = -c from by unfold Lx; rw [if_pos rfl], show Lx c 1 = 1 from by unfold Lx; rw [if_neg (by decide), if_pos rfl]]
  match j with
  | 0 => simp; grind
  | 1 => simp; grind
  | 2 => simp; grind
  | j + 3 =>
    rw [h (j + 3) (by omega)]
    simp
    grind
theorem mix_mv {ls : List (List Q2)} {v : Nat} (hv : v ≤ 8) (h3 : ls.length ≤ 3) (hl : ∀ l ∈ ls, l.length ≤ 3 ∧ ∀ q ∈ l, Mq 60 900 q) {c : Q2} (hc : Sm c) : Mv 216000 (2 ^ 40) (hL ls (rv c) ((v : Int) : Rat)) := by
  have m0 : ∀ j, Mv 60 (900 * 9 ^ 3) (mixL ls ((v : Int) : Rat) j) := fun j => mv_mono (mixL_mv hv (fun l h => (hl l h).2) j) (Nat.mul_le_mul_left _ (Nat.pow_le_pow_right (by decide) h3))
  have mc := (mq_sm hc).mv
  have e := val_uniq (mix_val (rv c) ((v : Int) : Rat) ls) (val_three (mixL_fs _ fun l h => (hl l h).1) (rv c))
  rw [e]
  have a0 := mv_up (m0 0) 3600
  have a1 := mv_up (mv_mul (m0 1) mc) 60
  have a2 := mv_mul (mv_mul (m0 2) mc) mc
  exact mv_mono (mv_add (mv_add a0 a1) a2) (by decide)
/-- what the value of the resultant in v is to be -/
theorem riv_val {hd : Q2} {cs ps : List Q2} {ls : List (List Q2)} {bd v : Nat} (h9 : Sm hd) (hh : rv hd ≠ 0) (hc : ∀ c ∈ cs, Sm c) (n1 : 1 ≤ cs.length) (n4 : cs.length ≤ 4) (hp : rowF ps = facL (dl0 (rv hd)) (cs.map rv)) (hv : v ≤ 8) (h3 : ls.length ≤ 3)
    (hl : ∀ l ∈ ls, l.length ≤ 3 ∧ ∀ q ∈ l, Mq 60 900 q) (hb : ∀ l ∈ ls, l.length ≤ bd + 1) (hbd : bd ≤ 2) :
    Mv (3600 * 216000 ^ 4) (810000 * 2 ^ 160) (rp (rv hd) bd * prodR (vsL ls cs ((v : Int) : Rat))) ∧ ((∀ j, mixL ls ((v : Int) : Rat) j = 0) → rp (rv hd) bd * prodR (vsL ls cs ((v : Int) : Rat)) = 0) ∧
      (∀ m w, Dg (mixL ls ((v : Int) : Rat)) m → RR cs.length (rowF ps) m (mixL ls ((v : Int) : Rat)) w → w * rp (rowF ps cs.length) (bd - m) = rp (rv hd) bd * prodR (vsL ls cs ((v : Int) : Rat)) ∧ ∃ (M : Int) (B : Nat), 0 < M ∧ M.natAbs < 2 ^ 500 ∧ B < 2 ^ 500 ∧ Mv M B w) := by
  have pm : Mv (216000 ^ 4) ((2 ^ 40) ^ 4) (prodR (vsL ls cs ((v : Int) : Rat))) := by
    have h1 := prod_mv (M := 216000) (B := 2 ^ 40) (ys := vsL ls cs ((v : Int) : Rat)) fun y hy => by
      obtain ⟨c, h, rfl⟩ := List.mem_map.mp hy
      exact mix_mv hv h3 hl (hc c h)
    have el : (vsL ls cs ((v : Int) : Rat)).length = cs.length := List.length_map ..
    rw [el] at h1
    obtain ⟨k, hk⟩ : ∃ k, 4 = cs.length + k := ⟨4 - cs.length, by omega⟩
    have h2 := mv_up h1 (216000 ^ k)
    have e1 : (216000 : Int) ^ cs.length * ((216000 ^ k : Nat) : Int) = 216000 ^ 4 := by
      rw [hk, Int.pow_add]
      congr 1
    rw [e1] at h2
    refine mv_mono h2 ?_
    rw [hk, Nat.pow_add]
    exact Nat.mul_le_mul_left _ (Nat.pow_le_pow_left (by decide) k)
  have hm : ∀ k, k ≤ 2 → Mv 3600 810000 (rp (rv hd) k) := fun k hk => by
    have h1 := rp_mv (mq_sm h9).mv k
    rcases (show k = 0 ∨ k = 1 ∨ k = 2 by omega) with rfl | rfl | rfl
    · exact mv_mono (mv_up h1 3600) (by decide)
    · exact mv_mono (mv_up h1 60) (by decide)
    · exact h1
  refine ⟨mv_mul (hm bd hbd) pm, fun z => by rw [mix_zero z n1]; grind, fun m w dg hw => ?_⟩
  have e := hw.uniq (by rw [hp]; exact facL_res hh dg (mix_pair ls _ cs))
  have top : rowF ps cs.length = rv hd := by
    have := (facL_dg (cs.map rv) (dl0_dg hh)).2
    rw [List.length_map, Nat.zero_add] at this
    rw [hp, this]
    exact if_pos rfl
  have hmb : m ≤ bd := by
    have := fs_of_dg dg (mixL_fs _ hb)
    omega
  refine ⟨?_, 3600 * 216000 ^ 4, 810000 * (2 ^ 40) ^ 4, by decide, by decide, by decide, ?_⟩
  · rw [e, top]
    have := rp_add (rv hd) m (bd - m)
    rw [show m + (bd - m) = bd by omega] at this
    rw [this]
    grind
  · rw [e]
    exact mv_mul (hm m (by omega)) pm
/-- what _law_due answers -/
def DueV (hq : Q2) (cs as : List Q2) (k : Nat) (u : Q2) : Prop := ((hq.1 = 0 ∨ as = []) → u = q0) ∧ (hq.1 ≠ 0 → as ≠ [] → ∃ ys, Paired (fun (c : Q2) y => Val (rowF as) (rv c) y) cs ys ∧ rv u = rp (rv hq) k * prodR ys)
theorem ld2_of {vs : List V} {H : Hp} {Q : VK} {E : XK} (h : ∃ (x r p : Addr) (hq : Q2) (cs as : List Q2) (high : Int) (k : Nat), vs = [.ref x, .ref r, .ref p, .int high] ∧ PairQ H x hq ∧ Ls PairQ H r cs ∧ Tp PairQ H p as ∧ Lo hq ∧ Bq 5000 hq ∧ cs.length ≤ 10 ∧ (∀ c ∈ cs, Lo c ∧ Bq 5000 c) ∧ as.length ≤ 20 ∧ (∀ a ∈ as, Lo a ∧ Bq 5000 a) ∧
    (as ≠ [] → high = k ∧ k ≤ 20) ∧ ∀ (H' : Hp) (t : Addr) (u : Q2), Same H H' → PairQ H' t u → Lo u → DueV hq cs as k u → Q (.ref t) H') : spLd2 vs H Q E := by
  obtain ⟨x, r, p, hq, cs, as, high, k, e, h1, h2, h3, h4, h5, h6, h7, h8, h9, hk, c⟩ := h
  refine ⟨x, r, p, hq, cs, as, high, e, h1, h2, h3, h4, h5, h6, h7, h8, h9, fun z H' t s ht => c H' t q0 s ht lo_q0 ⟨fun _ => rfl, fun a b => ?_⟩, fun a b => ⟨k, (hk b).1, (hk b).2, fun H' t u ys s ht lu hy hu => c H' t u s ht lu ⟨fun z => ?_, fun _ _ => ⟨ys, hy, hu⟩⟩⟩⟩
  · rcases z with z | z
    · exact absurd z a
    · exact absurd z b
  · rcases z with z | z
    · exact absurd z a
    · exact absurd z b
theorem rv_zero {q : Q2} (h : q.1 = 0) : rv q = 0 := by
  unfold rv
  rw [h]
  show (0 : Rat) / _ = 0
  grind
theorem rv_nz {q : Q2} (l : Lo q) (h : q.1 ≠ 0) : rv q ≠ 0 := fun z => by
  have h1 := cst_ne h
  have h2 := cst_ne l.ne
  unfold rv at z
  have : ((q.1 : Int) : Rat) = 0 := by
    have : ((q.1 : Int) : Rat) = ((q.1 : Int) : Rat) / ((q.2 : Int) : Rat) * ((q.2 : Int) : Rat) := by grind
    rw [this, z]
    grind
  exact h1 this
/-- p, whether its head is zero -/
theorem p_zero {hd : Q2} {cs ps : List Q2} (t : Trim ps) (lo : ∀ q ∈ ps, Lo q) (f : rowF ps = facL (dl0 (rv hd)) (cs.map rv)) (h : hd.1 = 0) : ps = [] := trim_nil t lo fun j => by
  rw [f]
  refine facL_zero _ (fun j => ?_) j
  show (if j = 0 then rv hd else 0) = 0
  rw [rv_zero h]
  split <;> rfl
theorem p_len {hd : Q2} {cs ps : List Q2} (t : Trim ps) (lo : ∀ q ∈ ps, Lo q) (f : rowF ps = facL (dl0 (rv hd)) (cs.map rv)) (l : Lo hd) (h : hd.1 ≠ 0) : ps.length = cs.length + 1 := by
  have dg := (facL_dg (cs.map rv) (dl0_dg (rv_nz l h))).1
  rw [List.length_map, Nat.zero_add, ← f] at dg
  have h1 := fs_of_dg dg (fs_row ps)
  have h2 := trim_short t lo dg.s
  omega
/-- the resultant of p and q -/
theorem res_pq {hd : Q2} {cs ps qs : List Q2} {u : Q2} (t : Trim ps) (lo : ∀ q ∈ ps, Lo q) (tq : Trim qs) (loq : ∀ q ∈ qs, Lo q) (f : rowF ps = facL (dl0 (rv hd)) (cs.map rv)) (l : Lo hd) (hu : DueV hd cs qs (qs.length - 1) u) : ((ps = [] ∨ qs = []) → rv u = 0) ∧
    (ps ≠ [] → qs ≠ [] → ∃ n m, ps.length = n + 1 ∧ qs.length = m + 1 ∧ n = cs.length ∧ RR n (rowF ps) m (rowF qs) (rv u)) := by
  refine ⟨fun z => ?_, fun a b => ?_⟩
  · rw [hu.1 ?_, rv_q0]
    rcases z with z | z
    · refine .inl ?_
      apply Classical.byContradiction
      intro h
      have := p_len t lo f l h
      rw [z] at this
      cases this
    · exact .inr z
  · have h : hd.1 ≠ 0 := fun z => a (p_zero t lo f z)
    obtain ⟨ys, hy, e⟩ := hu.2 h b
    have hl := p_len t lo f l h
    obtain ⟨m, hm⟩ : ∃ m, qs.length = m + 1 := ⟨qs.length - 1, by have : qs.length ≠ 0 := fun z => b (List.length_eq_zero_iff.mp z); omega⟩
    refine ⟨cs.length, m, hl, hm, rfl, ?_⟩
    rw [e, f, hm, Nat.add_sub_cancel]
    exact facL_res (rv_nz l h) (dg_row tq loq hm) hy
/-- the greatest degree -/
def High (ls : List (List Q2)) (bd : Nat) : Prop := (∀ l ∈ ls, l.length ≤ bd + 1) ∧ ((∃ l ∈ ls, l.length = bd + 1) ∨ bd = 0)
theorem High.uniq {ls : List (List Q2)} {a b : Nat} (h1 : High ls a) (h2 : High ls b) : a = b := by
  obtain ⟨x1, x2⟩ := h1
  obtain ⟨y1, y2⟩ := h2
  rcases x2 with ⟨l, hl, e⟩ | e <;> rcases y2 with ⟨k, hk, f⟩ | f
  · have := x1 k hk
    have := y1 l hl
    omega
  · have := y1 l hl
    omega
  · have := x1 k hk
    omega
  · omega
/-- what the law asks of the resultant in v -/
def Told (hd : Q2) (cs : List Q2) (ls : List (List Q2)) (rs : List Q2) : Prop := rs.length ≤ (ls.length - 1) * cs.length + 1 ∧ ∃ bd, High ls bd ∧ bd ≤ 2 ∧ ∀ v y : Rat, Val (rowF rs) v y → y = rp (rv hd) bd * prodR (vsL ls cs v)
theorem mix_nils {ls : List (List Q2)} (h : ∀ l ∈ ls, l = []) (v : Rat) (j : Nat) : mixL ls v j = 0 := mixL_fs (N := 0) v (fun l hl => by rw [h l hl]; exact Nat.le_refl _) j (Nat.zero_le _)
theorem riv_of {C CP MF : Addr} {vs : List V} {H : Hp} {Q : VK} {E : XK} (h : ∃ (p rl : Addr) (hd : Q2) (cs ps : List Q2) (ls : List (List Q2)), vs = [.ref p, .ref rl] ∧ PolyAt C CP H p ps ∧ Tp (PolyAt C CP) H rl ls ∧ PSz 22 ps ∧ S9 hd ∧ hd.1 ≠ 0 ∧ (∀ c ∈ cs, S9 c) ∧ 1 ≤ cs.length ∧ cs.length ≤ 4 ∧
    rowF ps = facL (dl0 (rv hd)) (cs.map rv) ∧ ps.length = cs.length + 1 ∧ ls.length ≤ 3 ∧ (∀ l ∈ ls, l.length ≤ 3 ∧ ∀ q ∈ l, Mq 60 900 q) ∧
    ∀ (H' : Hp) (t : Addr) (rs : List Q2), Same H H' → PolyAt C CP H' t rs → (∀ q ∈ rs, Lo q ∧ Bq 300 q) → Told hd cs ls rs → Q (.ref t) H') : spRiv C CP MF vs H Q E := by
  obtain ⟨p, rl, hd, cs, ps, ls, e, hp, hl, zp, h9, hd0, hc, n1, n4, fp, pl, l3, hls, k⟩ := h
  refine ⟨p, rl, ps, ls, e, hp, hl, fun h => absurd h (by omega), fun n hn h1 => ?_⟩
  obtain rfl : n = cs.length := by omega
  have hh := rv_nz h9.s.lo hd0
  have hcs : ∀ c ∈ cs, Sm c := fun c h => (hc c h).s
  refine ⟨n4, zp, l3, hls, fun z H' t s ht => k H' t [] s ht (fun q h => absurd h (by simp)) ⟨Nat.zero_le _, 0, ⟨fun l hl => by rw [z l hl]; exact Nat.zero_le _, .inr rfl⟩, by decide, fun v y hy => ?_⟩, fun bd hall hex hbd => ⟨3600 * 216000 ^ 4, 810000 * 2 ^ 160, by decide, by decide, by decide, fun v hv => ⟨_, riv_val h9.s hh hcs n1 n4 fp hv l3 hls hall hbd⟩, fun H' t rs s a ss ht lob len hs hz ha hrow => k H' t rs ss ht lob ?_⟩⟩
  · rw [val_uniq hy (val_nil v), mix_zero (mix_nils z v) n1]
    grind
  · have sn : s * cs.length ≤ 2 * 4 := Nat.mul_le_mul (by omega) n4
    have row : rowF rs = DD (rv hd) bd ls cs := by
      rw [hrow]
      refine nPoly_is (DD_fs hz (rv hd) bd cs) fun v hv => ?_
      have dv := DD_val hz (rv hd) bd cs (((v : Nat) : Int) : Rat)
      obtain ⟨W, eW, hW0, hWn⟩ := ha v (by omega)
      obtain ⟨_, r0, rn⟩ := riv_val (v := v) h9.s hh hcs n1 n4 fp (by omega) l3 hls hall hbd
      have eW2 : a v = rp (rv hd) bd * prodR (vsL ls cs (((v : Nat) : Int) : Rat)) := by
        rw [eW]
        rcases dg_or (mixL_fs (((v : Nat) : Int) : Rat) hall) with z | ⟨m, _, dm⟩
        · rw [hW0 z, r0 z]
        · have dp : Dg (rowF ps) cs.length := by
            have := (facL_dg (cs.map rv) (dl0_dg hh)).1
            rw [List.length_map, Nat.zero_add, ← fp] at this
            exact this
          obtain ⟨w, hw⟩ := RR.ex m cs.length (rowF ps) _ dp dm
          rw [← hWn m w dm hw, (rn m w dm hw).1]
      rw [eW2]
      exact dv
    refine ⟨?_, bd, ⟨hall, .inl hex⟩, hbd, fun v y hy => ?_⟩
    · refine Nat.le_trans (trim_short ht.trim (fun q hq => (lob q hq).1) (n := s * cs.length + 1) fun j hj => by rw [row]; exact DD_fs hz (rv hd) bd cs j hj) ?_
      have : s * cs.length ≤ (ls.length - 1) * cs.length := Nat.mul_le_mul_right _ (by omega)
      omega
    · rw [row] at hy
      exact val_uniq hy (DD_val hz (rv hd) bd cs v)
theorem vq_mq {i : Nat} (h : i < 10) {d : Int} (h1 : 0 ≤ d) (h2 : d < 3) : Mq 6 36 (mkq ((i : Int) - 4) (d + 1)) ∧ Bq 20 (mkq ((i : Int) - 4) (d + 1)) := by
  have hd : d + 1 ≠ 0 := by omega
  refine ⟨⟨lo_mk hd, ?_⟩, bq_mk (PySem.intBits_le_iff.mpr (by omega)) (PySem.intBits_le_iff.mpr (by omega))⟩
  rw [rv_mk hd]
  have hc := cst_ne hd
  obtain ⟨c, ec⟩ : ∃ c : Int, 6 = (d + 1) * c := by
    rcases (show d = 0 ∨ d = 1 ∨ d = 2 by omega) with rfl | rfl | rfl
    · exact ⟨6, rfl⟩
    · exact ⟨3, rfl⟩
    · exact ⟨2, rfl⟩
  refine ⟨((i : Int) - 4) * c, ?_, ?_⟩
  · rw [show ((6 : Int) : Rat) = (((d + 1) * c : Int) : Rat) from congrArg _ ec, Rat.intCast_mul, Rat.intCast_mul]
    grind
  · have c6 : c.natAbs ≤ 6 := by
      rcases (show d = 0 ∨ d = 1 ∨ d = 2 by omega) with rfl | rfl | rfl <;> omega
    rw [Int.natAbs_mul]
    exact Nat.le_trans (Nat.mul_le_mul (show ((i : Int) - 4).natAbs ≤ 6 by omega) c6) (by decide)
theorem trim_one {q : Q2} : ∀ x ∈ trimQ [q], x = q := fun x hx => by
  have h : trimQ [q] = (if q.1 = 0 then [] else [q]) := rfl
  rw [h] at hx
  by_cases c : q.1 = 0
  · rw [if_pos c] at hx
    cases hx
  · rw [if_neg c] at hx
    exact List.mem_singleton.mp hx
theorem row_one (q : Q2) : rowF (trimQ [q]) = dl0 (rv q) := funext fun j => by
  rw [trim_row]
  show rowF [q] j = if j = 0 then rv q else 0
  match j with
  | 0 => rfl
  | j + 1 => rw [rowF_s, rowF_nil, if_neg (by omega)]
end Ind

set_option Elab.async false
set_option linter.all false
set_option maxRecDepth 100000
set_option maxHeartbeats 4000000
set_option exponentiation.threshold 9000
namespace Ind
open PySem PySem.Spec PyProof.Rows L2
open Builtin.Int (intBits)
abbrev sLaw : Stmt := top 51
def spLaw (K : PySem.W.Frag) : Sp := fun vs H Q _ => ∃ (a : Addr) (ns : List Int), vs = [.ref a] ∧ SqL K H a (ns.map V.int) ∧ ∀ H', Q (.bl true) H'
/-- a def of the text that the law calls -/
structure Cl (P : Program) (w : World) (K : PySem.W.Frag) (mg : Str → Option Value) (base : Heap) (k : Nat) (x : Str) (f : Addr) (fd : FuncData) (ps : List Str) (sp : Sp) : Prop where
  g : mg x = some (.ref f)
  kp : PySem.W.keepIn K (.ref f) = true
  b : Binds K fd ps []
  fn : FnOk P w K mg base CX0 k f fd ps sp
structure ClX (P : Program) (w : World) (K : PySem.W.Frag) (mg : Str → Option Value) (base : Heap) (k : Nat) (x : Str) (f : Addr) (fd : FuncData) (ps : List Str) (sp : Sp) : Prop where
  g : mg x = some (.ref f)
  kp : PySem.W.keepIn K (.ref f) = true
  b : Binds K fd ps []
  fn : FnOk P w K mg base (L2.CX P w) k f fd ps sp
structure LawF (P : Program) (w : World) (K : PySem.W.Frag) (mg : Str → Option Value) (base : Heap) (C Z CP MFa : Addr) (fD fSm fLt fPo fPa fPm fMk fRw fRf fDu fPr fRe fRa fLv fRv : Addr) (fdD fdSm fdLt fdPo fdPa fdPm fdMk fdRw fdRf fdDu fdPr fdRe fdRa fdLv fdRv : FuncData) : Prop where
  D : Cl P w K mg base 2 "_law_draws" fD fdD ["script", "at", "count", "bound"] (spDraws K)
  Sm : Cl P w K mg base 42 "_law_small" fSm fdSm ["n", "d"] (spSm)
  Lt : Cl P w K mg base 1 "_law_trim" fLt fdLt ["row"] (spLt)
  Po : Cl P w K mg base 43 "_law_poly" fPo fdPo ["row", "size"] (spLp)
  Pa : Cl P w K mg base 43 "_law_padd" fPa fdPa ["p", "q"] (spLa)
  Pm : Cl P w K mg base 43 "_law_pmul" fPm fdPm ["p", "q"] (spLm)
  Mk : Cl P w K mg base 45 "_law_make" fMk fdMk ["row"] (spLk C CP)
  Rw : Cl P w K mg base 3 "_law_row" fRw fdRw ["p"] (spRw C CP)
  Rf : Cl P w K mg base 51 "_law_refused" fRf fdRf ["rows"] (spRf C CP)
  Du : Cl P w K mg base 44 "_law_due" fDu fdDu ["head", "roots", "q", "high"] (spLd2)
  Pr : Cl P w K mg base 2 "_law_pair" fPr fdPr ["value"] (spPair C)
  Re : Cl P w K mg base 48 "resultant" fRe fdRe ["p", "q"] (spRes C CP)
  Ra : Cl P w K mg base 41 "_law_rat" fRa fdRa ["n", "d"] (spRatQ)
  Lv : Cl P w K mg base 43 "_law_value" fLv fdLv ["p", "x"] (spLv)
  Rv : ClX P w K mg base 50 "resultant_in_v" fRv fdRv ["p", "rows"] (spRiv C CP MFa)
abbrev nL : List Str := ["script", "row", "k", "roots", "head", "p", "c", "q", "a", "b", "due", "back", "lines", "rows", "told", "high", "n", "v", "mixed", "line"]
section
variable {P : Program} {w : World} {K : PySem.W.Frag} {mg : Str → Option Value} {base : Heap} {C Z CP MFa : Addr}
theorem scL : FnScope nL ["script"] (defScope sLaw) := ⟨rfl, rfl, rfl, by decide +kernel, rfl, by decide +kernel, by decide +kernel⟩
theorem ok_law {f fD fSm fLt fPo fPa fPm fMk fRw fRf fDu fPr fRe fRa fLv fRv : Addr} {fd fdD fdSm fdLt fdPo fdPa fdPm fdMk fdRw fdRf fdDu fdPr fdRe fdRa fdLv fdRv : FuncData} (F : Fun K "law" "law" sLaw f fd) (T : TxL K mg) (TP : TxP K mg CP) (hmax : mg "max" = none)
    (L : LawF P w K mg base C Z CP MFa fD fSm fLt fPo fPa fPm fMk fRw fRf fDu fPr fRe fRa fLv fRv fdD fdSm fdLt fdPo fdPa fdPm fdMk fdRw fdRf fdDu fdPr fdRe fdRa fdLv fdRv) : FnOk P w K mg base CX0 60 f fd ["script"] (spLaw K) := by
  refine F.ok scL (fun vs H Q E h => ?_) (fun cdv A outer s H vs Q E hr h => ?_)
  · obtain ⟨a, ns, rfl, _⟩ := h
    rfl
  · obtain ⟨a, ns, rfl, hS, kq⟩ := h
    have hD := hr.mono (show 2 ≤ 59 by decide)
    have hSm := hr.mono (show 42 ≤ 59 by decide)
    have hLt := hr.mono (show 1 ≤ 59 by decide)
    have hPo := hr.mono (show 43 ≤ 59 by decide)
    have hPa := hr.mono (show 43 ≤ 59 by decide)
    have hPm := hr.mono (show 43 ≤ 59 by decide)
    have hMk := hr.mono (show 45 ≤ 59 by decide)
    have hRw := hr.mono (show 3 ≤ 59 by decide)
    have hRf := hr.mono (show 51 ≤ 59 by decide)
    have hDu := hr.mono (show 44 ≤ 59 by decide)
    have hPr := hr.mono (show 2 ≤ 59 by decide)
    have hRe := hr.mono (show 48 ≤ 59 by decide)
    have hRa := hr.mono (show 41 ≤ 59 by decide)
    have hLv := hr.mono (show 43 ≤ 59 by decide)
    have hRv := hr.mono (show 50 ≤ 59 by decide)
    refine ⟨_, (pss_cons (ps_set (i := 1) scL.nd rfl (Or.inr rfl) (pe_call L.D.fn hD (by rfl) L.D.g L.D.kp L.D.b .nil pass0 (pa_cons (pv 0) (pa_cons pe_int (pa_cons pe_int (pa_cons pe_int pa_nil))))))
      (pss_cons (ps_setLc (i := 3) (own := [("k", 2)]) (g := gName 2) (tt := tYes) (te := tCall spSm [] E0 (tCons (tOp (rIxL K) (tVar 1) (tOp (rI0 fun i j => .int (i + j)) (tC (.int 16)) (tOp (rI (fun i j => intBits i + intBits j ≤ 134217728) fun i j => .int (i * j)) (tC (.int 2)) (tVar 2)))) (tCons (tOp (rIxL K) (tVar 1) (tOp (rI0 fun i j => .int (i + j)) (tC (.int 17)) (tOp (rI (fun i j => intBits i + intBits j ≤ 134217728) fun i j => .int (i * j)) (tC (.int 2)) (tVar 2)))) tNil))) rfl scL.nd rfl rfl rfl (pi_range1 (by rfl) T.range (pa_cons (pe_op op_modN (pe_ix ix_list (pv 1) pe_int fun _ _ => rfl) pe_int) pa_nil)) (blkOk_by (N := nL) (sc := defScope sLaw) (by decide +kernel)) (fun _ _ _ _ _ => (pg_name (i := 2) scL.nd rfl (Or.inl rfl))) (fun _ _ _ _ _ => pts_nil) (fun _ _ _ _ _ => (pe_call L.Sm.fn hSm (by rfl) L.Sm.g L.Sm.kp L.Sm.b .nil pass0 (pa_cons (pe_ix ix_list (pv 1) (pe_op op_add pe_int (pe_op op_mulB pe_int (pv 2))) fun _ _ => rfl) (pa_cons (pe_ix ix_list (pv 1) (pe_op op_add pe_int (pe_op op_mulB pe_int (pv 2))) fun _ _ => rfl) pa_nil)))))
      (C8.pss_cut (ps_if (PW.pt (pw_and (pt_cmpR op_gt (pe_callB call_len_seq (by rfl) T.len PySem.boot_len (pa_cons (pv 3) pa_nil)) pe_int (nomark _)) (pw_and1 (pt_cmpR op_eq (pe_op op_modN (pe_ix ix_list (pv 1) pe_int fun _ _ => rfl) pe_int) pe_int (nomark _))))) (pss_one (ps_asg (pe_ix ix_list (pv 3) pe_int fun _ _ => rfl) (pg_sub (pv 3) pe_int set_list))) pss_nil)
      (pss_cons (ps_set (i := 4) scL.nd rfl (Or.inl rfl) (pe_call L.Sm.fn hSm (by rfl) L.Sm.g L.Sm.kp L.Sm.b .nil pass0 (pa_cons (pe_ix ix_list (pv 1) pe_int fun _ _ => rfl) (pa_cons (pe_ix ix_list (pv 1) pe_int fun _ _ => rfl) pa_nil))))
      (pss_cons (ps_set (i := 5) scL.nd rfl (Or.inl rfl) (pe_call L.Lt.fn hLt (by rfl) L.Lt.g L.Lt.kp L.Lt.b .nil pass0 (pa_cons (pe_lst (pa_cons (pv 4) pa_nil)) pa_nil)))
      (C8.pss_cut (ps_for PassesOwn.never rfl (pi_list (pv 3)) (pg_name (i := 6) scL.nd rfl (Or.inl rfl)) (pss_one (ps_set (i := 5) scL.nd rfl (Or.inl rfl) (pe_call L.Pm.fn hPm (by rfl) L.Pm.g L.Pm.kp L.Pm.b .nil pass0 (pa_cons (pv 5) (pa_cons (pe_tup (pa_cons (pe_tup (pa_cons (pe_un un_neg (pe_ix ix_tup (pv 6) pe_int fun _ _ => rfl)) (pa_cons (pe_ix ix_tup (pv 6) pe_int fun _ _ => rfl) pa_nil))) (pa_cons (pe_tup (pa_cons pe_int (pa_cons pe_int pa_nil))) pa_nil))) pa_nil))))))
      (pss_cons (ps_set (i := 7) scL.nd rfl (Or.inl rfl) (pe_call L.Po.fn hPo (by rfl) L.Po.g L.Po.kp L.Po.b .nil pass0 (pa_cons (pe_slice sl_list (pv 1) (po_some pe_int) (po_some pe_int)) (pa_cons (pe_op op_modN (pe_ix ix_list (pv 1) pe_int fun _ _ => rfl) pe_int) pa_nil))))
      (C8.pss_cut (ps_if (PW.pt (pw_and (pt_cmpR op_gt (pe_callB call_len_seq (by rfl) T.len PySem.boot_len (pa_cons (pv 3) pa_nil)) pe_int (nomark _)) (pw_and1 (pt_cmpR op_eq (pe_op op_modN (pe_ix ix_list (pv 1) pe_int fun _ _ => rfl) pe_int) pe_int (nomark _))))) (pss_one (ps_set (i := 7) scL.nd rfl (Or.inl rfl) (pe_call L.Pm.fn hPm (by rfl) L.Pm.g L.Pm.kp L.Pm.b .nil pass0 (pa_cons (pv 7) (pa_cons (pe_tup (pa_cons (pe_tup (pa_cons (pe_un un_neg (pe_ix ix_tup (pe_ix ix_list (pv 3) pe_int fun _ _ => rfl) pe_int fun _ _ => rfl)) (pa_cons (pe_ix ix_tup (pe_ix ix_list (pv 3) pe_int fun _ _ => rfl) pe_int fun _ _ => rfl) pa_nil))) (pa_cons (pe_tup (pa_cons pe_int (pa_cons pe_int pa_nil))) pa_nil))) pa_nil))))) pss_nil)
      (pss_cons (ps_par (i := 8) (j := 9) rfl scL.nd rfl rfl (by decide) rfl rfl (pa_cons (pe_call L.Mk.fn hMk (by rfl) L.Mk.g L.Mk.kp L.Mk.b .nil pass0 (pa_cons (pv 5) pa_nil)) (pa_cons (pe_call L.Mk.fn hMk (by rfl) L.Mk.g L.Mk.kp L.Mk.b .nil pass0 (pa_cons (pv 7) pa_nil)) pa_nil)) rfl)
      (pss_cons (ps_set (i := 10) scL.nd rfl (Or.inl rfl) (pe_call L.Du.fn hDu (by rfl) L.Du.g L.Du.kp L.Du.b .nil pass0 (pa_cons (pv 4) (pa_cons (pv 3) (pa_cons (pv 7) (pa_cons (pe_op op_sub (pe_callB call_len_seq (by rfl) T.len PySem.boot_len (pa_cons (pv 7) pa_nil)) pe_int) pa_nil))))))
      (pss_cons (ps_set (i := 11) scL.nd rfl (Or.inl rfl) (pv 10))
      (C8.pss_cut (ps_if (PW.pt (pw_and (pt_cmpR op_gt (pe_callB call_len_seq (by rfl) T.len PySem.boot_len (pa_cons (pv 5) pa_nil)) pe_int (nomark _)) (pw_and (pt_cmpR op_gt (pe_callB call_len_seq (by rfl) T.len PySem.boot_len (pa_cons (pv 7) pa_nil)) pe_int (nomark _)) (pw_and1 (pt_cmpR op_eq (pe_op op_modN (pe_op op_mulB (pe_op op_sub (pe_callB call_len_seq (by rfl) T.len PySem.boot_len (pa_cons (pv 5) pa_nil)) pe_int) (pe_op op_sub (pe_callB call_len_seq (by rfl) T.len PySem.boot_len (pa_cons (pv 7) pa_nil)) pe_int)) pe_int) pe_int (nomark _)))))) (pss_one (ps_set (i := 11) scL.nd rfl (Or.inl rfl) (pe_tup (pa_cons (pe_un un_neg (pe_ix ix_tup (pv 10) pe_int fun _ _ => rfl)) (pa_cons (pe_ix ix_tup (pv 10) pe_int fun _ _ => rfl) pa_nil))))) pss_nil)
      (pss_cons (ps_if (PW.pt (pw_or (pt_cmpR (op_neD hr.units) (pe_call L.Pr.fn hPr (by rfl) L.Pr.g L.Pr.kp L.Pr.b .nil pass0 (pa_cons (pe_call L.Re.fn hRe (by rfl) L.Re.g L.Re.kp L.Re.b .nil pass0 (pa_cons (pv 8) (pa_cons (pv 9) pa_nil))) pa_nil)) (pv 10) (nomark _)) (pw_or1 (pt_cmpR (op_neD hr.units) (pe_call L.Pr.fn hPr (by rfl) L.Pr.g L.Pr.kp L.Pr.b .nil pass0 (pa_cons (pe_call L.Re.fn hRe (by rfl) L.Re.g L.Re.kp L.Re.b .nil pass0 (pa_cons (pv 9) (pa_cons (pv 8) pa_nil))) pa_nil)) (pv 11) (nomark _))))) (pss_one (ps_ret pe_bl)) pss_nil)
      (pss_cons (ps_setLc (i := 12) (own := [("k", 2)]) (g := gName 2) (tt := tYes) (te := tCall spLp [] E0 (tCons (tSl (rSlL K) (tVar 1) (tPart (tOp (rI0 fun i j => .int (i + j)) (tC (.int 28)) (tOp (rI (fun i j => intBits i + intBits j ≤ 134217728) fun i j => .int (i * j)) (tC (.int 8)) (tVar 2)))) (tPart (tOp (rI0 fun i j => .int (i + j)) (tC (.int 36)) (tOp (rI (fun i j => intBits i + intBits j ≤ 134217728) fun i j => .int (i * j)) (tC (.int 8)) (tVar 2))))) (tCons (tOp (rI (fun _ j => j ≠ 0) fun i j => .int (i.fmod j)) (tOp (rIxL K) (tVar 1) (tOp (rI0 fun i j => .int (i + j)) (tC (.int 52)) (tVar 2))) (tC (.int 4))) tNil))) rfl scL.nd rfl rfl rfl (pi_range1 (by rfl) T.range (pa_cons (pe_op op_modN (pe_ix ix_list (pv 1) pe_int fun _ _ => rfl) pe_int) pa_nil)) (blkOk_by (N := nL) (sc := defScope sLaw) (by decide +kernel)) (fun _ _ _ _ _ => (pg_name (i := 2) scL.nd rfl (Or.inl rfl))) (fun _ _ _ _ _ => pts_nil) (fun _ _ _ _ _ => (pe_call L.Po.fn hPo (by rfl) L.Po.g L.Po.kp L.Po.b .nil pass0 (pa_cons (pe_slice sl_list (pv 1) (po_some (pe_op op_add pe_int (pe_op op_mulB pe_int (pv 2)))) (po_some (pe_op op_add pe_int (pe_op op_mulB pe_int (pv 2))))) (pa_cons (pe_op op_modN (pe_ix ix_list (pv 1) (pe_op op_add pe_int (pv 2)) fun _ _ => rfl) pe_int) pa_nil)))))
      (pss_cons (ps_set (i := 13) scL.nd rfl (Or.inl rfl) (pe_callTy call_tuple_of (by rfl) TP.tuple (by decide +kernel) (pa_cons (pe_lc (own := [("line", 19)]) (g := gName 19) (tt := tYes) (te := tCall (spLk C CP) [] E0 (tCons (tVar 19) tNil)) rfl scL.nd (pi_list (pv 12)) (blkOk_by (N := nL) (sc := defScope sLaw) (by decide +kernel)) (fun _ _ _ _ _ => (pg_name (i := 19) scL.nd rfl (Or.inl rfl))) (fun _ _ _ _ _ => pts_nil) (fun _ _ _ _ _ => (pe_call L.Mk.fn hMk (by rfl) L.Mk.g L.Mk.kp L.Mk.b .nil pass0 (pa_cons (pv 19) pa_nil)))) pa_nil)))
      (pss_cons (ps_if (pt_not (pt_val (pe_call L.Rf.fn hRf (by rfl) L.Rf.g L.Rf.kp L.Rf.b .nil pass0 (pa_cons (pv 13) pa_nil)))) (pss_one (ps_ret pe_bl)) pss_nil)
      (pss_cons (ps_if (pt_cmpR op_lt (pe_callB call_len_seq (by rfl) T.len PySem.boot_len (pa_cons (pv 5) pa_nil)) pe_int (nomark _)) (pss_one (ps_ret pe_bl)) pss_nil)
      (pss_cons (ps_set (i := 14) scL.nd rfl (Or.inl rfl) (pe_call L.Rw.fn hRw (by rfl) L.Rw.g L.Rw.kp L.Rw.b .nil pass0 (pa_cons (pe_call (E := E0) L.Rv.fn hRv (by rfl) L.Rv.g L.Rv.kp L.Rv.b .nil passL (pa_cons (pv 8) (pa_cons (pv 13) pa_nil))) pa_nil)))
      (pss_cons (ps_if (PW.pt (pw_or (pt_cmpR op_isN (pv 14) pe_non (nomark _)) (pw_or1 (pt_cmpR op_gt (pe_op op_sub (pe_callB call_len_seq (by rfl) T.len PySem.boot_len (pa_cons (pv 14) pa_nil)) pe_int) (pe_op op_mulB (pe_callB (call_max2 rfl) (by rfl) hmax boot_max (pa_cons pe_int (pa_cons (pe_op op_sub (pe_callB call_len_seq (by rfl) T.len PySem.boot_len (pa_cons (pv 12) pa_nil)) pe_int) pa_nil))) (pe_op op_sub (pe_callB call_len_seq (by rfl) T.len PySem.boot_len (pa_cons (pv 5) pa_nil)) pe_int)) (nomark _))))) (pss_one (ps_ret pe_bl)) pss_nil)
      (pss_cons (ps_set (i := 15) scL.nd rfl (Or.inl rfl) (pe_callB (cr_max rfl) (by rfl) hmax boot_max (pa_cons (pe_op op_cat (pe_lc (own := [("line", 19)]) (g := gName 19) (tt := tYes) (te := tOp (rI0 fun i j => .int (i - j)) (tCB (fun xs H Q => ∃ p ys, xs = [.ref p] ∧ (SqL K H p ys ∨ SqT K H p ys) ∧ Q (.int ys.length) H) (tCons (tVar 19) tNil)) (tC (.int 1))) rfl scL.nd (pi_list (pv 12)) (blkOk_by (N := nL) (sc := defScope sLaw) (by decide +kernel)) (fun _ _ _ _ _ => (pg_name (i := 19) scL.nd rfl (Or.inl rfl))) (fun _ _ _ _ _ => pts_nil) (fun _ _ _ _ _ => (pe_op op_sub (pe_callB call_len_seq (by rfl) T.len PySem.boot_len (pa_cons (pv 19) pa_nil)) pe_int))) (pe_lst (pa_cons pe_int pa_nil))) pa_nil)))
      (pss_cons (ps_for PassesOwn.never rfl (pi_range1 (by rfl) T.range (pa_cons pe_int pa_nil)) (pg_name (i := 16) scL.nd rfl (Or.inl rfl)) (pss_cons (ps_set (i := 17) scL.nd rfl (Or.inl rfl) (pe_call L.Ra.fn hRa (by rfl) L.Ra.g L.Ra.kp L.Ra.b .nil pass0 (pa_cons (pe_op op_sub (pv 16) pe_int) (pa_cons (pe_op op_add (pe_op op_modN (pv 16) pe_int) pe_int) pa_nil))))
      (pss_cons (ps_set (i := 18) scL.nd rfl (Or.inl rfl) (pe_tup pa_nil))
      (C8.pss_cut (ps_for PassesOwn.never rfl (pi_range1 (by rfl) T.range (pa_cons (pe_callB call_len_seq (by rfl) T.len PySem.boot_len (pa_cons (pv 12) pa_nil)) pa_nil)) (pg_name (i := 2) scL.nd rfl (Or.inl rfl)) (pss_one (ps_set (i := 18) scL.nd rfl (Or.inl rfl) (pe_call L.Pa.fn hPa (by rfl) L.Pa.g L.Pa.kp L.Pa.b .nil pass0 (pa_cons (pe_call L.Pm.fn hPm (by rfl) L.Pm.g L.Pm.kp L.Pm.b .nil pass0 (pa_cons (pv 18) (pa_cons (pe_call L.Lt.fn hLt (by rfl) L.Lt.g L.Lt.kp L.Lt.b .nil pass0 (pa_cons (pe_lst (pa_cons (pv 17) pa_nil)) pa_nil)) pa_nil))) (pa_cons (pe_ix ix_list (pv 12) (pe_op op_sub (pe_op op_sub (pe_callB call_len_seq (by rfl) T.len PySem.boot_len (pa_cons (pv 12) pa_nil)) pe_int) (pv 2)) fun _ _ => rfl) pa_nil))))))
      (pss_one (ps_if (pt_cmpR (op_neD hr.units) (pe_call L.Lv.fn hLv (by rfl) L.Lv.g L.Lv.kp L.Lv.b .nil pass0 (pa_cons (pv 14) (pa_cons (pv 17) pa_nil))) (pe_call L.Du.fn hDu (by rfl) L.Du.g L.Du.kp L.Du.b .nil pass0 (pa_cons (pv 4) (pa_cons (pv 3) (pa_cons (pv 18) (pa_cons (pv 15) pa_nil))))) (nomark _)) (pss_one (ps_ret pe_bl)) pss_nil))))))
      (pss_one (ps_ret pe_bl))))))))))))))))))))))), ?_⟩
    refine ⟨_, rfl, a, ns, 0, 60, 95, rfl, hS, by decide, by decide, by decide, by decide, fun ds H1 l hR s1 _ hl => ?_⟩
    have dl := hR.1
    have at_r : ∀ {j : Nat}, j < 60 → ∃ x, atI (ds.map V.int) ((j : Nat) : Int) = some (.int x) := fun {j} hj =>
      ⟨_, atI_of (k := j) (by rw [List.getElem?_map, List.getElem?_eq_getElem (show j < ds.length by omega)]; rfl)⟩
    -- the roots
    obtain ⟨x1, hx1⟩ := at_r (j := 1) (by decide)
    have f1 := fmod_in (x := x1) (b := 5) (by decide)
    obtain ⟨N, eN⟩ : ∃ N : Nat, x1.fmod 5 = (N : Int) := ⟨(x1.fmod 5).toNat, (Int.toNat_of_nonneg f1.1).symm⟩
    rw [eN] at f1
    refine ⟨_, rfl, l, _, _, _, rfl, rfl, SqL.of hl, hx1, _, _, rfl, rfl, (by show (5 : Int) ≠ 0; decide), _, rfl, by rw [eN]; omega, by rw [eN]; omega, fun R hR1 => ?_⟩
    rw [eN, Int.toNat_natCast]
    refine lc_range (lo := 0) (n := N) (fun i H2 => ∃ cs, Col PairQ R H1 H2 cs ∧ cs.length = i ∧ ∀ c ∈ cs, S9 c) ⟨[], Col.start hR1, rfl, fun c h => absurd h (by simp)⟩ ?_ ?_
    · rintro i H2 hi ⟨cs, z, zl, zs⟩
      obtain ⟨u, hu⟩ := at_r (j := 16 + 2 * i) (by omega)
      obtain ⟨v, hv⟩ := at_r (j := 17 + 2 * i) (by omega)
      have e1 : (16 : Int) + 2 * (0 + (i : Int)) = ((16 + 2 * i : Nat) : Int) := by omega
      have e2 : (17 : Int) + 2 * (0 + (i : Int)) = ((17 + 2 * i : Nat) : Int) := by omega
      have bi : intBits (0 + (i : Int)) ≤ 10 := PySem.intBits_le_iff.mpr (by omega)
      have b2 : intBits (2 : Int) ≤ 2 := by decide
      have hl2 := z.s _ _ hl
      refine ⟨rfl, _, rfl, _, rfl, _, _, rfl, rfl, (by show intBits 2 + intBits (0 + (i : Int)) ≤ 134217728; omega), _, _, rfl, rfl, l, _, _, V.int u, rfl, rfl, SqL.of hl2, (by rw [e1]; exact hu),
        _, rfl, _, rfl, _, _, rfl, rfl, (by show intBits 2 + intBits (0 + (i : Int)) ≤ 134217728; omega), _, _, rfl, rfl, l, _, _, V.int v, rfl, rfl, SqL.of hl2, (by rw [e2]; exact hv), u, v, rfl, fun H3 t s3 ht => ?_⟩
      obtain ⟨acc, g1, g2, g3⟩ := z.push (PairQ.stb.x R) hR1 s3 ht (by omega)
      refine ⟨acc, g1, g2, _, g3, by rw [List.length_append, zl]; rfl, fun c hc => ?_⟩
      rcases List.mem_append.mp hc with h | h
      · exact zs c h
      · rw [List.mem_singleton.mp h]
        exact s9_mk u v
    rintro H2 ⟨cs0, z2, zl2, zs2⟩
    have hl2 := z2.s _ _ hl
    -- the second root
    refine ⟨fun σ' Ha => ∃ (cs : List Q2), σ' = [some (.ref a), some (.ref l), none, some (.ref R), none, none, none, none, none, none, none, none, none, none, none, none, none, none, none, none] ∧ Ha l = some (.lst (ds.map V.int)) ∧ Ls PairQ Ha R cs ∧ cs.length = N ∧ ∀ c ∈ cs, S9 c, ?_, ?_⟩
    · obtain ⟨pR, eR, qR⟩ := id z2.at_
      have lR : (pR.map V.ref).length = N := by rw [List.length_map, qR.length, zl2]
      have lne : l ≠ R := ne_of_none hl hR1
      have keep : ∃ (cs : List Q2), [some (V.ref a), some (.ref l), none, some (.ref R), none, none, none, none, none, none, none, none, none, none, none, none, none, none, none, none] = [some (V.ref a), some (.ref l), none, some (.ref R), none, none, none, none, none, none, none, none, none, none, none, none, none, none, none, none] ∧ H2 l = some (.lst (ds.map V.int)) ∧ Ls PairQ H2 R cs ∧ cs.length = N ∧ ∀ c ∈ cs, S9 c := ⟨cs0, rfl, hl2, z2.at_, zl2, zs2⟩
      obtain ⟨x2, hx2⟩ := at_r (j := 2) (by decide)
      refine ⟨_, rfl, R, _, rfl, .inl (SqL.of eR), _, _, rfl, rfl, _, rfl, ?_⟩
      rw [lR]
      by_cases cN : 1 < N
      · rw [show decide ((1 : Int) < ((N : Nat) : Int)) = true from decide_eq_true (by omega)]
        refine iteT ⟨_, rfl, l, _, _, _, rfl, rfl, SqL.of hl2, hx2, _, _, rfl, rfl, (by show (4 : Int) ≠ 0; decide), rfl, _, rfl, ite2 (fun c => ?_) (fun c => ?_)⟩
        · obtain ⟨c0, hc0, _, hc0m⟩ := at_d (qs := cs0) (j := 0) (by omega)
          obtain ⟨a0, ha0, hra0⟩ := Paired.at2 qR hc0
          refine ⟨_, rfl, R, _, _, V.ref a0, rfl, rfl, SqL.of eR, atI_of (k := 0) (ref_at ha0), ?_⟩
          refine ⟨_, rfl, R, pR.map V.ref, _, 1, rfl, rfl, eR, (ixN_of (by rw [lR]; omega)), cs0.set 1 c0, rfl, ?_, ⟨pR.set 1 a0, ?_, ?_⟩, by rw [List.length_set]; exact zl2, fun c hc => ?_⟩
          · rw [upd_ne lne]
            exact hl2
          · rw [upd_same, List.map_set]
          · exact paired_set ((PairQ.stb.x R) _ _ _ _ (sx_upd eR) hra0) (Paired.imp (fun a b f => (PairQ.stb.x R) _ _ a b (sx_upd eR) f) qR) _
          · rcases List.mem_or_eq_of_mem_set hc with h | h
            · exact zs2 c h
            · rw [h]
              exact zs2 c0 hc0m
        · exact keep
      · rw [show decide ((1 : Int) < ((N : Nat) : Int)) = false from decide_eq_false (by omega)]
        exact iteF (iteF keep)
    rintro σ' H3 ⟨cs, rfl, hl3, hcs3, csl, hs9⟩
    have N4 : N ≤ 4 := by omega
    -- head, p
    obtain ⟨x26, hx26⟩ := at_r (j := 26) (by decide)
    obtain ⟨x27, hx27⟩ := at_r (j := 27) (by decide)
    refine ⟨_, rfl, l, _, _, _, rfl, rfl, SqL.of hl3, hx26, _, rfl, l, _, _, _, rfl, rfl, SqL.of hl3, hx27, x26, x27, rfl, fun H4 th s4 hth => ?_⟩
    have h9 := s9_mk x26 x27
    generalize smq x26 x27 = hd at hth h9
    have lhd := h9.s.lo
    refine ⟨_, rfl, (by show 1 ≤ sizeLine; decide), fun t5 ht5 => ?_⟩
    have st5 := same_upd (o := .lst [V.ref th]) ht5
    refine ⟨t5, [hd], rfl, ⟨[th], upd_same, .cons (PairQ.stb.same st5 hth) .nil⟩, (by show 1 ≤ 1000; decide), fun H5 tp0 s5 hp0 => ?_⟩
    have s45 := st5.trans s5
    have hcs5 := Ls.same PairQ.stb (s4.trans s45) hcs3
    have hl5 := s45 _ _ (s4 _ _ hl3)
    have hth5 := PairQ.stb.same s45 hth
    obtain ⟨pR, eR, qR⟩ := id hcs5
    have lR : (pR.map V.ref).length = cs.length := by rw [List.length_map, qR.length]
    refine ⟨fun σ' Ha => ∃ (tp : Addr) (ps : List Q2) (v6 : Option V), σ' = [some (.ref a), some (.ref l), none, some (.ref R), some (.ref th), some (.ref tp), v6, none, none, none, none, none, none, none, none, none, none, none, none, none] ∧ Same H5 Ha ∧ Tp PairQ Ha tp ps ∧ Trim ps ∧ (∀ q ∈ ps, Lo q) ∧ PSz 22 ps ∧ ps.length ≤ cs.length + 1 ∧ (∀ q ∈ ps, Bq 30 q) ∧ rowF ps = facL (dl0 (rv hd)) (cs.map rv), ?_, ?_⟩
    · refine ⟨_, rfl, R, rfl, ⟨_, SqL.of eR⟩, ?_⟩
      have t0 : trimQ [hd] = [] ∨ trimQ [hd] = [hd] := by
        show (if hd.1 = 0 then [] else [hd]) = [] ∨ (if hd.1 = 0 then [] else [hd]) = [hd]
        by_cases c : hd.1 = 0
        · rw [if_pos c]
          exact .inl rfl
        · rw [if_neg c]
          exact .inr rfl
      refine for_it (walk_list (K := K) (a := R) (xs := pR.map V.ref))
        (fun i σ Ha => ∃ (tp : Addr) (ps : List Q2) (v6 : Option V) (M : Int), σ = [some (.ref a), some (.ref l), none, some (.ref R), some (.ref th), some (.ref tp), v6, none, none, none, none, none, none, none, none, none, none, none, none, none] ∧ Same H5 Ha ∧ Tp PairQ Ha tp ps ∧ Trim ps ∧ 0 < M ∧ M.natAbs ≤ 5 * 5 ^ i ∧ (∀ q ∈ ps, Mq M (pB i) q) ∧ ps.length ≤ i + 1 ∧ rowF ps = facL (dl0 (rv hd)) ((cs.take i).map rv))
        ⟨tp0, trimQ [hd], none, hd.2, rfl, same_rfl, hp0, trim_trim _, lhd.pos, Nat.le_trans h9.d (by decide), fun q hq => hd_mq h9 (t0.elim (fun e => by rw [e] at hq; cases hq) (fun e => by rw [e] at hq; exact List.mem_singleton.mp hq)), trim_len _, by
          funext j
          rw [trim_row]
          exact one_row hd j⟩ (fun i σ Ha _ ⟨tp, ps, v6, M, _, s5, _⟩ => SqL.of (s5 _ _ eR)) ?_ ?_
      · rintro i y σ Ha Hb hi ⟨tp, ps, v6, M, rfl, s6, hp, trp, m0, mM, mqB, pl, fp⟩ ⟨rfl, hy⟩
        rw [lR] at hi
        obtain ⟨c, hc1, _, hc3⟩ := at_d (qs := cs) hi
        obtain ⟨pc, hpc, hrc⟩ := Paired.at2 qR hc1
        rw [ref_at hpc] at hy
        have hy := Option.some.inj hy
        subst hy
        have hrc6 := PairQ.stb.same s6 hrc
        have hc9 := hs9 c hc3
        refine ⟨_, rfl, _, rfl, pc, _, _, _, rfl, rfl, SqT.of hrc6, rfl, _, rfl, _, rfl, pc, _, _, _, rfl, rfl, SqT.of hrc6, rfl, (by show 2 ≤ sizeLine; decide), fun t1 ht1 => ?_⟩
        have st1 := same_upd (o := .tup [V.int (-c.1), V.int c.2]) ht1
        refine ⟨(by show 2 ≤ sizeLine; decide), fun t2 ht2 => ?_⟩
        have st2 := same_upd (o := .tup [V.int 1, V.int 1]) ht2
        refine ⟨(by show 2 ≤ sizeLine; decide), fun t3 ht3 => ?_⟩
        have st3 := same_upd (o := .tup [V.ref t1, V.ref t2]) ht3
        have hf := fac_tp ht1 ht2 ht3
        have s123 := (st1.trans st2).trans st3
        have i4 : i ≤ 4 := by omega
        have i54 : 5 ^ i ≤ 5 ^ 4 := Nat.pow_le_pow_right (by decide) i4
        have m200 : M.natAbs < 2 ^ 200 := by
          have : 5 * 5 ^ i ≤ 5 * 5 ^ 4 := Nat.mul_le_mul_left 5 i54
          exact Nat.lt_of_le_of_lt (Nat.le_trans mM this) (by decide)
        refine ⟨tp, t3, ps, facQ c, M, c.2, pB i, 9, rfl, VecP.stb.same s123 hp, hf, by omega, by show 2 ≤ 20; decide, m0, hc9.s.lo.pos, m200, Nat.lt_of_le_of_lt hc9.d (by decide), Nat.lt_trans (pB_lt i4) (by decide), by decide, mqB, fac_mq hc9, fun H9 t9 rs s9 ht9 trr mqr lr fr2 => ?_⟩
        refine ⟨t9, rs, _, M * c.2, rfl, s6.trans (s123.trans s9), ht9, trr, Int.mul_pos m0 hc9.s.lo.pos, ?_, fun q hq => mq_mono (mqr q hq) (Nat.mul_le_mul_left _ pl), ?_, ?_⟩
        · rw [Int.natAbs_mul, Nat.pow_succ, ← Nat.mul_assoc]
          exact Nat.mul_le_mul mM hc9.d
        · exact trim_short trr (fun q hq => (mqr q hq).1) fun j hj => by
            rw [fr2 j, fac_row, fp]
            exact facL_fs _ hc1 j hj
        · funext j
          rw [fr2 j, fac_row, fp, take_snoc hc1, List.map_append]
          show _ = facL _ (_ ++ [rv c]) j
          rw [facL_snoc]
      · rintro σ Ha ⟨tp, ps, v6, M, rfl, s6, hp, trp, m0, mM, mqB, pl, fp⟩
        rw [lR] at mM mqB pl fp
        rw [List.take_length] at fp
        have m5 : M.natAbs < 2 ^ 22 := Nat.lt_of_le_of_lt mM (Nat.lt_of_le_of_lt (Nat.mul_le_mul_left 5 (Nat.pow_le_pow_right (by decide) (show cs.length ≤ 4 by omega))) (by decide))
        have pb : pB cs.length < 2 ^ 22 := pB_lt (by omega)
        exact ⟨tp, ps, v6, rfl, s6, hp, trp, fun q hq => (mqB q hq).1, mq_psz m0 mqB pb m5 (by omega), pl, fun q hq => (mq_bq m0 (mqB q hq) pb m5).mono (by decide), fp⟩
    rintro σ' H6 ⟨tp, ps, v6, rfl, s6, hp6, trp, lop, zp, plen, bp, fp⟩
    have hcs6 := Ls.same PairQ.stb s6 hcs5
    have hl6 := s6 _ _ hl5
    have hth6 := PairQ.stb.same s6 hth5
    have eR6 := s6 _ _ eR
    -- q
    obtain ⟨x0, hx0⟩ := at_r (j := 0) (by decide)
    have f0 := fmod_in (x := x0) (b := 6) (by decide)
    obtain ⟨c0, ec0⟩ : ∃ c0 : Nat, x0.fmod 6 = (c0 : Int) := ⟨(x0.fmod 6).toNat, (Int.toNat_of_nonneg f0.1).symm⟩
    rw [ec0] at f0
    refine ⟨_, rfl, _, rfl, _, rfl, l, _, rfl, SqL.of hl6, fun t1 ht1 => ?_⟩
    have u1 : cutV (ds.map V.int) (some 4) (some 16) = ((ds.drop 4).take 12).map V.int := cut_mid ds (a := 4) (b := 16) (by decide) (by omega)
    have st1 := same_upd (o := .lst (cutV (ds.map V.int) (some 4) (some 16))) ht1
    refine ⟨_, rfl, l, _, _, _, rfl, rfl, SqL.of (st1 _ _ hl6), hx0, _, _, rfl, rfl, (by show (6 : Int) ≠ 0; decide), ?_⟩
    refine ⟨t1, (ds.drop 4).take 12, c0, congrArg (fun z => [V.ref t1, V.int z]) ec0, upd_same.trans (by rw [u1]), by rw [List.length_take, List.length_drop]; omega, by omega, fun H7 tq0 qs0 s7 hq7 trq0 smq0 lq0 => ?_⟩
    have s67 := st1.trans s7
    have hl7 := s67 _ _ hl6
    have hcs7 := Ls.same PairQ.stb s67 hcs6
    have eR7 := s67 _ _ eR6
    have hp7 := VecP.stb.same s67 hp6
    refine ⟨fun σ' Ha => ∃ (tq : Addr) (qs : List Q2), σ' = [some (.ref a), some (.ref l), none, some (.ref R), some (.ref th), some (.ref tp), v6, some (.ref tq), none, none, none, none, none, none, none, none, none, none, none, none] ∧ Same H7 Ha ∧ Tp PairQ Ha tq qs ∧ Trim qs ∧ (∀ q ∈ qs, Lo q) ∧ PSz 22 qs ∧ qs.length ≤ 6 ∧ (∀ q ∈ qs, Bq 30 q), ?_, ?_⟩
    · have keep : ∃ (tq : Addr) (qs : List Q2), [some (V.ref a), some (.ref l), none, some (.ref R), some (.ref th), some (.ref tp), v6, some (.ref tq0), none, none, none, none, none, none, none, none, none, none, none, none] = [some (V.ref a), some (.ref l), none, some (.ref R), some (.ref th), some (.ref tp), v6, some (.ref tq), none, none, none, none, none, none, none, none, none, none, none, none] ∧ Same H7 H7 ∧ Tp PairQ H7 tq qs ∧ Trim qs ∧ (∀ q ∈ qs, Lo q) ∧ PSz 22 qs ∧ qs.length ≤ 6 ∧ (∀ q ∈ qs, Bq 30 q) :=
        ⟨tq0, qs0, rfl, same_rfl, hq7, trq0, fun q hq => (smq0 q hq).lo, mq_psz (M := 60) (B := 900) (by decide) (fun q hq => mq_sm (smq0 q hq)) (by decide) (by decide) (by omega), by omega, fun q hq => (smq0 q hq).bq.mono (by decide)⟩
      obtain ⟨x2, hx2⟩ := at_r (j := 2) (by decide)
      refine ⟨_, rfl, R, _, rfl, .inl (SqL.of eR7), _, _, rfl, rfl, _, rfl, ?_⟩
      rw [lR]
      by_cases cN : 0 < cs.length
      · rw [show decide ((0 : Int) < ((cs.length : Nat) : Int)) = true from decide_eq_true (by omega)]
        refine iteT ⟨_, rfl, l, _, _, _, rfl, rfl, SqL.of hl7, hx2, _, _, rfl, rfl, (by show (5 : Int) ≠ 0; decide), rfl, _, rfl, ite2 (fun c => ?_) (fun c => ?_)⟩
        · obtain ⟨c, hc1, _, hc3⟩ := at_d (qs := cs) (j := 0) cN
          obtain ⟨pc, hpc, hrc⟩ := Paired.at2 qR hc1
          have hrc7 := PairQ.stb.same (s6.trans s67) hrc
          have hc9 := hs9 c hc3
          refine ⟨_, rfl, _, rfl, R, _, _, V.ref pc, rfl, rfl, SqL.of eR7, atI_of (k := 0) (ref_at hpc), pc, _, _, _, rfl, rfl, SqT.of hrc7, rfl, _, rfl, _, rfl, R, _, _, V.ref pc, rfl, rfl, SqL.of eR7, atI_of (k := 0) (ref_at hpc), pc, _, _, _, rfl, rfl, SqT.of hrc7, rfl, (by show 2 ≤ sizeLine; decide), fun t1 ht1 => ?_⟩
          have st1 := same_upd (o := .tup [V.int (-c.1), V.int c.2]) ht1
          refine ⟨(by show 2 ≤ sizeLine; decide), fun t2 ht2 => ?_⟩
          have st2 := same_upd (o := .tup [V.int 1, V.int 1]) ht2
          refine ⟨(by show 2 ≤ sizeLine; decide), fun t3 ht3 => ?_⟩
          have st3 := same_upd (o := .tup [V.ref t1, V.ref t2]) ht3
          have hf := fac_tp ht1 ht2 ht3
          have s123 := (st1.trans st2).trans st3
          refine ⟨tq0, t3, qs0, facQ c, 60, c.2, 900, 9, rfl, VecP.stb.same s123 hq7, hf, by omega, by show 2 ≤ 20; decide, by decide, hc9.s.lo.pos, by decide, Nat.lt_of_le_of_lt hc9.d (by decide), by decide, by decide, fun q hq => mq_sm (smq0 q hq), fac_mq hc9, fun H9 t9 rs s9 ht9 trr mqr lr fr2 => ?_⟩
          have l5 : qs0.length ≤ 5 := by omega
          have hrl : rs.length ≤ 6 := trim_short trr (fun q hq => (mqr q hq).1) fun j hj => by
            rw [fr2 j, fac_row]
            exact cv_out1 (n := 4) (m := 1) ((fs_row qs0).mono (by omega)) (lx_fs (rv c)) j hj
          have m0 : 0 < 60 * c.2 := Int.mul_pos (by decide) hc9.s.lo.pos
          have mM : (60 * c.2).natAbs < 2 ^ 22 := by
            rw [Int.natAbs_mul]
            exact Nat.lt_of_le_of_lt (Nat.mul_le_mul_left 60 hc9.d) (by decide)
          have bb : 900 * 9 * qs0.length < 2 ^ 22 := Nat.lt_of_le_of_lt (Nat.mul_le_mul_left (900 * 9) l5) (by decide)
          exact ⟨t9, rs, rfl, s123.trans s9, ht9, trr, fun q hq => (mqr q hq).1, mq_psz m0 mqr bb mM (by omega), hrl, fun q hq => (mq_bq m0 (mqr q hq) bb mM).mono (by decide)⟩
        · exact keep
      · rw [show decide ((0 : Int) < ((cs.length : Nat) : Int)) = false from decide_eq_false (by omega)]
        exact iteF (iteF keep)
    rintro σ' H8 ⟨tq, qs, rfl, s8, hq8, trq, loq, zq, qlen, bq⟩
    have S68 := s67.trans s8
    have hp8 := VecP.stb.same S68 hp6
    -- a, b
    refine ⟨_, rfl, tp, ps, 22, rfl, hp8, zp, by decide, trp, fun H9 pa s9 hpa => ?_⟩
    refine ⟨_, rfl, tq, qs, 22, rfl, VecP.stb.same s9 hq8, zq, by decide, trq, fun H10 pb s10 hpb => ?_⟩
    refine ⟨_, _, rfl, ?_⟩
    have S8a := s9.trans s10
    have S6a := S68.trans S8a
    have hth10 := PairQ.stb.same S6a hth6
    have hcs10 := Ls.same PairQ.stb S6a hcs6
    have hq10 := VecP.stb.same S8a hq8
    have hp10 := VecP.stb.same S8a hp8
    have hpa10 := (PolyAt.stb C CP).same s10 hpa
    obtain ⟨aq, eq10, qq10⟩ := id hq10
    obtain ⟨ap, ep10, qp10⟩ := id hp10
    have lq1 : (aq.map V.ref).length = qs.length := by rw [List.length_map, qq10.length]
    have lp1 : (ap.map V.ref).length = ps.length := by rw [List.length_map, qp10.length]
    have hcB : ∀ c ∈ cs, Lo c ∧ Bq 5000 c := fun c hc => ⟨(hs9 c hc).s.lo, (hs9 c hc).s.bq.mono (by decide)⟩
    refine ⟨_, rfl, _, rfl, _, rfl, _, rfl, tq, _, rfl, .inr (SqT.of eq10), _, _, rfl, rfl, ?_⟩
    unfold tNil
    show spLd2 [.ref th, .ref R, .ref tq, .int (((aq.map V.ref).length : Int) - 1)] H10 _ _
    rw [lq1]
    refine ld2_of ⟨th, R, tq, hd, cs, qs, _, qs.length - 1, rfl, hth10, hcs10, hq10, lhd, h9.s.bq.mono (by decide), by omega, hcB, by omega, fun q hq => ⟨loq q hq, (bq q hq).mono (by decide)⟩, fun z => ⟨by have : qs.length ≠ 0 := fun e => z (List.length_eq_zero_iff.mp e); omega, by omega⟩, fun H11 td du s11 htd ldu vdu => ?_⟩
    obtain ⟨rz, rn⟩ := res_pq trp lop trq loq fp lhd vdu
    refine ⟨_, rfl, ?_⟩
    have ep11 := s11 _ _ ep10
    have eq11 := s11 _ _ eq10
    have duz : (ps = [] ∨ qs = []) → rv du = 0 := rz
    refine ⟨fun σ' Ha => ∃ (tb : Addr) (bk : Q2), σ' = [some (.ref a), some (.ref l), none, some (.ref R), some (.ref th), some (.ref tp), v6, some (.ref tq), some (.ref pa), some (.ref pb), some (.ref td), some (.ref tb), none, none, none, none, none, none, none, none] ∧ Same H11 Ha ∧ PairQ Ha tb bk ∧ Lo bk ∧ ((ps = [] ∨ qs = []) → rv bk = 0) ∧ (ps ≠ [] → qs ≠ [] → rv bk = sg ((ps.length - 1) * (qs.length - 1)) * rv du), ?_, ?_⟩
    · have keep : ((ps ≠ [] → qs ≠ [] → (ps.length - 1) * (qs.length - 1) % 2 = 0)) → ∃ (tb : Addr) (bk : Q2), [some (V.ref a), some (.ref l), none, some (.ref R), some (.ref th), some (.ref tp), v6, some (.ref tq), some (.ref pa), some (.ref pb), some (.ref td), some (.ref td), none, none, none, none, none, none, none, none] = [some (V.ref a), some (.ref l), none, some (.ref R), some (.ref th), some (.ref tp), v6, some (.ref tq), some (.ref pa), some (.ref pb), some (.ref td), some (.ref tb), none, none, none, none, none, none, none, none] ∧ Same H11 H11 ∧ PairQ H11 tb bk ∧ Lo bk ∧ ((ps = [] ∨ qs = []) → rv bk = 0) ∧ (ps ≠ [] → qs ≠ [] → rv bk = sg ((ps.length - 1) * (qs.length - 1)) * rv du) :=
        fun h => ⟨td, du, rfl, same_rfl, htd, ldu, duz, fun x y => by
          rw [sg_par, if_neg (by have := h x y; omega)]
          grind⟩
      refine ⟨_, rfl, tp, _, rfl, .inr (SqT.of ep11), _, _, rfl, rfl, _, rfl, ?_⟩
      rw [lp1]
      by_cases cp : 0 < ps.length
      · rw [show decide ((0 : Int) < ((ps.length : Nat) : Int)) = true from decide_eq_true (by omega)]
        refine iteT ⟨_, rfl, tq, _, rfl, .inr (SqT.of eq11), _, _, rfl, rfl, _, rfl, ?_⟩
        rw [lq1]
        by_cases cq : 0 < qs.length
        · rw [show decide ((0 : Int) < ((qs.length : Nat) : Int)) = true from decide_eq_true (by omega)]
          have el : (((ap.map V.ref).length : Int) - 1) * (((aq.map V.ref).length : Int) - 1) = (((ps.length - 1) * (qs.length - 1) : Nat) : Int) := by
            rw [lp1, lq1, Int.natCast_mul, show ((ps.length - 1 : Nat) : Int) = (ps.length : Int) - 1 by omega, show ((qs.length - 1 : Nat) : Int) = (qs.length : Int) - 1 by omega]
          refine iteT ⟨_, rfl, tp, _, rfl, .inr (SqT.of ep11), _, _, rfl, rfl, _, rfl, tq, _, rfl, .inr (SqT.of eq11), _, _, rfl, rfl, _, _, rfl, rfl, ?_, _, _, rfl, rfl, (by show (2 : Int) ≠ 0; decide), rfl, _, rfl, ite2 (fun c => ?_) (fun c => ?_)⟩
          · have h1 : intBits (((ap.map V.ref).length : Int) - 1) ≤ 10 := PySem.intBits_le_iff.mpr (by rw [lp1]; omega)
            have h2 : intBits (((aq.map V.ref).length : Int) - 1) ≤ 10 := PySem.intBits_le_iff.mpr (by rw [lq1]; omega)
            show intBits (((ap.map V.ref).length : Int) - 1) + intBits (((aq.map V.ref).length : Int) - 1) ≤ 134217728
            omega
          · have h1 := V.int.inj (of_decide_eq_true c)
            rw [el, Int.fmod_eq_emod_of_nonneg _ (by decide)] at h1
            have odd : (ps.length - 1) * (qs.length - 1) % 2 = 1 := by
              have : ((((ps.length - 1) * (qs.length - 1) % 2 : Nat)) : Int) = 1 := h1
              omega
            refine ⟨_, rfl, td, _, _, _, rfl, rfl, SqT.of htd, rfl, _, rfl, _, rfl, td, _, _, _, rfl, rfl, SqT.of htd, rfl, (by show 2 ≤ sizeLine; decide), fun t1 ht1 => ?_⟩
            exact ⟨t1, (-du.1, du.2), rfl, same_upd ht1, upd_same, lo_negc ldu, fun z => by rw [rv_negc, duz z]; grind, fun x y => by
              rw [sg_par, if_pos odd, rv_negc]
              grind⟩
          · refine keep fun x y => ?_
            have h1 : ¬ (((ps.length - 1) * (qs.length - 1) % 2 : Nat) : Int) = 1 := fun e => c (decide_eq_true (congrArg V.int (by
              rw [el, Int.fmod_eq_emod_of_nonneg _ (by decide)]
              exact e)))
            omega
        · rw [show decide ((0 : Int) < ((qs.length : Nat) : Int)) = false from decide_eq_false (by omega)]
          exact iteF (iteF (keep fun x y => absurd (List.length_pos_iff.mpr y) cq))
      · rw [show decide ((0 : Int) < ((ps.length : Nat) : Int)) = false from decide_eq_false (by omega)]
        exact iteF (iteF (keep fun x y => absurd (List.length_pos_iff.mpr x) cp))
    rintro σ' H12 ⟨tb, bk, rfl, s12, hbk, lbk, bz, bn⟩
    have s1012 := s11.trans s12
    have hpa12 := (PolyAt.stb C CP).same s1012 hpa10
    have hpb12 := (PolyAt.stb C CP).same s1012 hpb
    -- resultant(a, b)
    refine ⟨_, rfl, _, rfl, ?_⟩
    show spRes C CP [.ref pa, .ref pb] H12 _ _
    refine spRes_of ⟨pa, pb, ps, qs, rv du, rfl, hpa12, hpb12, duz, fun x y => ?_, fun H13 t13 u13 s13 ht13 lu13 ru13 => ?_⟩
    · obtain ⟨n, m, h1, h2, h3, h4⟩ := rn x y
      exact ⟨n, m, h1, h2, by omega, by omega, by omega, zp, zq, h4⟩
    have e13 : u13 = du := lo_eq lu13 ldu ru13
    subst e13
    refine ⟨t13, _, _, rfl, ht13, ldu.pos, ldu.2, fun H14 t14 s14 _ ht14 => ?_⟩
    have s1214 := s13.trans s14
    refine ⟨_, rfl, neD_pair (q := u13) (r := u13) ht14 (PairQ.stb.same (s12.trans s1214) htd) rfl ⟨_, rfl, iteF ?_⟩⟩
    -- resultant(b, a)
    refine ⟨_, rfl, _, rfl, ?_⟩
    show spRes C CP [.ref pb, .ref pa] H14 _ _
    refine spRes_of ⟨pb, pa, qs, ps, rv bk, rfl, (PolyAt.stb C CP).same s1214 hpb12, (PolyAt.stb C CP).same s1214 hpa12, fun z => bz z.symm, fun x y => ?_, fun H15 t15 u15 s15 ht15 lu15 ru15 => ?_⟩
    · obtain ⟨n, m, h1, h2, h3, h4⟩ := rn y x
      refine ⟨m, n, h2, h1, by omega, by omega, by omega, zq, zp, ?_⟩
      have := h4.sym
      rw [bn y x, h1, h2, Nat.add_sub_cancel, Nat.add_sub_cancel]
      exact this
    have e15 : u15 = bk := lo_eq lu15 lbk ru15
    subst e15
    refine ⟨t15, _, _, rfl, ht15, lbk.pos, lbk.2, fun H16 t16 s16 _ ht16 => ?_⟩
    have s1216 := s1214.trans (s15.trans s16)
    refine ⟨_, rfl, neD_pair (q := u15) (r := u15) ht16 (PairQ.stb.same s1216 hbk) rfl ⟨_, rfl, iteF ?_⟩⟩
    have S616 := S6a.trans (s1012.trans s1216)
    have hl16 := S616 _ _ hl6
    -- the lines
    obtain ⟨x3, hx3⟩ := at_r (j := 3) (by decide)
    have f3 := fmod_in (x := x3) (b := 4) (by decide)
    obtain ⟨N3, eN3⟩ : ∃ N3 : Nat, x3.fmod 4 = (N3 : Int) := ⟨(x3.fmod 4).toNat, (Int.toNat_of_nonneg f3.1).symm⟩
    rw [eN3] at f3
    refine ⟨_, rfl, l, _, _, _, rfl, rfl, SqL.of hl16, hx3, _, _, rfl, rfl, (by show (4 : Int) ≠ 0; decide), _, rfl, by rw [eN3]; omega, by rw [eN3]; omega, fun LL hLL => ?_⟩
    rw [eN3, Int.toNat_natCast]
    refine lc_range (lo := 0) (n := N3) (fun i H2 => ∃ ls, Col (Tp PairQ) LL H16 H2 ls ∧ ls.length = i ∧ ∀ q ∈ ls, Trim q ∧ (∀ x ∈ q, Sm x) ∧ q.length ≤ 3) ⟨[], Col.start hLL, rfl, fun c h => absurd h (by simp)⟩ ?_ ?_
    · rintro i H2 hi ⟨ls, z, zl, zs⟩
      obtain ⟨u, hu⟩ := at_r (j := 52 + i) (by omega)
      have fu := fmod_in (x := u) (b := 4) (by decide)
      obtain ⟨cu, ecu⟩ : ∃ cu : Nat, u.fmod 4 = (cu : Int) := ⟨(u.fmod 4).toNat, (Int.toNat_of_nonneg fu.1).symm⟩
      rw [ecu] at fu
      have e1 : (28 : Int) + 8 * (0 + (i : Int)) = ((28 + 8 * i : Nat) : Int) := by omega
      have e2 : (36 : Int) + 8 * (0 + (i : Int)) = ((36 + 8 * i : Nat) : Int) := by omega
      have e3 : (52 : Int) + (0 + (i : Int)) = ((52 + i : Nat) : Int) := by omega
      have bi : intBits (0 + (i : Int)) ≤ 10 := PySem.intBits_le_iff.mpr (by omega)
      have b2 : intBits (8 : Int) ≤ 4 := by decide
      have hl2 := z.s _ _ hl16
      refine ⟨rfl, _, rfl, _, rfl, _, _, rfl, rfl, (by show intBits 8 + intBits (0 + (i : Int)) ≤ 134217728; omega), _, _, rfl, rfl, _, rfl, _, rfl, _, _, rfl, rfl, (by show intBits 8 + intBits (0 + (i : Int)) ≤ 134217728; omega), _, _, rfl, rfl, _, rfl, l, _, rfl, SqL.of hl2, fun t1 ht1 => ?_⟩
      have u1 : cutV (ds.map V.int) (some ((28 : Int) + 8 * (0 + (i : Int)))) (some ((36 : Int) + 8 * (0 + (i : Int)))) = ((ds.drop (28 + 8 * i)).take 8).map V.int := by
        rw [e1, e2, cut_mid ds (by omega) (by omega), show 36 + 8 * i - (28 + 8 * i) = 8 by omega]
      have st1 := same_upd (o := .lst (cutV (ds.map V.int) (some ((28 : Int) + 8 * (0 + (i : Int)))) (some ((36 : Int) + 8 * (0 + (i : Int)))))) ht1
      refine ⟨_, rfl, _, rfl, _, _, rfl, rfl, l, _, _, V.int u, rfl, rfl, SqL.of (st1 _ _ hl2), (by rw [e3]; exact hu), _, _, rfl, rfl, (by show (4 : Int) ≠ 0; decide), ?_⟩
      refine ⟨t1, (ds.drop (28 + 8 * i)).take 8, cu, congrArg (fun z => [V.ref t1, V.int z]) ecu, upd_same.trans (by rw [u1]), by rw [List.length_take, List.length_drop]; omega, by omega, fun H3 t3 q3 s3 ht3 tr3 sm3 l3 => ?_⟩
      obtain ⟨acc, g1, g2, g3⟩ := z.push (VecP.stb.x LL) hLL (st1.trans s3) ht3 (by omega)
      refine ⟨acc, g1, g2, _, g3, by rw [List.length_append, zl]; rfl, fun q hq => ?_⟩
      rcases List.mem_append.mp hq with h | h
      · exact zs q h
      · rw [List.mem_singleton.mp h]
        exact ⟨tr3, sm3, by omega⟩
    rintro H17 ⟨ls, zL, lsl, hls⟩
    have s17 := zL.s
    obtain ⟨pL, eL, qL⟩ := id zL.at_
    have lL : (pL.map V.ref).length = ls.length := by rw [List.length_map, qL.length]
    have hlsM : ∀ q ∈ ls, q.length ≤ 3 ∧ ∀ x ∈ q, Mq 60 900 x := fun q hq => ⟨(hls q hq).2.2, fun x hx => mq_sm ((hls q hq).2.1 x hx)⟩
    -- rows
    refine ⟨_, rfl, LL, rfl, ⟨_, SqL.of eL⟩, fun D hD => lc_list (K := K) (a := LL) (xs := pL.map V.ref) (fun i H2 => Col (PolyAt C CP) D H17 H2 (ls.take i)) (Col.start hD) (fun i H2 _ z => z.s.seq (SqL.of eL)) ?_ ?_⟩
    · rintro i y H2 hy z
      obtain ⟨q, hq⟩ : ∃ q, ls[i]? = some q := by
        obtain ⟨hi1, _⟩ := List.getElem?_eq_some_iff.mp hy
        rw [lL] at hi1
        exact ⟨_, List.getElem?_eq_getElem hi1⟩
      have hil := (List.getElem?_eq_some_iff.mp hq).1
      obtain ⟨pq, hpq, hrq⟩ := Paired.at2 qL hq
      rw [ref_at hpq] at hy
      have hy := Option.some.inj hy
      subst hy
      have hqm := List.mem_of_getElem? hq
      have h3 := hls q hqm
      refine ⟨rfl, _, rfl, pq, q, 22, rfl, VecP.stb.same z.s hrq, mq_psz (M := 60) (B := 900) (by decide) (hlsM q hqm).2 (by decide) (by decide) (by omega), by decide, h3.1, fun H3 t3 s3 ht3 => ?_⟩
      rw [take_snoc hq]
      refine z.push ((PolyAt.stb C CP).x D) hD s3 ht3 ?_
      rw [List.length_take]
      omega
    rintro H18 zR
    rw [lL, List.take_length] at zR
    obtain ⟨pD, eD, qD⟩ := id zR.at_
    refine ⟨D, _, rfl, .inl ⟨SqL.of eD, fun rt hrt => ?_⟩⟩
    have srt := same_upd (o := .tup (pD.map V.ref)) hrt
    have hrows : Tp (PolyAt C CP) (upd H18 rt (.tup (pD.map V.ref))) rt ls := ⟨pD, upd_same, Paired.imp (fun _ _ f => (PolyAt.stb C CP).same srt f) qD⟩
    have s1619 := (s17.trans zR.s).trans srt
    generalize (upd H18 rt (.tup (pD.map V.ref))) = H19 at srt hrows s1619
    -- refused
    refine ⟨_, rfl, rt, ls, rfl, hrows, fun H20 s20 => ⟨true, rfl, iteF ?_⟩⟩
    have s1620 := s1619.trans s20
    have S1020 := (s1012.trans s1216).trans s1620
    have ep20 := S1020 _ _ ep10
    refine ⟨_, rfl, tp, _, rfl, .inr (SqT.of ep20), _, _, rfl, rfl, _, rfl, ?_⟩
    rw [lp1]
    by_cases c2 : ps.length < 2
    · rw [show decide (((ps.length : Nat) : Int) < 2) = true from decide_eq_true (by omega)]
      exact iteT (kq _)
    rw [show decide (((ps.length : Nat) : Int) < 2) = false from decide_eq_false (by omega)]
    refine iteF ?_
    have hd0 : hd.1 ≠ 0 := fun z => by
      have := p_zero trp lop fp z
      rw [this] at c2
      exact c2 (by show 0 < 2; decide)
    have pl2 := p_len trp lop fp lhd hd0
    have n1 : 1 ≤ cs.length := by omega
    -- told
    have hpa20 := (PolyAt.stb C CP).same S1020 hpa10
    have hrows20 := Tp.stb (PolyAt.stb C CP) H19 H20 rt ls (fun b o e _ => s20 b o e) hrows
    refine ⟨_, rfl, _, rfl, ?_⟩
    show spRiv C CP MFa [.ref pa, .ref rt] H20 _ _
    refine riv_of ⟨pa, rt, hd, cs, ps, ls, rfl, hpa20, hrows20, zp, h9, hd0, hs9, n1, by omega, fp, pl2, by omega, hlsM, fun H21 tt rs s21 htt lob told => ?_⟩
    obtain ⟨tlen, bd, hbd, bd2, tval⟩ := told
    have tl8 : (ls.length - 1) * cs.length ≤ 2 * 4 := Nat.mul_le_mul (by omega) (by omega)
    refine ⟨tt, rs, rfl, htt, fun q hq => (lob q hq).1, by omega, fun H22 tw s22 htw => ?_⟩
    have s2022 := s21.trans s22
    have ep22 := s2022 _ _ ep20
    have eL22 := ((zR.s.trans srt).trans (s20.trans s2022)) _ _ eL
    have zL22 : Ls (Tp PairQ) H22 LL ls := Ls.same VecP.stb ((zR.s.trans srt).trans (s20.trans s2022)) zL.at_
    obtain ⟨aw, ew, qw⟩ := id htw
    have lw1 : (aw.map V.ref).length = rs.length := by rw [List.length_map, qw.length]
    refine ⟨_, rfl, rfl, _, rfl, ?_⟩
    rw [show decide (V.ref tw = V.non) = false from rfl]
    refine iteF ⟨_, rfl, tw, _, rfl, .inr (SqT.of ew), _, _, rfl, rfl, _, rfl, LL, _, rfl, .inl (SqL.of eL22), _, _, rfl, rfl, _, _, rfl, _, rfl, tp, _, rfl, .inr (SqT.of ep22), _, _, rfl, rfl, _, _, rfl, rfl, ?_, _, _, rfl, rfl, _, rfl, ?_⟩
    · rw [lL, lp1]
      have h1 : intBits (if (ls.length : Int) - 1 > 0 then (ls.length : Int) - 1 else 0) ≤ 10 := PySem.intBits_le_iff.mpr (by split <;> omega)
      have h2 : intBits ((ps.length : Int) - 1) ≤ 10 := PySem.intBits_le_iff.mpr (by omega)
      show intBits (if (ls.length : Int) - 1 > 0 then (ls.length : Int) - 1 else 0) + intBits ((ps.length : Int) - 1) ≤ 134217728
      omega
    rw [lL, lp1, lw1]
    have emax : (if (ls.length : Int) - 1 > 0 then (ls.length : Int) - 1 else 0) * ((ps.length : Int) - 1) = (((ls.length - 1) * cs.length : Nat) : Int) := by
      rw [Int.natCast_mul, show (ps.length : Int) - 1 = (cs.length : Int) by omega]
      congr 1
      split <;> omega
    rw [show decide ((if (ls.length : Int) - 1 > 0 then (ls.length : Int) - 1 else 0) * ((ps.length : Int) - 1) < (rs.length : Int) - 1) = false from decide_eq_false (by rw [emax]; omega)]
    refine iteF ?_
    -- high
    obtain ⟨pL2, eL2, qL2⟩ := id zL22
    have lL2 : (pL2.map V.ref).length = ls.length := by rw [List.length_map, qL2.length]
    refine ⟨_, rfl, LL, rfl, ⟨_, SqL.of eL2⟩, fun D2 hD2 => lc_list (K := K) (a := LL) (xs := pL2.map V.ref) (fun i H2 => ColI D2 H22 H2 ((ls.take i).map fun l => (l.length : Int) - 1)) (ColI.start hD2) (fun i H2 _ z => z.s.seq (SqL.of eL2)) ?_ ?_⟩
    · rintro i y H2 hy z
      obtain ⟨q, hq⟩ : ∃ q, ls[i]? = some q := by
        obtain ⟨hi1, _⟩ := List.getElem?_eq_some_iff.mp hy
        rw [lL2] at hi1
        exact ⟨_, List.getElem?_eq_getElem hi1⟩
      have hil := (List.getElem?_eq_some_iff.mp hq).1
      obtain ⟨pq, hpq, hrq⟩ := Paired.at2 qL2 hq
      rw [ref_at hpq] at hy
      have hy := Option.some.inj hy
      subst hy
      obtain ⟨ab, eb, qb⟩ := id (VecP.stb.same z.s hrq)
      refine ⟨rfl, _, rfl, pq, _, rfl, .inr (SqT.of eb), _, _, rfl, rfl, ?_⟩
      rw [List.length_map, qb.length, take_snoc hq, List.map_append]
      refine z.push hD2 same_rfl ?_
      rw [List.length_map, List.length_take]
      omega
    rintro H23 z23
    rw [lL2, show ls.take ls.length = ls from List.take_length] at z23
    refine ⟨(by show 1 ≤ sizeLine; decide), fun t1 ht1 => ?_⟩
    have st1 := same_upd (o := .lst [V.int 0]) ht1
    refine ⟨D2, t1, _, _, rfl, rfl, st1 _ _ z23.at_, upd_same, ?_, fun t2 ht2 => ?_⟩
    · rw [List.length_map, List.length_map]
      show ls.length + 1 ≤ sizeLine
      have : 100 ≤ sizeLine := by decide
      omega
    have st2 := same_upd (o := .lst ((ls.map fun l => (l.length : Int) - 1).map V.int ++ [V.int 0])) ht2
    refine ⟨t2, (ls.map fun l => (l.length : Int) - 1) ++ [0], rfl, SqL.of (upd_same.trans (by rw [List.map_append]; rfl)), by rw [List.length_append]; show 0 < _ + 1; omega, fun hi0 him hib => ?_⟩
    have h0 := hib 0 (List.mem_append_right _ List.mem_cons_self)
    obtain ⟨hi, rfl⟩ : ∃ hi : Nat, hi0 = (hi : Int) := ⟨hi0.toNat, (Int.toNat_of_nonneg h0).symm⟩
    have hHigh : High ls hi := by
      refine ⟨fun q hq => ?_, ?_⟩
      · have := hib _ (List.mem_append_left _ (List.mem_map.mpr ⟨q, hq, rfl⟩))
        omega
      · rcases List.mem_append.mp him with h | h
        · obtain ⟨q, hq, e⟩ := List.mem_map.mp h
          exact .inl ⟨q, hq, by omega⟩
        · have := List.mem_singleton.mp h
          exact .inr (by omega)
    obtain rfl := hHigh.uniq hbd
    have s2223 := (z23.s.trans st1).trans st2
    have htw23 := VecP.stb.same s2223 htw
    have zL23 := Ls.same VecP.stb s2223 zL22
    have S6all := S616.trans (s1620.trans (s2022.trans s2223))
    have hth23 := PairQ.stb.same S6all hth6
    have hcs23 := Ls.same PairQ.stb S6all hcs6
    generalize (upd (upd H23 t1 (.lst [V.int 0])) t2 (.lst ((ls.map fun l => (l.length : Int) - 1).map V.int ++ [V.int 0]))) = H24 at s2223 htw23 zL23 hth23 hcs23
    -- the values
    refine ⟨_, rfl, by decide, by decide, ?_⟩
    refine for_it (walk_range (lo := 0) (n := 10))
      (fun i σ Ha => ∃ (v2 v16 v17 v18 : Option V), σ = [some (.ref a), some (.ref l), v2, some (.ref R), some (.ref th), some (.ref tp), v6, some (.ref tq), some (.ref pa), some (.ref pb), some (.ref td), some (.ref tb), some (.ref LL), some (.ref rt), some (.ref tw), some (.int hi), v16, v17, v18, none] ∧ Same H24 Ha)
      ⟨none, none, none, none, rfl, same_rfl⟩ (fun i σ Ha _ _ => trivial) ?_ ?_
    · rintro i y σ Ha Hb hi10 ⟨v2, v16, v17, v18, rfl, s5⟩ yy
      obtain ⟨rfl, ey⟩ := yy
      have ey2 : y = V.int (i : Int) := ey.trans (by show V.int _ = _; rw [Int.zero_add])
      subst ey2
      have f3 := fmod_in (x := (i : Int)) (b := 3) (by decide)
      refine ⟨_, rfl, _, _, rfl, rfl, _, rfl, _, _, rfl, rfl, (by show (3 : Int) ≠ 0; decide), _, _, rfl, rfl, ?_⟩
      refine ⟨_, _, rfl, (by show (i : Int).fmod 3 + 1 ≠ 0; omega), fun Hc tv s6v htv => ?_⟩
      obtain ⟨mqv, bqv⟩ := vq_mq hi10 f3.1 f3.2
      generalize mkq ((i : Int) - 4) ((i : Int).fmod 3 + 1) = vq at htv mqv bqv
      have lov := mqv.1
      refine ⟨(by show 0 ≤ sizeLine; decide), fun t0 ht0 => ?_⟩
      have st0 := same_upd (o := .tup []) ht0
      have s5c := (s5.trans s6v).trans st0
      have htv0 := PairQ.stb.same st0 htv
      have zLc := Ls.same VecP.stb s5c zL23
      have hm0 : Tp PairQ (upd Hc t0 (.tup [])) t0 [] := ⟨[], upd_same, .nil⟩
      have htwc := VecP.stb.same s5c htw23
      have hthc := PairQ.stb.same s5c hth23
      have hcsc := Ls.same PairQ.stb s5c hcs23
      generalize (upd Hc t0 (.tup [])) = Hd at s5c htv0 zLc hm0 htwc hthc hcsc
      obtain ⟨pLd, eLd, qLd⟩ := id zLc
      have lLd : (pLd.map V.ref).length = ls.length := by rw [List.length_map, qLd.length]
      refine ⟨fun σ' He => ∃ (v2 : Option V) (tm : Addr) (ms : List Q2), σ' = [some (.ref a), some (.ref l), v2, some (.ref R), some (.ref th), some (.ref tp), v6, some (.ref tq), some (.ref pa), some (.ref pb), some (.ref td), some (.ref tb), some (.ref LL), some (.ref rt), some (.ref tw), some (.int hi), some (.int i), some (.ref tv), some (.ref tm), none] ∧ Same Hd He ∧ Tp PairQ He tm ms ∧ (∀ q ∈ ms, Lo q ∧ Bq 5000 q) ∧ ms.length ≤ 3 ∧ rowF ms = mixL ls (rv vq), ?_, ?_⟩
      · refine ⟨_, rfl, LL, _, rfl, .inl (SqL.of eLd), _, rfl, by rw [lLd]; omega, by rw [lLd]; omega, ?_⟩
        rw [lLd, Int.toNat_natCast]
        refine for_it (walk_range (lo := 0) (n := ls.length))
          (fun j σ He => ∃ (v2 : Option V) (tm : Addr) (ms : List Q2), σ = [some (.ref a), some (.ref l), v2, some (.ref R), some (.ref th), some (.ref tp), v6, some (.ref tq), some (.ref pa), some (.ref pb), some (.ref td), some (.ref tb), some (.ref LL), some (.ref rt), some (.ref tw), some (.int hi), some (.int i), some (.ref tv), some (.ref tm), none] ∧ Same Hd He ∧ Tp PairQ He tm ms ∧ (∀ q ∈ ms, Mq (60 * 6 ^ j) (900 * 200 ^ j) q) ∧ ms.length ≤ 3 ∧ rowF ms = mixL (ls.drop (ls.length - j)) (rv vq))
          ⟨v2, t0, [], rfl, same_rfl, hm0, fun q h => absurd h (by simp), Nat.zero_le _, by
            rw [Nat.sub_zero, List.drop_length]
            exact funext fun j => rowF_nil j⟩ (fun i σ He _ _ => trivial) ?_ ?_
        · rintro j y σ H0 He hj ⟨v2, tm, ms, rfl, s7, htm, mqm, ml, mr⟩ yy
          obtain ⟨rfl, ey⟩ := yy
          have ey2 : y = V.int (j : Int) := ey.trans (by show V.int _ = _; rw [Int.zero_add])
          subst ey2
          obtain ⟨k, hk⟩ : ∃ k, ls.length = j + (k + 1) := ⟨ls.length - 1 - j, by omega⟩
          obtain ⟨q, hq⟩ : ∃ q, ls[k]? = some q := ⟨_, List.getElem?_eq_getElem (by omega)⟩
          obtain ⟨pk, hpk, hrk⟩ := Paired.at2 qLd hq
          have hqm := List.mem_of_getElem? hq
          have dk : ls.drop k = q :: ls.drop (k + 1) := by
            rw [List.drop_eq_getElem_cons (by omega)]
            rw [List.getElem?_eq_getElem (by omega)] at hq
            rw [Option.some.inj hq]
          have j3 : j ≤ 2 := by omega
          have p6 : 6 ^ j ≤ 6 ^ 2 := Nat.pow_le_pow_right (by decide) j3
          have p2 : 200 ^ j ≤ 200 ^ 2 := Nat.pow_le_pow_right (by decide) j3
          have i6 : ((6 : Int) ^ j).natAbs = 6 ^ j := by rw [Int.natAbs_pow]; rfl
          have m0 : (0 : Int) < 60 * 6 ^ j := Int.mul_pos (by decide) (Int.pow_pos (by decide))
          refine ⟨_, rfl, _, rfl, (by show 1 ≤ sizeLine; decide), fun t3 ht3 => ?_⟩
          have st3 := same_upd (o := .lst [V.ref tv]) ht3
          have htv7 := PairQ.stb.same (s7.trans st3) htv0
          refine ⟨t3, [vq], rfl, ⟨[tv], upd_same, .cons htv7 .nil⟩, (by show 1 ≤ 1000; decide), fun Hf tf sf htf => ?_⟩
          have s37 := st3.trans sf
          refine ⟨tm, tf, ms, trimQ [vq], 60 * 6 ^ j, 6, 900 * 200 ^ j, 36, rfl, VecP.stb.same s37 htm, htf, by omega, Nat.le_trans (trim_len _) (by show 1 ≤ 20; decide), m0, by decide, ?_, by decide, ?_, by decide, mqm, fun x hx => by rw [trim_one x hx]; exact mqv, fun Hg tg gs sg1 htg trg mqg lg fg => ?_⟩
          · rw [Int.natAbs_mul, i6]
            exact Nat.lt_of_le_of_lt (Nat.mul_le_mul_left 60 p6) (by decide)
          · exact Nat.lt_of_le_of_lt (Nat.mul_le_mul_left 900 p2) (by decide)
          have s3g := s37.trans sg1
          have hrkg := VecP.stb.same (s7.trans s3g) hrk
          have gl : gs.length ≤ 3 := trim_short trg (fun x hx => (mqg x hx).1) fun t ht => by
            rw [fg t, row_one]
            exact cv_out1 (n := 2) (m := 0) ((fs_row ms).mono ml) (dl0_fs (rv vq)) t ht
          refine ⟨_, rfl, _, rfl, LL, _, rfl, .inl (SqL.of ((s7.trans s3g) _ _ eLd)), _, _, rfl, rfl, _, rfl, _, _, rfl, rfl, LL, _, _, V.ref pk, rfl, rfl, SqL.of ((s7.trans s3g) _ _ eLd), (by rw [lLd, show (ls.length : Int) - 1 - (j : Int) = ((k : Nat) : Int) by omega]; exact atI_of (ref_at hpk)), ?_⟩
          have mqg2 : ∀ x ∈ gs, Mq (60 * 6 ^ (j + 1)) (900 * 200 ^ j * 36 * ms.length) x := fun x hx => by
            have := mqg x hx
            rw [Int.mul_assoc, ← Int.pow_succ] at this
            exact this
          have mqk : ∀ x ∈ q, Mq (60 * 6 ^ (j + 1)) (900 * 6 ^ (j + 1)) x := fun x hx => by
            have := mq_up ((hlsM q hqm).2 x hx) (6 ^ (j + 1))
            rw [show (((6 ^ (j + 1) : Nat)) : Int) = 6 ^ (j + 1) from by rw [Int.natCast_pow]; rfl] at this
            exact this
          have b1 : 900 * 200 ^ j * 36 * ms.length ≤ 900 * 200 ^ j * 36 * 3 := Nat.mul_le_mul_left _ ml
          have b2 : 6 ^ (j + 1) ≤ 6 * 200 ^ j := by
            rw [Nat.pow_succ, Nat.mul_comm]
            exact Nat.mul_le_mul_left 6 (Nat.pow_le_pow_left (by decide) j)
          refine ⟨tg, pk, gs, q, 60 * 6 ^ (j + 1), 900 * 200 ^ j * 36 * ms.length, 900 * 6 ^ (j + 1), rfl, htg, hrkg, by omega, by have := (hls q hqm).2.2; omega, Int.mul_pos (by decide) (Int.pow_pos (by decide)), ?_, ?_, ?_, mqg2, mqk, fun Hh th2 hs sh hth2 trh mqh lh fh => ?_⟩
          · rw [Int.natAbs_mul, Int.natAbs_pow]
            have : 6 ^ (j + 1) ≤ 6 ^ 3 := Nat.pow_le_pow_right (by decide) (by omega)
            exact Nat.lt_of_le_of_lt (Nat.mul_le_mul_left 60 this) (by decide)
          · have : 900 * 200 ^ j * 36 * 3 ≤ 900 * 200 ^ 2 * 36 * 3 := Nat.mul_le_mul_right 3 (Nat.mul_le_mul_right 36 (Nat.mul_le_mul_left 900 p2))
            exact Nat.lt_of_le_of_lt (Nat.le_trans b1 this) (by decide)
          · have : 6 ^ (j + 1) ≤ 6 ^ 3 := Nat.pow_le_pow_right (by decide) (by omega)
            exact Nat.lt_of_le_of_lt (Nat.mul_le_mul_left 900 this) (by decide)
          refine ⟨some (.int j), th2, hs, rfl, (s7.trans s3g).trans sh, hth2, fun x hx => mq_mono (mqh x hx) ?_, by have := (hls q hqm).2.2; omega, ?_⟩
          · rw [Nat.pow_succ]
            omega
          · rw [show ls.length - (j + 1) = k by omega, dk]
            rw [show ls.length - j = k + 1 by omega] at mr
            funext t
            show _ = mixL (ls.drop (k + 1)) (rv vq) t * rv vq + rowF q t
            rw [fh t, fg t, row_one, mr, cv_comm, show cv (dl0 (rv vq)) (mixL (ls.drop (k + 1)) (rv vq)) t = rv vq * mixL (ls.drop (k + 1)) (rv vq) t from d0_one _ _ t]
            grind
        · rintro σ He ⟨v2, tm, ms, rfl, s7, htm, mqm, ml, mr⟩
          rw [Nat.sub_self, List.drop_zero] at mr
          have j3 : ls.length ≤ 3 := by omega
          refine ⟨v2, tm, ms, rfl, s7, htm, fun x hx => ⟨(mqm x hx).1, (mq_bq (m := 200) (Int.mul_pos (by decide) (Int.pow_pos (by decide))) (mqm x hx) ?_ ?_).mono (by decide)⟩, ml, mr⟩
          · exact Nat.lt_of_le_of_lt (Nat.mul_le_mul_left 900 (Nat.pow_le_pow_right (by decide) j3)) (by decide)
          · rw [Int.natAbs_mul, Int.natAbs_pow]
            exact Nat.lt_of_le_of_lt (Nat.mul_le_mul_left 60 (Nat.pow_le_pow_right (by decide) j3)) (by decide)
      rintro σ' He ⟨v2, tm, ms, rfl, s7, htm, mlo, ml, mr⟩
      refine ⟨_, rfl, _, rfl, tw, tv, rs, vq, rfl, VecP.stb.same s7 htwc, PairQ.stb.same s7 htv0, lov, bqv.mono (by decide), by omega, fun x hx => ⟨(lob x hx).1, (lob x hx).2.mono (by decide)⟩, fun Hf tu u1 sf htu lu1 _ vu1 => ?_⟩
      have s7f := s7.trans sf
      refine ⟨_, rfl, _, rfl, _, rfl, _, rfl, ?_⟩
      show spLd2 [.ref th, .ref R, .ref tm, .int hi] Hf _ _
      refine ld2_of ⟨th, R, tm, hd, cs, ms, _, hi, rfl, PairQ.stb.same s7f hthc, Ls.same PairQ.stb s7f hcsc, VecP.stb.same sf htm, lhd, h9.s.bq.mono (by decide), by omega, hcB, by omega, mlo, fun _ => ⟨rfl, by omega⟩, fun Hg tg u2 sg1 htg lu2 vu2 => ?_⟩
      have eu : u1 = u2 := by
        refine lo_eq lu1 lu2 ?_
        rw [tval _ _ vu1]
        by_cases cm : ms = []
        · rw [vu2.1 (.inr cm), rv_q0, mix_zero (fun j => by rw [← mr, cm, rowF_nil]) n1]
          grind
        · obtain ⟨ys, hy, e⟩ := vu2.2 hd0 cm
          rw [e]
          rw [mr] at hy
          rw [pair_uniq hy (mix_pair ls (rv vq) cs)]
      subst eu
      refine neD_pair (PairQ.stb.same sg1 htu) htg rfl ⟨_, rfl, iteF ⟨v2, _, _, _, rfl, (s5c.trans s7f).trans sg1⟩⟩
    · rintro σ Ha ⟨v2, v16, v17, v18, rfl, s5⟩
      exact kq _

end
end Ind

set_option Elab.async false
set_option linter.all false
set_option maxRecDepth 100000
set_option maxHeartbeats 4000000
namespace Ind
open PySem PySem.Spec PyProof.Rows L2
open Builtin.Int (intBits)
theorem all_mk {P : Program} {w : World} {K : PySem.W.Frag} {h : Heap} {mg : Str → Option Value} {fa C CP Z MFa fLg fCf fNn fRs fRp fTr fPo fCt fZr fOn fCs fRe fRv fPr fIn fC fD fG fRt fAd fMu fS fP fSm fLt fLa fLm fLv fLp fLr fLk fLw fDu fRf fZi fRm fRb fRn fRw fPI fPz fPg fDb fPl fPm fSc fMd fMl fPa fL : Addr} (hT : P.given.tree = none) (X : K.In h) (G : h.Ns mainGlobals mg) (hfa : mg "law" = some (.ref fa))
    {ocLg kVLg dcLg pmLg cdLg ctLg : Value} {odLg anLg : Option Addr} {slLg : Array (Option Value)}
    {ocCf kVCf dcCf pmCf cdCf ctCf : Value} {odCf anCf : Option Addr} {slCf : Array (Option Value)}
    {ocNn kVNn dcNn pmNn cdNn ctNn : Value} {odNn anNn : Option Addr} {slNn : Array (Option Value)}
    {ocRs kVRs dcRs pmRs cdRs ctRs : Value} {odRs anRs : Option Addr} {slRs : Array (Option Value)}
    {ocRp kVRp dcRp pmRp cdRp ctRp : Value} {odRp anRp : Option Addr} {slRp : Array (Option Value)}
    {ocTr kVTr dcTr pmTr cdTr ctTr : Value} {odTr anTr : Option Addr} {slTr : Array (Option Value)}
    {ocPo kVPo dcPo pmPo cdPo ctPo : Value} {odPo anPo : Option Addr} {slPo : Array (Option Value)}
    {ocCt kVCt dcCt pmCt cdCt ctCt : Value} {odCt anCt : Option Addr} {slCt : Array (Option Value)}
    {ocZr kVZr dcZr pmZr cdZr ctZr : Value} {odZr anZr : Option Addr} {slZr : Array (Option Value)}
    {ocOn kVOn dcOn pmOn cdOn ctOn : Value} {odOn anOn : Option Addr} {slOn : Array (Option Value)}
    {ocCs kVCs dcCs pmCs cdCs ctCs : Value} {odCs anCs : Option Addr} {slCs : Array (Option Value)}
    {ocRe kVRe dcRe pmRe cdRe ctRe : Value} {odRe anRe : Option Addr} {slRe : Array (Option Value)}
    {ocRv kVRv dcRv pmRv cdRv ctRv : Value} {odRv anRv : Option Addr} {slRv : Array (Option Value)}
    {ocPr kVPr dcPr pmPr cdPr ctPr : Value} {odPr anPr : Option Addr} {slPr : Array (Option Value)}
    {ocIn kVIn dcIn pmIn cdIn ctIn : Value} {odIn anIn : Option Addr} {slIn : Array (Option Value)}
    {ocC kVC dcC pmC cdC ctC : Value} {odC anC : Option Addr} {slC : Array (Option Value)}
    {ocD kVD dcD pmD cdD ctD : Value} {odD anD : Option Addr} {slD : Array (Option Value)}
    {ocG kVG dcG pmG cdG ctG : Value} {odG anG : Option Addr} {slG : Array (Option Value)}
    {ocRt kVRt dcRt pmRt cdRt ctRt : Value} {odRt anRt : Option Addr} {slRt : Array (Option Value)}
    {ocAd kVAd dcAd pmAd cdAd ctAd : Value} {odAd anAd : Option Addr} {slAd : Array (Option Value)}
    {ocMu kVMu dcMu pmMu cdMu ctMu : Value} {odMu anMu : Option Addr} {slMu : Array (Option Value)}
    {ocS kVS dcS pmS cdS ctS : Value} {odS anS : Option Addr} {slS : Array (Option Value)}
    {ocP kVP dcP pmP cdP ctP : Value} {odP anP : Option Addr} {slP : Array (Option Value)}
    {ocSm kVSm dcSm pmSm cdSm ctSm : Value} {odSm anSm : Option Addr} {slSm : Array (Option Value)}
    {ocLt kVLt dcLt pmLt cdLt ctLt : Value} {odLt anLt : Option Addr} {slLt : Array (Option Value)}
    {ocLa kVLa dcLa pmLa cdLa ctLa : Value} {odLa anLa : Option Addr} {slLa : Array (Option Value)}
    {ocLm kVLm dcLm pmLm cdLm ctLm : Value} {odLm anLm : Option Addr} {slLm : Array (Option Value)}
    {ocLv kVLv dcLv pmLv cdLv ctLv : Value} {odLv anLv : Option Addr} {slLv : Array (Option Value)}
    {ocLp kVLp dcLp pmLp cdLp ctLp : Value} {odLp anLp : Option Addr} {slLp : Array (Option Value)}
    {ocLr kVLr dcLr pmLr cdLr ctLr : Value} {odLr anLr : Option Addr} {slLr : Array (Option Value)}
    {ocLk kVLk dcLk pmLk cdLk ctLk : Value} {odLk anLk : Option Addr} {slLk : Array (Option Value)}
    {ocLw kVLw dcLw pmLw cdLw ctLw : Value} {odLw anLw : Option Addr} {slLw : Array (Option Value)}
    {ocDu kVDu dcDu pmDu cdDu ctDu : Value} {odDu anDu : Option Addr} {slDu : Array (Option Value)}
    {ocRf kVRf dcRf pmRf cdRf ctRf : Value} {odRf anRf : Option Addr} {slRf : Array (Option Value)}
    {ocZi kVZi dcZi pmZi cdZi ctZi : Value} {odZi anZi : Option Addr} {slZi : Array (Option Value)}
    {ocRm kVRm dcRm pmRm cdRm ctRm : Value} {odRm anRm : Option Addr} {slRm : Array (Option Value)}
    {ocRb kVRb dcRb pmRb cdRb ctRb : Value} {odRb anRb : Option Addr} {slRb : Array (Option Value)}
    {ocRn kVRn dcRn pmRn cdRn ctRn : Value} {odRn anRn : Option Addr} {slRn : Array (Option Value)}
    {ocRw kVRw dcRw pmRw cdRw ctRw : Value} {odRw anRw : Option Addr} {slRw : Array (Option Value)}
    {ocPI kVPI dcPI pmPI cdPI ctPI : Value} {odPI anPI : Option Addr} {slPI : Array (Option Value)}
    {ocPz kVPz dcPz pmPz cdPz ctPz : Value} {odPz anPz : Option Addr} {slPz : Array (Option Value)}
    {ocPg kVPg dcPg pmPg cdPg ctPg : Value} {odPg anPg : Option Addr} {slPg : Array (Option Value)}
    {ocDb kVDb dcDb pmDb cdDb ctDb : Value} {odDb anDb : Option Addr} {slDb : Array (Option Value)}
    {ocPl kVPl dcPl pmPl cdPl ctPl : Value} {odPl anPl : Option Addr} {slPl : Array (Option Value)}
    {ocPm kVPm dcPm pmPm cdPm ctPm : Value} {odPm anPm : Option Addr} {slPm : Array (Option Value)}
    {ocSc kVSc dcSc pmSc cdSc ctSc : Value} {odSc anSc : Option Addr} {slSc : Array (Option Value)}
    {ocMd kVMd dcMd pmMd cdMd ctMd : Value} {odMd anMd : Option Addr} {slMd : Array (Option Value)}
    {ocMl kVMl dcMl pmMl cdMl ctMl : Value} {odMl anMl : Option Addr} {slMl : Array (Option Value)}
    {ocPa kVPa dcPa pmPa cdPa ctPa : Value} {odPa anPa : Option Addr} {slPa : Array (Option Value)}
    {ocL kVL dcL pmL cdL ctL : Value} {odL anL : Option Addr} {slL : Array (Option Value)}
    {ocI kVI dcI pmI cdI ctI cT : Value} {odI anI ddT : Option Addr} {slI slT : Array (Option Value)} {tT : Tok} {nT : Nat} {fI T' : Addr}
    (aLg : PySem.W.nsIn K mainGlobals "long_division" = some (some (.ref fLg)))
    (lLg : K.lookup fLg = some ⟨ocLg, odLg, .func (PySem.W.fnOf "long_division" "long_division" (defArgs sLd) (defBody sLd) (defScope sLd) .none kVLg dcLg pmLg anLg cdLg ctLg), slLg⟩)
    (cLg : PySem.W.codeIn K cdLg "long_division" = true)
    (kpLg : PySem.W.keepIn K (.ref fLg) = true)
    (aCf : PySem.W.nsIn K mainGlobals "common_form" = some (some (.ref fCf)))
    (lCf : K.lookup fCf = some ⟨ocCf, odCf, .func (PySem.W.fnOf "common_form" "common_form" (defArgs sCF) (defBody sCF) (defScope sCF) .none kVCf dcCf pmCf anCf cdCf ctCf), slCf⟩)
    (cCf : PySem.W.codeIn K cdCf "common_form" = true)
    (kpCf : PySem.W.keepIn K (.ref fCf) = true)
    (aNn : PySem.W.nsIn K mainGlobals "of_numbers" = some (some (.ref fNn)))
    (lNn : K.lookup fNn = some ⟨ocNn, odNn, .func (PySem.W.fnOf "of_numbers" "of_numbers" (defArgs sOfN) (defBody sOfN) (defScope sOfN) .none kVNn dcNn pmNn anNn cdNn ctNn), slNn⟩)
    (cNn : PySem.W.codeIn K cdNn "of_numbers" = true)
    (kpNn : PySem.W.keepIn K (.ref fNn) = true)
    (aRs : PySem.W.nsIn K mainGlobals "row_sum" = some (some (.ref fRs)))
    (lRs : K.lookup fRs = some ⟨ocRs, odRs, .func (PySem.W.fnOf "row_sum" "row_sum" (defArgs sRS) (defBody sRS) (defScope sRS) .none kVRs dcRs pmRs anRs cdRs ctRs), slRs⟩)
    (cRs : PySem.W.codeIn K cdRs "row_sum" = true)
    (kpRs : PySem.W.keepIn K (.ref fRs) = true)
    (aRp : PySem.W.nsIn K mainGlobals "row_product" = some (some (.ref fRp)))
    (lRp : K.lookup fRp = some ⟨ocRp, odRp, .func (PySem.W.fnOf "row_product" "row_product" (defArgs sRP) (defBody sRP) (defScope sRP) .none kVRp dcRp pmRp anRp cdRp ctRp), slRp⟩)
    (cRp : PySem.W.codeIn K cdRp "row_product" = true)
    (kpRp : PySem.W.keepIn K (.ref fRp) = true)
    (aTr : PySem.W.nsIn K mainGlobals "trimmed" = some (some (.ref fTr)))
    (lTr : K.lookup fTr = some ⟨ocTr, odTr, .func (PySem.W.fnOf "trimmed" "trimmed" (defArgs sTr) (defBody sTr) (defScope sTr) .none kVTr dcTr pmTr anTr cdTr ctTr), slTr⟩)
    (cTr : PySem.W.codeIn K cdTr "trimmed" = true)
    (kpTr : PySem.W.keepIn K (.ref fTr) = true)
    (aPo : PySem.W.nsIn K mainGlobals "power_of" = some (some (.ref fPo)))
    (lPo : K.lookup fPo = some ⟨ocPo, odPo, .func (PySem.W.fnOf "power_of" "power_of" (defArgs sPowOf) (defBody sPowOf) (defScope sPowOf) .none kVPo dcPo pmPo anPo cdPo ctPo), slPo⟩)
    (cPo : PySem.W.codeIn K cdPo "power_of" = true)
    (kpPo : PySem.W.keepIn K (.ref fPo) = true)
    (aCt : PySem.W.nsIn K mainGlobals "content" = some (some (.ref fCt)))
    (lCt : K.lookup fCt = some ⟨ocCt, odCt, .func (PySem.W.fnOf "content" "content" (defArgs sCont) (defBody sCont) (defScope sCont) .none kVCt dcCt pmCt anCt cdCt ctCt), slCt⟩)
    (cCt : PySem.W.codeIn K cdCt "content" = true)
    (kpCt : PySem.W.keepIn K (.ref fCt) = true)
    (aZr : PySem.W.nsIn K mainGlobals "zero" = some (some (.ref fZr)))
    (lZr : K.lookup fZr = some ⟨ocZr, odZr, .func (PySem.W.fnOf "zero" "zero" (defArgs sZero) (defBody sZero) (defScope sZero) .none kVZr dcZr pmZr anZr cdZr ctZr), slZr⟩)
    (cZr : PySem.W.codeIn K cdZr "zero" = true)
    (kpZr : PySem.W.keepIn K (.ref fZr) = true)
    (aOn : PySem.W.nsIn K mainGlobals "one" = some (some (.ref fOn)))
    (lOn : K.lookup fOn = some ⟨ocOn, odOn, .func (PySem.W.fnOf "one" "one" (defArgs sOn) (defBody sOn) (defScope sOn) .none kVOn dcOn pmOn anOn cdOn ctOn), slOn⟩)
    (cOn : PySem.W.codeIn K cdOn "one" = true)
    (kpOn : PySem.W.keepIn K (.ref fOn) = true)
    (aCs : PySem.W.nsIn K mainGlobals "constant" = some (some (.ref fCs)))
    (lCs : K.lookup fCs = some ⟨ocCs, odCs, .func (PySem.W.fnOf "constant" "constant" (defArgs sCst) (defBody sCst) (defScope sCst) .none kVCs dcCs pmCs anCs cdCs ctCs), slCs⟩)
    (cCs : PySem.W.codeIn K cdCs "constant" = true)
    (kpCs : PySem.W.keepIn K (.ref fCs) = true)
    (aRe : PySem.W.nsIn K mainGlobals "resultant" = some (some (.ref fRe)))
    (lRe : K.lookup fRe = some ⟨ocRe, odRe, .func (PySem.W.fnOf "resultant" "resultant" (defArgs sRes) (defBody sRes) (defScope sRes) .none kVRe dcRe pmRe anRe cdRe ctRe), slRe⟩)
    (cRe : PySem.W.codeIn K cdRe "resultant" = true)
    (kpRe : PySem.W.keepIn K (.ref fRe) = true)
    (aRv : PySem.W.nsIn K mainGlobals "resultant_in_v" = some (some (.ref fRv)))
    (lRv : K.lookup fRv = some ⟨ocRv, odRv, .func (PySem.W.fnOf "resultant_in_v" "resultant_in_v" (defArgs sRiv) (defBody sRiv) (defScope sRiv) .none kVRv dcRv pmRv anRv cdRv ctRv), slRv⟩)
    (cRv : PySem.W.codeIn K cdRv "resultant_in_v" = true)
    (kpRv : PySem.W.keepIn K (.ref fRv) = true)
    (aPr : PySem.W.nsIn K mainGlobals "product_over_roots" = some (some (.ref fPr)))
    (lPr : K.lookup fPr = some ⟨ocPr, odPr, .func (PySem.W.fnOf "product_over_roots" "product_over_roots" (defArgs sPor) (defBody sPor) (defScope sPor) .none kVPr dcPr pmPr anPr cdPr ctPr), slPr⟩)
    (cPr : PySem.W.codeIn K cdPr "product_over_roots" = true)
    (kpPr : PySem.W.keepIn K (.ref fPr) = true)
    (aIn : PySem.W.nsIn K mainGlobals "interpolated" = some (some (.ref fIn)))
    (lIn : K.lookup fIn = some ⟨ocIn, odIn, .func (PySem.W.fnOf "interpolated" "interpolated" (defArgs sInt) (defBody sInt) (defScope sInt) .none kVIn dcIn pmIn anIn cdIn ctIn), slIn⟩)
    (cIn : PySem.W.codeIn K cdIn "interpolated" = true)
    (kpIn : PySem.W.keepIn K (.ref fIn) = true)
    (aC : PySem.W.nsIn K mainGlobals "_law_cell" = some (some (.ref fC)))
    (lC : K.lookup fC = some ⟨ocC, odC, .func (PySem.W.fnOf "_law_cell" "_law_cell" (defArgs sCell) (defBody sCell) (defScope sCell) .none kVC dcC pmC anC cdC ctC), slC⟩)
    (cC : PySem.W.codeIn K cdC "_law_cell" = true)
    (kpC : PySem.W.keepIn K (.ref fC) = true)
    (aD : PySem.W.nsIn K mainGlobals "_law_draws" = some (some (.ref fD)))
    (lD : K.lookup fD = some ⟨ocD, odD, .func (PySem.W.fnOf "_law_draws" "_law_draws" (defArgs sDraws) (defBody sDraws) (defScope sDraws) .none kVD dcD pmD anD cdD ctD), slD⟩)
    (cD : PySem.W.codeIn K cdD "_law_draws" = true)
    (kpD : PySem.W.keepIn K (.ref fD) = true)
    (aG : PySem.W.nsIn K mainGlobals "_law_gcd" = some (some (.ref fG)))
    (lG : K.lookup fG = some ⟨ocG, odG, .func (PySem.W.fnOf "_law_gcd" "_law_gcd" (defArgs sGcd) (defBody sGcd) (defScope sGcd) .none kVG dcG pmG anG cdG ctG), slG⟩)
    (cG : PySem.W.codeIn K cdG "_law_gcd" = true)
    (kpG : PySem.W.keepIn K (.ref fG) = true)
    (aRt : PySem.W.nsIn K mainGlobals "_law_rat" = some (some (.ref fRt)))
    (lRt : K.lookup fRt = some ⟨ocRt, odRt, .func (PySem.W.fnOf "_law_rat" "_law_rat" (defArgs sRat) (defBody sRat) (defScope sRat) .none kVRt dcRt pmRt anRt cdRt ctRt), slRt⟩)
    (cRt : PySem.W.codeIn K cdRt "_law_rat" = true)
    (kpRt : PySem.W.keepIn K (.ref fRt) = true)
    (aAd : PySem.W.nsIn K mainGlobals "_law_add" = some (some (.ref fAd)))
    (lAd : K.lookup fAd = some ⟨ocAd, odAd, .func (PySem.W.fnOf "_law_add" "_law_add" (defArgs sAdd) (defBody sAdd) (defScope sAdd) .none kVAd dcAd pmAd anAd cdAd ctAd), slAd⟩)
    (cAd : PySem.W.codeIn K cdAd "_law_add" = true)
    (kpAd : PySem.W.keepIn K (.ref fAd) = true)
    (aMu : PySem.W.nsIn K mainGlobals "_law_mul" = some (some (.ref fMu)))
    (lMu : K.lookup fMu = some ⟨ocMu, odMu, .func (PySem.W.fnOf "_law_mul" "_law_mul" (defArgs sMul) (defBody sMul) (defScope sMul) .none kVMu dcMu pmMu anMu cdMu ctMu), slMu⟩)
    (cMu : PySem.W.codeIn K cdMu "_law_mul" = true)
    (kpMu : PySem.W.keepIn K (.ref fMu) = true)
    (aS : PySem.W.nsIn K mainGlobals "_law_is_integer" = some (some (.ref fS)))
    (lS : K.lookup fS = some ⟨ocS, odS, .func (PySem.W.fnOf "_law_is_integer" "_law_is_integer" (defArgs sIsI) (defBody sIsI) (defScope sIsI) .none kVS dcS pmS anS cdS ctS), slS⟩)
    (cS : PySem.W.codeIn K cdS "_law_is_integer" = true)
    (kpS : PySem.W.keepIn K (.ref fS) = true)
    (aP : PySem.W.nsIn K mainGlobals "_law_pair" = some (some (.ref fP)))
    (lP : K.lookup fP = some ⟨ocP, odP, .func (PySem.W.fnOf "_law_pair" "_law_pair" (defArgs sPair) (defBody sPair) (defScope sPair) .none kVP dcP pmP anP cdP ctP), slP⟩)
    (cP : PySem.W.codeIn K cdP "_law_pair" = true)
    (kpP : PySem.W.keepIn K (.ref fP) = true)
    (aSm : PySem.W.nsIn K mainGlobals "_law_small" = some (some (.ref fSm)))
    (lSm : K.lookup fSm = some ⟨ocSm, odSm, .func (PySem.W.fnOf "_law_small" "_law_small" (defArgs sSm) (defBody sSm) (defScope sSm) .none kVSm dcSm pmSm anSm cdSm ctSm), slSm⟩)
    (cSm : PySem.W.codeIn K cdSm "_law_small" = true)
    (kpSm : PySem.W.keepIn K (.ref fSm) = true)
    (aLt : PySem.W.nsIn K mainGlobals "_law_trim" = some (some (.ref fLt)))
    (lLt : K.lookup fLt = some ⟨ocLt, odLt, .func (PySem.W.fnOf "_law_trim" "_law_trim" (defArgs sLt) (defBody sLt) (defScope sLt) .none kVLt dcLt pmLt anLt cdLt ctLt), slLt⟩)
    (cLt : PySem.W.codeIn K cdLt "_law_trim" = true)
    (kpLt : PySem.W.keepIn K (.ref fLt) = true)
    (aLa : PySem.W.nsIn K mainGlobals "_law_padd" = some (some (.ref fLa)))
    (lLa : K.lookup fLa = some ⟨ocLa, odLa, .func (PySem.W.fnOf "_law_padd" "_law_padd" (defArgs sLa) (defBody sLa) (defScope sLa) .none kVLa dcLa pmLa anLa cdLa ctLa), slLa⟩)
    (cLa : PySem.W.codeIn K cdLa "_law_padd" = true)
    (kpLa : PySem.W.keepIn K (.ref fLa) = true)
    (aLm : PySem.W.nsIn K mainGlobals "_law_pmul" = some (some (.ref fLm)))
    (lLm : K.lookup fLm = some ⟨ocLm, odLm, .func (PySem.W.fnOf "_law_pmul" "_law_pmul" (defArgs sLm) (defBody sLm) (defScope sLm) .none kVLm dcLm pmLm anLm cdLm ctLm), slLm⟩)
    (cLm : PySem.W.codeIn K cdLm "_law_pmul" = true)
    (kpLm : PySem.W.keepIn K (.ref fLm) = true)
    (aLv : PySem.W.nsIn K mainGlobals "_law_value" = some (some (.ref fLv)))
    (lLv : K.lookup fLv = some ⟨ocLv, odLv, .func (PySem.W.fnOf "_law_value" "_law_value" (defArgs sLv) (defBody sLv) (defScope sLv) .none kVLv dcLv pmLv anLv cdLv ctLv), slLv⟩)
    (cLv : PySem.W.codeIn K cdLv "_law_value" = true)
    (kpLv : PySem.W.keepIn K (.ref fLv) = true)
    (aLp : PySem.W.nsIn K mainGlobals "_law_poly" = some (some (.ref fLp)))
    (lLp : K.lookup fLp = some ⟨ocLp, odLp, .func (PySem.W.fnOf "_law_poly" "_law_poly" (defArgs sLp) (defBody sLp) (defScope sLp) .none kVLp dcLp pmLp anLp cdLp ctLp), slLp⟩)
    (cLp : PySem.W.codeIn K cdLp "_law_poly" = true)
    (kpLp : PySem.W.keepIn K (.ref fLp) = true)
    (aLr : PySem.W.nsIn K mainGlobals "_law_row" = some (some (.ref fLr)))
    (lLr : K.lookup fLr = some ⟨ocLr, odLr, .func (PySem.W.fnOf "_law_row" "_law_row" (defArgs sLr) (defBody sLr) (defScope sLr) .none kVLr dcLr pmLr anLr cdLr ctLr), slLr⟩)
    (cLr : PySem.W.codeIn K cdLr "_law_row" = true)
    (kpLr : PySem.W.keepIn K (.ref fLr) = true)
    (aLk : PySem.W.nsIn K mainGlobals "_law_make" = some (some (.ref fLk)))
    (lLk : K.lookup fLk = some ⟨ocLk, odLk, .func (PySem.W.fnOf "_law_make" "_law_make" (defArgs sLk) (defBody sLk) (defScope sLk) .none kVLk dcLk pmLk anLk cdLk ctLk), slLk⟩)
    (cLk : PySem.W.codeIn K cdLk "_law_make" = true)
    (kpLk : PySem.W.keepIn K (.ref fLk) = true)
    (aLw : PySem.W.nsIn K mainGlobals "_law_power" = some (some (.ref fLw)))
    (lLw : K.lookup fLw = some ⟨ocLw, odLw, .func (PySem.W.fnOf "_law_power" "_law_power" (defArgs sLw) (defBody sLw) (defScope sLw) .none kVLw dcLw pmLw anLw cdLw ctLw), slLw⟩)
    (cLw : PySem.W.codeIn K cdLw "_law_power" = true)
    (kpLw : PySem.W.keepIn K (.ref fLw) = true)
    (aDu : PySem.W.nsIn K mainGlobals "_law_due" = some (some (.ref fDu)))
    (lDu : K.lookup fDu = some ⟨ocDu, odDu, .func (PySem.W.fnOf "_law_due" "_law_due" (defArgs sLd2) (defBody sLd2) (defScope sLd2) .none kVDu dcDu pmDu anDu cdDu ctDu), slDu⟩)
    (cDu : PySem.W.codeIn K cdDu "_law_due" = true)
    (kpDu : PySem.W.keepIn K (.ref fDu) = true)
    (aRf : PySem.W.nsIn K mainGlobals "_law_refused" = some (some (.ref fRf)))
    (lRf : K.lookup fRf = some ⟨ocRf, odRf, .func (PySem.W.fnOf "_law_refused" "_law_refused" (defArgs sRf) (defBody sRf) (defScope sRf) .none kVRf dcRf pmRf anRf cdRf ctRf), slRf⟩)
    (cRf : PySem.W.codeIn K cdRf "_law_refused" = true)
    (kpRf : PySem.W.keepIn K (.ref fRf) = true)
    (aZi : PySem.W.findIn K (.ref C) "is_zero" = some (some (.ref fZi)))
    (iZi : PySem.W.isFn K (.ref fZi) = true)
    (lZi : K.lookup fZi = some ⟨ocZi, odZi, .func (PySem.W.fnOf "is_zero" "Ratio.is_zero" (defArgs sIsZ) (defBody sIsZ) (defScope sIsZ) .none kVZi dcZi pmZi anZi cdZi ctZi), slZi⟩)
    (cZi : PySem.W.codeIn K cdZi "Ratio.is_zero" = true)
    (kpZi : PySem.W.keepIn K (.ref fZi) = true)
    (aRm : PySem.W.findIn K (.ref C) "__mul__" = some (some (.ref fRm)))
    (iRm : PySem.W.isFn K (.ref fRm) = true)
    (lRm : K.lookup fRm = some ⟨ocRm, odRm, .func (PySem.W.fnOf "__mul__" "Ratio.__mul__" (defArgs s_mul) (defBody s_mul) (defScope s_mul) .none kVRm dcRm pmRm anRm cdRm ctRm), slRm⟩)
    (cRm : PySem.W.codeIn K cdRm "Ratio.__mul__" = true)
    (kpRm : PySem.W.keepIn K (.ref fRm) = true)
    (aRb : PySem.W.findIn K (.ref C) "__sub__" = some (some (.ref fRb)))
    (iRb : PySem.W.isFn K (.ref fRb) = true)
    (lRb : K.lookup fRb = some ⟨ocRb, odRb, .func (PySem.W.fnOf "__sub__" "Ratio.__sub__" (defArgs s_sub) (defBody s_sub) (defScope s_sub) .none kVRb dcRb pmRb anRb cdRb ctRb), slRb⟩)
    (cRb : PySem.W.codeIn K cdRb "Ratio.__sub__" = true)
    (kpRb : PySem.W.keepIn K (.ref fRb) = true)
    (aRn : PySem.W.findIn K (.ref C) "__neg__" = some (some (.ref fRn)))
    (iRn : PySem.W.isFn K (.ref fRn) = true)
    (lRn : K.lookup fRn = some ⟨ocRn, odRn, .func (PySem.W.fnOf "__neg__" "Ratio.__neg__" (defArgs s_neg) (defBody s_neg) (defScope s_neg) .none kVRn dcRn pmRn anRn cdRn ctRn), slRn⟩)
    (cRn : PySem.W.codeIn K cdRn "Ratio.__neg__" = true)
    (kpRn : PySem.W.keepIn K (.ref fRn) = true)
    (aRw : PySem.W.findIn K (.ref C) "power" = some (some (.ref fRw)))
    (iRw : PySem.W.isFn K (.ref fRw) = true)
    (lRw : K.lookup fRw = some ⟨ocRw, odRw, .func (PySem.W.fnOf "power" "Ratio.power" (defArgs s_pow) (defBody s_pow) (defScope s_pow) .none kVRw dcRw pmRw anRw cdRw ctRw), slRw⟩)
    (cRw : PySem.W.codeIn K cdRw "Ratio.power" = true)
    (kpRw : PySem.W.keepIn K (.ref fRw) = true)
    (aPI : PySem.W.findIn K (.ref CP) "__init__" = some (some (.ref fPI)))
    (iPI : PySem.W.isFn K (.ref fPI) = true)
    (lPI : K.lookup fPI = some ⟨ocPI, odPI, .func (PySem.W.fnOf "__init__" "Poly.__init__" (defArgs sPI) (defBody sPI) (defScope sPI) .none kVPI dcPI pmPI anPI cdPI ctPI), slPI⟩)
    (cPI : PySem.W.codeIn K cdPI "Poly.__init__" = true)
    (kpPI : PySem.W.keepIn K (.ref fPI) = true)
    (aPz : PySem.W.findIn K (.ref CP) "is_zero" = some (some (.ref fPz)))
    (iPz : PySem.W.isFn K (.ref fPz) = true)
    (lPz : K.lookup fPz = some ⟨ocPz, odPz, .func (PySem.W.fnOf "is_zero" "Poly.is_zero" (defArgs sPIz) (defBody sPIz) (defScope sPIz) .none kVPz dcPz pmPz anPz cdPz ctPz), slPz⟩)
    (cPz : PySem.W.codeIn K cdPz "Poly.is_zero" = true)
    (kpPz : PySem.W.keepIn K (.ref fPz) = true)
    (aPg : PySem.W.findIn K (.ref CP) "degree" = some (some (.ref fPg)))
    (iPg : PySem.W.isFn K (.ref fPg) = true)
    (lPg : K.lookup fPg = some ⟨ocPg, odPg, .func (PySem.W.fnOf "degree" "Poly.degree" (defArgs sPDg) (defBody sPDg) (defScope sPDg) .none kVPg dcPg pmPg anPg cdPg ctPg), slPg⟩)
    (cPg : PySem.W.codeIn K cdPg "Poly.degree" = true)
    (kpPg : PySem.W.keepIn K (.ref fPg) = true)
    (aDb : PySem.W.findIn K (.ref CP) "divided_by" = some (some (.ref fDb)))
    (iDb : PySem.W.isFn K (.ref fDb) = true)
    (lDb : K.lookup fDb = some ⟨ocDb, odDb, .func (PySem.W.fnOf "divided_by" "Poly.divided_by" (defArgs sPDb) (defBody sPDb) (defScope sPDb) .none kVDb dcDb pmDb anDb cdDb ctDb), slDb⟩)
    (cDb : PySem.W.codeIn K cdDb "Poly.divided_by" = true)
    (kpDb : PySem.W.keepIn K (.ref fDb) = true)
    (aPl : PySem.W.findIn K (.ref CP) "last" = some (some (.ref fPl)))
    (iPl : PySem.W.isFn K (.ref fPl) = true)
    (lPl : K.lookup fPl = some ⟨ocPl, odPl, .func (PySem.W.fnOf "last" "Poly.last" (defArgs sPLa) (defBody sPLa) (defScope sPLa) .none kVPl dcPl pmPl anPl cdPl ctPl), slPl⟩)
    (cPl : PySem.W.codeIn K cdPl "Poly.last" = true)
    (kpPl : PySem.W.keepIn K (.ref fPl) = true)
    (aPm : PySem.W.findIn K (.ref CP) "primitive" = some (some (.ref fPm)))
    (iPm : PySem.W.isFn K (.ref fPm) = true)
    (lPm : K.lookup fPm = some ⟨ocPm, odPm, .func (PySem.W.fnOf "primitive" "Poly.primitive" (defArgs sPPr) (defBody sPPr) (defScope sPPr) .none kVPm dcPm pmPm anPm cdPm ctPm), slPm⟩)
    (cPm : PySem.W.codeIn K cdPm "Poly.primitive" = true)
    (kpPm : PySem.W.keepIn K (.ref fPm) = true)
    (aSc : PySem.W.findIn K (.ref CP) "scaled" = some (some (.ref fSc)))
    (iSc : PySem.W.isFn K (.ref fSc) = true)
    (lSc : K.lookup fSc = some ⟨ocSc, odSc, .func (PySem.W.fnOf "scaled" "Poly.scaled" (defArgs sPSc) (defBody sPSc) (defScope sPSc) .none kVSc dcSc pmSc anSc cdSc ctSc), slSc⟩)
    (cSc : PySem.W.codeIn K cdSc "Poly.scaled" = true)
    (kpSc : PySem.W.keepIn K (.ref fSc) = true)
    (aMd : PySem.W.findIn K (.ref CP) "__mod__" = some (some (.ref fMd)))
    (iMd : PySem.W.isFn K (.ref fMd) = true)
    (lMd : K.lookup fMd = some ⟨ocMd, odMd, .func (PySem.W.fnOf "__mod__" "Poly.__mod__" (defArgs sPMd) (defBody sPMd) (defScope sPMd) .none kVMd dcMd pmMd anMd cdMd ctMd), slMd⟩)
    (cMd : PySem.W.codeIn K cdMd "Poly.__mod__" = true)
    (kpMd : PySem.W.keepIn K (.ref fMd) = true)
    (aMl : PySem.W.findIn K (.ref CP) "__mul__" = some (some (.ref fMl)))
    (iMl : PySem.W.isFn K (.ref fMl) = true)
    (lMl : K.lookup fMl = some ⟨ocMl, odMl, .func (PySem.W.fnOf "__mul__" "Poly.__mul__" (defArgs sPMul) (defBody sPMul) (defScope sPMul) .none kVMl dcMl pmMl anMl cdMl ctMl), slMl⟩)
    (cMl : PySem.W.codeIn K cdMl "Poly.__mul__" = true)
    (kpMl : PySem.W.keepIn K (.ref fMl) = true)
    (aPa : PySem.W.findIn K (.ref CP) "__add__" = some (some (.ref fPa)))
    (iPa : PySem.W.isFn K (.ref fPa) = true)
    (lPa : K.lookup fPa = some ⟨ocPa, odPa, .func (PySem.W.fnOf "__add__" "Poly.__add__" (defArgs sPAdd) (defBody sPAdd) (defScope sPAdd) .none kVPa dcPa pmPa anPa cdPa ctPa), slPa⟩)
    (cPa : PySem.W.codeIn K cdPa "Poly.__add__" = true)
    (kpPa : PySem.W.keepIn K (.ref fPa) = true)
    (aL : PySem.W.nsIn K mainGlobals "law" = some (some (.ref fL)))
    (lL : K.lookup fL = some ⟨ocL, odL, .func (PySem.W.fnOf "law" "law" (defArgs sLaw) (defBody sLaw) (defScope sLaw) .none kVL dcL pmL anL cdL ctL), slL⟩)
    (cL : PySem.W.codeIn K cdL "law" = true)
    (kpL : PySem.W.keepIn K (.ref fL) = true)
    (aI : PySem.W.findIn K (.ref C) "__init__" = some (some (.ref fI)))
    (iI : PySem.W.isFn K (.ref fI) = true)
    (lI : K.lookup fI = some ⟨ocI, odI, .func (PySem.W.fnOf "__init__" "Ratio.__init__" (defArgs sInit) (defBody sInit) (defScope sInit) (.ref T') kVI dcI pmI anI cdI ctI), slI⟩)
    (lT : K.lookup T' = some ⟨cT, ddT, .seq #[.int 1 tT] nT, slT⟩)
    (cI : PySem.W.codeIn K cdI "Ratio.__init__" = true)
    (kpI : PySem.W.keepIn K (.ref fI) = true)
    (gC : PySem.W.nsIn K mainGlobals "Ratio" = some (some (.ref C)))
    (gP : PySem.W.nsIn K mainGlobals "Poly" = some (some (.ref CP)))
    (pg1 : PySem.W.plainGet K C Str.empty = true)
    (hd1 : PySem.W.hasDictIn K C = true)
    (po1 : PySem.W.plainOver K C = true)
    (sa1 : PySem.W.findIn K (.ref C) "__setattr__" = some (some (.builtin "object.__setattr__")))
    (mk1 : PySem.W.makesIn K C = true)
    (kpC1 : PySem.W.keepIn K (.ref C) = true)
    (ca1 : PySem.W.findIn K (.ref C) "__class__" = some (some (.builtin "object.__class__")))
    (cm1 : PySem.W.mroIn K C (.type "object") = some true)
    (ck1 : PySem.W.kitOne K (.ref C) (.ref C) = some true)
    (pg2 : PySem.W.plainGet K CP Str.empty = true)
    (hd2 : PySem.W.hasDictIn K CP = true)
    (po2 : PySem.W.plainOver K CP = true)
    (sa2 : PySem.W.findIn K (.ref CP) "__setattr__" = some (some (.builtin "object.__setattr__")))
    (mk2 : PySem.W.makesIn K CP = true)
    (kpC2 : PySem.W.keepIn K (.ref CP) = true)
    (ca2 : PySem.W.findIn K (.ref CP) "__class__" = some (some (.builtin "object.__class__")))
    (cm2 : PySem.W.mroIn K CP (.type "object") = some true)
    (ck2 : PySem.W.kitOne K (.ref CP) (.ref CP) = some true)
    (nN : PySem.W.findIn K (.ref C) "n" = some none)
    (nD : PySem.W.findIn K (.ref C) "d" = some none)
    (nR : PySem.W.findIn K (.ref CP) "row" = some none)
    (nU : PySem.W.findIn K (.ref CP) "_numbers" = some none)
    (nB : PySem.W.findIn K (.ref CP) "_below" = some none)
    (gg : PySem.W.nsIn K mainGlobals "gcd" = some (some (.builtin "math.gcd")))
    (gl : PySem.W.nsIn K mainGlobals "lcm" = some (some (.builtin "math.lcm")))
    (xZ : PySem.W.excIn K Z [.type "ValueError", .type "Exception", .type "BaseException", .type "object"] "ValueError.__new__" = true)
    (gZ : PySem.W.nsIn K mainGlobals "ZeroDivisor" = some (some (.ref Z)))
    (kpZ : PySem.W.keepIn K (.ref Z) = true)
    (bZ : PySem.W.subIn K (.ref Z) (.type "BaseException") = some true)
    (tZ : PySem.W.typeIn K (.ref Z) = some (.type "type"))
    (xF : PySem.W.excIn K MFa [.type "ValueError", .type "Exception", .type "BaseException", .type "object"] "ValueError.__new__" = true)
    (gF : PySem.W.nsIn K mainGlobals "Malformed" = some (some (.ref MFa)))
    (kpF : PySem.W.keepIn K (.ref MFa) = true)
    (bF : PySem.W.subIn K (.ref MFa) (.type "BaseException") = some true)
    (tF : PySem.W.typeIn K (.ref MFa) = some (.type "type"))
    (hF : PySem.W.hasDictIn K MFa = true)
    (sF : PySem.W.subIn K (.ref MFa) (.ref MFa) = some true)
    (zlen : PySem.W.nsIn K mainGlobals "len" = some none)
    (zrange : PySem.W.nsIn K mainGlobals "range" = some none)
    (zint : PySem.W.nsIn K mainGlobals "int" = some none)
    (zabs : PySem.W.nsIn K mainGlobals "abs" = some none)
    (zisinstance : PySem.W.nsIn K mainGlobals "isinstance" = some none)
    (zbool : PySem.W.nsIn K mainGlobals "bool" = some none)
    (ztuple : PySem.W.nsIn K mainGlobals "tuple" = some none)
    (zlist : PySem.W.nsIn K mainGlobals "list" = some none)
    (ziter : PySem.W.nsIn K mainGlobals "iter" = some none)
    (zzip : PySem.W.nsIn K mainGlobals "zip" = some none)
    (zsum : PySem.W.nsIn K mainGlobals "sum" = some none)
    (zenumerate : PySem.W.nsIn K mainGlobals "enumerate" = some none)
    (zmax : PySem.W.nsIn K mainGlobals "max" = some none)
    (cn : PySem.W.specialIn K (.builtin "object.__class__") "__get__" = some (some (.builtin "getset_descriptor.__get__")))
    (ct : PySem.W.takesIn K (.builtin "object.__class__") = some true)
    (sf : PySem.W.selfFirst K CP = true)
    (sf1 : PySem.W.selfFirst K C = true)
    (ki : PySem.W.kitOne K (.type "int") (.ref C) = some false) :
    ∃ fd : FuncData, (∀ (s : Shared) (v : Value), BindsTo s fd ⟨[v], []⟩ [("script", v)]) ∧ ∀ base : Heap, K.In base → base.Ns mainGlobals mg → base.NoSeer → FnOk P w K mg base CX0 60 fa fd ["script"] (spLaw K) := by
  have e := hfa.symm.trans (PySem.W.mg_of X G aL)
  cases e
  have T : TxL K mg := ⟨PySem.W.mg_none_of X G zlen, PySem.W.mg_none_of X G zrange, PySem.W.mg_none_of X G zint, PySem.W.mg_none_of X G zabs, PySem.W.mg_none_of X G zisinstance, PySem.W.mg_none_of X G zbool⟩
  have R : TxR K mg C Z := ⟨⟨pg1, hd1, po1, sa1⟩, nN, nD, PySem.W.mg_of X G gC, PySem.W.mg_of X G gg, xZ, PySem.W.mg_of X G gZ, kpZ, bZ, tZ⟩
  have TP : TxP K mg CP := ⟨⟨pg2, hd2, po2, sa2⟩, nR, nU, nB, PySem.W.mg_of X G gP, PySem.W.mg_none_of X G ztuple, PySem.W.mg_none_of X G zlist, PySem.W.mg_none_of X G ziter, PySem.W.mg_none_of X G zzip, PySem.W.mg_none_of X G zsum, PySem.W.mg_none_of X G zenumerate⟩
  have I : TxI K C := ⟨ca1, cn, ct, cm1, ck1⟩
  have IP : TxI K CP := ⟨ca2, cn, ct, cm2, ck2⟩
  have TM : TxMF K mg MFa := ⟨xF, PySem.W.mg_of X G gF, kpF, bF, tF⟩
  have ml := PySem.W.mg_of X G gl
  have ggm := PySem.W.mg_of X G gg
  have mmax : mg "max" = none := PySem.W.mg_none_of X G zmax
  have FLg := fun_mk (st := sLd) lLg cLg kpLg
  have bLg := FLg.binds (ps := ["a", "b"]) fun _ _ _ _ _ _ us hl => match us, hl with | [_, _], _ => rfl
  have mLg := PySem.W.mg_of X G aLg
  have FCf := fun_mk (st := sCF) lCf cCf kpCf
  have bCf := FCf.binds (ps := ["numbers"]) fun _ _ _ _ _ _ us hl => match us, hl with | [_], _ => rfl
  have mCf := PySem.W.mg_of X G aCf
  have FNn := fun_mk (st := sOfN) lNn cNn kpNn
  have bNn := FNn.binds (ps := ["numbers", "below"]) fun _ _ _ _ _ _ us hl => match us, hl with | [_, _], _ => rfl
  have mNn := PySem.W.mg_of X G aNn
  have FRs := fun_mk (st := sRS) lRs cRs kpRs
  have bRs := FRs.binds (ps := ["a", "left", "b", "right"]) fun _ _ _ _ _ _ us hl => match us, hl with | [_, _, _, _], _ => rfl
  have mRs := PySem.W.mg_of X G aRs
  have FRp := fun_mk (st := sRP) lRp cRp kpRp
  have bRp := FRp.binds (ps := ["a", "b"]) fun _ _ _ _ _ _ us hl => match us, hl with | [_, _], _ => rfl
  have mRp := PySem.W.mg_of X G aRp
  have FTr := fun_mk (st := sTr) lTr cTr kpTr
  have bTr := FTr.binds (ps := ["row"]) fun _ _ _ _ _ _ us hl => match us, hl with | [_], _ => rfl
  have mTr := PySem.W.mg_of X G aTr
  have FPo := fun_mk (st := sPowOf) lPo cPo kpPo
  have bPo := FPo.binds (ps := ["base", "k", "unit"]) fun _ _ _ _ _ _ us hl => match us, hl with | [_, _, _], _ => rfl
  have mPo := PySem.W.mg_of X G aPo
  have FCt := fun_mk (st := sCont) lCt cCt kpCt
  have bCt := FCt.binds (ps := ["row"]) fun _ _ _ _ _ _ us hl => match us, hl with | [_], _ => rfl
  have mCt := PySem.W.mg_of X G aCt
  have FZr := fun_mk (st := sZero) lZr cZr kpZr
  have bZr := FZr.binds (ps := []) fun _ _ _ _ _ _ us hl => match us, hl with | [], _ => rfl
  have mZr := PySem.W.mg_of X G aZr
  have FOn := fun_mk (st := sOn) lOn cOn kpOn
  have bOn := FOn.binds (ps := []) fun _ _ _ _ _ _ us hl => match us, hl with | [], _ => rfl
  have mOn := PySem.W.mg_of X G aOn
  have FCs := fun_mk (st := sCst) lCs cCs kpCs
  have bCs := FCs.binds (ps := ["r"]) fun _ _ _ _ _ _ us hl => match us, hl with | [_], _ => rfl
  have mCs := PySem.W.mg_of X G aCs
  have FRe := fun_mk (st := sRes) lRe cRe kpRe
  have bRe := FRe.binds (ps := ["p", "q"]) fun _ _ _ _ _ _ us hl => match us, hl with | [_, _], _ => rfl
  have mRe := PySem.W.mg_of X G aRe
  have FRv := fun_mk (st := sRiv) lRv cRv kpRv
  have bRv := FRv.binds (ps := ["p", "rows"]) fun _ _ _ _ _ _ us hl => match us, hl with | [_, _], _ => rfl
  have mRv := PySem.W.mg_of X G aRv
  have FPr := fun_mk (st := sPor) lPr cPr kpPr
  have bPr := FPr.binds (ps := ["p", "rows", "v", "bound"]) fun _ _ _ _ _ _ us hl => match us, hl with | [_, _, _, _], _ => rfl
  have mPr := PySem.W.mg_of X G aPr
  have FIn := fun_mk (st := sInt) lIn cIn kpIn
  have bIn := FIn.binds (ps := ["values"]) fun _ _ _ _ _ _ us hl => match us, hl with | [_], _ => rfl
  have mIn := PySem.W.mg_of X G aIn
  have FC := fun_mk (st := sCell) lC cC kpC
  have bC := FC.binds (ps := ["script", "k"]) fun _ _ _ _ _ _ us hl => match us, hl with | [_, _], _ => rfl
  have mC := PySem.W.mg_of X G aC
  have FD := fun_mk (st := sDraws) lD cD kpD
  have bD := FD.binds (ps := ["script", "at", "count", "bound"]) fun _ _ _ _ _ _ us hl => match us, hl with | [_, _, _, _], _ => rfl
  have mD := PySem.W.mg_of X G aD
  have FG := fun_mk (st := sGcd) lG cG kpG
  have bG := FG.binds (ps := ["a", "b"]) fun _ _ _ _ _ _ us hl => match us, hl with | [_, _], _ => rfl
  have mG := PySem.W.mg_of X G aG
  have FRt := fun_mk (st := sRat) lRt cRt kpRt
  have bRt := FRt.binds (ps := ["n", "d"]) fun _ _ _ _ _ _ us hl => match us, hl with | [_, _], _ => rfl
  have mRt := PySem.W.mg_of X G aRt
  have FAd := fun_mk (st := sAdd) lAd cAd kpAd
  have bAd := FAd.binds (ps := ["a", "b"]) fun _ _ _ _ _ _ us hl => match us, hl with | [_, _], _ => rfl
  have mAd := PySem.W.mg_of X G aAd
  have FMu := fun_mk (st := sMul) lMu cMu kpMu
  have bMu := FMu.binds (ps := ["a", "b"]) fun _ _ _ _ _ _ us hl => match us, hl with | [_, _], _ => rfl
  have mMu := PySem.W.mg_of X G aMu
  have FS := fun_mk (st := sIsI) lS cS kpS
  have bS := FS.binds (ps := ["value"]) fun _ _ _ _ _ _ us hl => match us, hl with | [_], _ => rfl
  have mS := PySem.W.mg_of X G aS
  have FP := fun_mk (st := sPair) lP cP kpP
  have bP := FP.binds (ps := ["value"]) fun _ _ _ _ _ _ us hl => match us, hl with | [_], _ => rfl
  have mP := PySem.W.mg_of X G aP
  have FSm := fun_mk (st := sSm) lSm cSm kpSm
  have bSm := FSm.binds (ps := ["n", "d"]) fun _ _ _ _ _ _ us hl => match us, hl with | [_, _], _ => rfl
  have mSm := PySem.W.mg_of X G aSm
  have FLt := fun_mk (st := sLt) lLt cLt kpLt
  have bLt := FLt.binds (ps := ["row"]) fun _ _ _ _ _ _ us hl => match us, hl with | [_], _ => rfl
  have mLt := PySem.W.mg_of X G aLt
  have FLa := fun_mk (st := sLa) lLa cLa kpLa
  have bLa := FLa.binds (ps := ["p", "q"]) fun _ _ _ _ _ _ us hl => match us, hl with | [_, _], _ => rfl
  have mLa := PySem.W.mg_of X G aLa
  have FLm := fun_mk (st := sLm) lLm cLm kpLm
  have bLm := FLm.binds (ps := ["p", "q"]) fun _ _ _ _ _ _ us hl => match us, hl with | [_, _], _ => rfl
  have mLm := PySem.W.mg_of X G aLm
  have FLv := fun_mk (st := sLv) lLv cLv kpLv
  have bLv := FLv.binds (ps := ["p", "x"]) fun _ _ _ _ _ _ us hl => match us, hl with | [_, _], _ => rfl
  have mLv := PySem.W.mg_of X G aLv
  have FLp := fun_mk (st := sLp) lLp cLp kpLp
  have bLp := FLp.binds (ps := ["row", "size"]) fun _ _ _ _ _ _ us hl => match us, hl with | [_, _], _ => rfl
  have mLp := PySem.W.mg_of X G aLp
  have FLr := fun_mk (st := sLr) lLr cLr kpLr
  have bLr := FLr.binds (ps := ["p"]) fun _ _ _ _ _ _ us hl => match us, hl with | [_], _ => rfl
  have mLr := PySem.W.mg_of X G aLr
  have FLk := fun_mk (st := sLk) lLk cLk kpLk
  have bLk := FLk.binds (ps := ["row"]) fun _ _ _ _ _ _ us hl => match us, hl with | [_], _ => rfl
  have mLk := PySem.W.mg_of X G aLk
  have FLw := fun_mk (st := sLw) lLw cLw kpLw
  have bLw := FLw.binds (ps := ["a", "k"]) fun _ _ _ _ _ _ us hl => match us, hl with | [_, _], _ => rfl
  have mLw := PySem.W.mg_of X G aLw
  have FDu := fun_mk (st := sLd2) lDu cDu kpDu
  have bDu := FDu.binds (ps := ["head", "roots", "q", "high"]) fun _ _ _ _ _ _ us hl => match us, hl with | [_, _, _, _], _ => rfl
  have mDu := PySem.W.mg_of X G aDu
  have FRf := fun_mk (st := sRf) lRf cRf kpRf
  have bRf := FRf.binds (ps := ["rows"]) fun _ _ _ _ _ _ us hl => match us, hl with | [_], _ => rfl
  have mRf := PySem.W.mg_of X G aRf
  have FZi := fun_mk (st := sIsZ) lZi cZi kpZi
  have bZi := FZi.binds (ps := ["self"]) fun _ _ _ _ _ _ us hl => match us, hl with | [_], _ => rfl
  have MZi : Meth K C "is_zero" fZi := ⟨aZi, iZi, kpZi⟩
  have FRm := fun_mk (st := s_mul) lRm cRm kpRm
  have bRm := FRm.binds (ps := ["self", "other"]) fun _ _ _ _ _ _ us hl => match us, hl with | [_, _], _ => rfl
  have MRm : Meth K C "__mul__" fRm := ⟨aRm, iRm, kpRm⟩
  have FRb := fun_mk (st := s_sub) lRb cRb kpRb
  have bRb := FRb.binds (ps := ["self", "other"]) fun _ _ _ _ _ _ us hl => match us, hl with | [_, _], _ => rfl
  have MRb : Meth K C "__sub__" fRb := ⟨aRb, iRb, kpRb⟩
  have FRn := fun_mk (st := s_neg) lRn cRn kpRn
  have bRn := FRn.binds (ps := ["self"]) fun _ _ _ _ _ _ us hl => match us, hl with | [_], _ => rfl
  have MRn : Meth K C "__neg__" fRn := ⟨aRn, iRn, kpRn⟩
  have FRw := fun_mk (st := s_pow) lRw cRw kpRw
  have bRw := FRw.binds (ps := ["self", "k"]) fun _ _ _ _ _ _ us hl => match us, hl with | [_, _], _ => rfl
  have MRw : Meth K C "power" fRw := ⟨aRw, iRw, kpRw⟩
  have FPI := fun_mk (st := sPI) lPI cPI kpPI
  have bPI := FPI.binds (ps := ["self", "row"]) fun _ _ _ _ _ _ us hl => match us, hl with | [_, _], _ => rfl
  have MPI : Meth K CP "__init__" fPI := ⟨aPI, iPI, kpPI⟩
  have FPz := fun_mk (st := sPIz) lPz cPz kpPz
  have bPz := FPz.binds (ps := ["self"]) fun _ _ _ _ _ _ us hl => match us, hl with | [_], _ => rfl
  have MPz : Meth K CP "is_zero" fPz := ⟨aPz, iPz, kpPz⟩
  have FPg := fun_mk (st := sPDg) lPg cPg kpPg
  have bPg := FPg.binds (ps := ["self"]) fun _ _ _ _ _ _ us hl => match us, hl with | [_], _ => rfl
  have MPg : Meth K CP "degree" fPg := ⟨aPg, iPg, kpPg⟩
  have FDb := fun_mk (st := sPDb) lDb cDb kpDb
  have bDb := FDb.binds (ps := ["self", "other"]) fun _ _ _ _ _ _ us hl => match us, hl with | [_, _], _ => rfl
  have MDb : Meth K CP "divided_by" fDb := ⟨aDb, iDb, kpDb⟩
  have FPl := fun_mk (st := sPLa) lPl cPl kpPl
  have bPl := FPl.binds (ps := ["self"]) fun _ _ _ _ _ _ us hl => match us, hl with | [_], _ => rfl
  have MPl : Meth K CP "last" fPl := ⟨aPl, iPl, kpPl⟩
  have FPm := fun_mk (st := sPPr) lPm cPm kpPm
  have bPm := FPm.binds (ps := ["self"]) fun _ _ _ _ _ _ us hl => match us, hl with | [_], _ => rfl
  have MPm : Meth K CP "primitive" fPm := ⟨aPm, iPm, kpPm⟩
  have FSc := fun_mk (st := sPSc) lSc cSc kpSc
  have bSc := FSc.binds (ps := ["self", "r"]) fun _ _ _ _ _ _ us hl => match us, hl with | [_, _], _ => rfl
  have MSc : Meth K CP "scaled" fSc := ⟨aSc, iSc, kpSc⟩
  have FMd := fun_mk (st := sPMd) lMd cMd kpMd
  have bMd := FMd.binds (ps := ["self", "other"]) fun _ _ _ _ _ _ us hl => match us, hl with | [_, _], _ => rfl
  have MMd : Meth K CP "__mod__" fMd := ⟨aMd, iMd, kpMd⟩
  have FMl := fun_mk (st := sPMul) lMl cMl kpMl
  have bMl := FMl.binds (ps := ["self", "other"]) fun _ _ _ _ _ _ us hl => match us, hl with | [_, _], _ => rfl
  have MMl : Meth K CP "__mul__" fMl := ⟨aMl, iMl, kpMl⟩
  have FPa := fun_mk (st := sPAdd) lPa cPa kpPa
  have bPa := FPa.binds (ps := ["self", "other"]) fun _ _ _ _ _ _ us hl => match us, hl with | [_, _], _ => rfl
  have MPa : Meth K CP "__add__" fPa := ⟨aPa, iPa, kpPa⟩
  have FL := fun_mk (st := sLaw) lL cL kpL
  have mL := PySem.W.mg_of X G aL
  have FI : FunD K "__init__" "Ratio.__init__" (defArgs sInit) (defBody sInit) (defScope sInit) [.int 1] [] fI (PySem.W.fnOf "__init__" "Ratio.__init__" (defArgs sInit) (defBody sInit) (defScope sInit) (.ref T') kVI dcI pmI anI cdI ctI) :=
    ⟨⟨_, _, _, _, _, _, _, _, _, _, rfl, lI, cI, .inr ⟨(by simp), _, _, [.int 1 tT], nT, rfl, lT, rfl, .cons ⟨tT, rfl⟩ .nil⟩, .inl rfl⟩, kpI⟩
  obtain ⟨ds2, v2, b2⟩ := FI.binds1 (ps := ["self", "n", "d"]) 3 1 (by simp) rfl (fun T kV doc pm an cdv ct us its h1 h2 => match us, its, h1, h2 with | [_, _, _], [_], _, _ => ⟨_, rfl, rfl⟩)
  obtain ⟨ds1, v1, b1⟩ := FI.binds1 (ps := ["self", "n", "d"]) 2 0 (by simp) rfl (fun T kV doc pm an cdv ct us its h1 h2 => match us, its, h1, h2 with | [_, _], [_], _, _ => ⟨_, rfl, rfl⟩)
  cases v2
  refine ⟨(PySem.W.fnOf "law" "law" (defArgs sLaw) (defBody sLaw) (defScope sLaw) .none kVL dcL pmL anL cdL ctL), fun s v => .of_eq rfl, fun base _ _ hN => ?_⟩
  have M : MkR P w K mg base C Z fI _ ds1 := ⟨⟨mk1, aI, iI, kpC1⟩, ok_init hN hT FI R, b2, b1, v1⟩
  have MP : MkP P w K mg base C CP fPI _ := ⟨⟨mk2, aPI, iPI, kpC2⟩, ok_pi FPI T R I ki TP M MZi bZi (ok_isz FZi R) (ok_cfL FCf R ml) kpCf bCf mCf, bPI⟩
  have GTr := ok_trim (P := P) (w := w) (base := base) FTr T
  have O : TxO P w K mg base C CP fNn fRs fRp _ _ _ := ⟨mNn, kpNn, bNn, ok_ofn FNn R TP M MP, mRs, kpRs, bRs, ok_rs FRs T TP.enum, mRp, kpRp, bRp, ok_rp FRp T TP.enum GTr kpTr bTr mTr, ml⟩
  have GIz := ok_piz (C := C) (P := P) (w := w) (base := base) FPz T TP
  have GDg := ok_pdg (C := C) (P := P) (w := w) (base := base) FPg T TP
  have GLg := ok_ld (P := P) (w := w) (base := base) FLg T TP ggm GTr kpTr bTr mTr
  have GDb := dv2 (ok_pdb FDb R TP O GIz bPz MPz GLg kpLg bLg mLg)
  have OM : OwnR P w K mg base CP "__mod__" (spMd C Z CP) fMd _ := ⟨ok_md FMd TP GDb bDb MDb, aMd, iMd, bMd, sf⟩
  have QM : OwnQ P w K mg base C "__mul__" (spMulR C) ["self", "other"] fRm _ := ⟨mulR (ok_mul FRm R M), aRm, iRm, bRm, sf1⟩
  have QS : OwnQ P w K mg base C "__sub__" (spSubR C) ["self", "other"] fRb _ := ⟨subR (ok_sub FRb R M), aRb, iRb, bRb, sf1⟩
  have QN : OwnQ P w K mg base C "__neg__" (spNegR C) ["self"] fRn _ := ⟨negR (ok_neg FRn R M), aRn, iRn, bRn, sf1⟩
  have PM : OwnM P w K mg base C CP "__mul__" (spPMul C CP) ["self", "other"] fMl _ := ⟨ok_pmul FMl TP O, aMl, iMl, bMl, sf⟩
  have PA : OwnM P w K mg base C CP "__add__" (spPAdd C CP) ["self", "other"] fPa _ := ⟨ok_padd FPa TP O, aPa, iPa, bPa, sf⟩
  have GLa := ok_pla (P := P) (w := w) (base := base) FPl R TP GIz bPz MPz
  have LR : TxRes P w K mg base C Z CP fZr fOn fPz fPg fPl fPm fMd fRm fRn fRw fPI _ _ _ _ _ _ _ _ _ _ _ := ⟨mZr, kpZr, bZr, ok_zero FZr R M, mOn, kpOn, bOn, ok_on FOn R M, MPz, bPz, GIz, MPg, bPg, GDg, MPl, bPl, GLa, MPm, bPm, ok_ppr FPm R M TP GIz bPz MPz (ok_cont FCt ggm) kpCt bCt mCt, OM, QM, QN, MRw, bRw, powR (ok_pow0 FRw R M FPo bPo mPo), MP⟩
  have GRe := ok_res FRe R TP LR
  have GIn := ok_int FIn T R TP M MP (ok_cst FCs TP MP) kpCs bCs mCs QS PM PA
  have GPr := ok_por FPr R TP M MP LR MSc (ok_psc FSc R TP O) bSc GRe kpRe bRe mRe PA
  have GRv := ok_riv FRv T TP TM mmax MP LR GPr kpPr bPr mPr GIn kpIn bIn mIn
  have GRt := ok_rat (P := P) (w := w) hN hT FRt T FG bG mG
  have GRq := ratQ GRt
  have GAd := addQ (ok_addT FAd GRt kpRt bRt mRt)
  have GMu := mulQ (ok_mulT FMu GRt kpRt bRt mRt)
  have GSm := ok_small (P := P) (w := w) (base := base) FSm GRq kpRt bRt mRt
  have GLt := ok_lt (P := P) (w := w) (base := base) FLt T TP
  have GLv := ok_lv FLv T GAd kpAd bAd mAd GMu kpMu bMu mMu
  exact ok_law (Z := Z) FL T TP mmax ⟨⟨mD, kpD, bD, ok_draws FD T FC bC mC⟩,
    ⟨mSm, kpSm, bSm, GSm⟩,
    ⟨mLt, kpLt, bLt, GLt⟩,
    ⟨mLp, kpLp, bLp, ok_lp FLp T GLt kpLt bLt mLt GSm kpSm bSm mSm⟩,
    ⟨mLa, kpLa, bLa, ok_la FLa T mmax GLt kpLt bLt mLt GAd kpAd bAd mAd⟩,
    ⟨mLm, kpLm, bLm, ok_lm FLm T GLt kpLt bLt mLt GAd kpAd bAd mAd GMu kpMu bMu mMu⟩,
    ⟨mLk, kpLk, bLk, ok_lk FLk R TP M MP⟩,
    ⟨mLr, kpLr, bLr, ok_lr FLr T TP IP (ok_pair FP T R I FS bS mS FG bG mG) kpP bP mP⟩,
    ⟨mRf, kpRf, bRf, ok_rf FRf TP TM (PySem.W.exm_ref bF hF tF sF) MP GRv kpRv bRv mRv⟩,
    ⟨mDu, kpDu, bDu, ok_ld2 FDu T GMu kpMu bMu mMu GLv kpLv bLv mLv (ok_lw FLw T GMu kpMu bMu mMu) kpLw bLw mLw⟩,
    ⟨mP, kpP, bP, ok_pair FP T R I FS bS mS FG bG mG⟩,
    ⟨mRe, kpRe, bRe, GRe⟩,
    ⟨mRt, kpRt, bRt, GRq⟩,
    ⟨mLv, kpLv, bLv, GLv⟩,
    ⟨mRv, kpRv, bRv, GRv⟩⟩
theorem walk {l : PySem.W.OpenLaw} {q : Program} {loose : List Str} {XP : (Str → Option Value) → Heap → Prop} {YP : World → Heap → Prop} {d : DefRec} {K : Params → PySem.W.Frag} (hn : l.most = some 63) (hdf : d.params.defaults = []) (hi : importsNone q = true)
    (hY : ∀ (w : World) (h : Heap), YP w h → (K w.params).In h)
    (F : ∀ (w : World) (mg : Str → Option Value) (fa : Addr) (h : Heap), (K w.params).In h → h.Ns mainGlobals mg → mg d.name = some (.ref fa) →
      ∃ fd : FuncData, (∀ (s : Shared) (u : Value), BindsTo s fd ⟨[u], []⟩ [("script", u)]) ∧ ∀ base : Heap, (K w.params).In base → base.Ns mainGlobals mg → base.NoSeer → FnOk l.prog w (K w.params) mg base CX0 60 fa fd ["script"] (spLaw (K w.params))) :
    PySem.W.WalkO q loose XP YP l.row.toRowW d [] (fun f vs => PySem.call f vs) :=
  walk_far (n := 63) (k := 60) (x := "script") (sp := fun w => spLaw (K w.params)) hn (by decide) hdf ⟨rfl, by decide, by decide⟩ hi hY F fun _ _ a ns _ hb hS => ⟨a, ns, rfl, hS, fun _ => rfl⟩
end Ind

set_option Elab.async false
set_option linter.all false
open PySem PySem.W PyProof.Rows in
set_option maxRecDepth 100000 in
set_option maxHeartbeats 0 in
theorem PySem.Challenge.cw_indicial_k16_resultants_holds : PySem.Challenge.rw_indicial_k16_resultants.Holds := by
  w_on; o_law; k_head; (case hw => w_witness2)
  k_fill
  refine Ind.walk (l := PySem.Challenge.rw_indicial_k16_resultants) rfl rfl (by decide +kernel) (fun w h Y => PySem.W.kIn_of Y) ?F
  case F =>
    intro w mg fa h KX G hmg
    refine' Ind.all_mk rfl KX G hmg ?aLg ?lLg ?cLg ?kpLg ?aCf ?lCf ?cCf ?kpCf ?aNn ?lNn ?cNn ?kpNn ?aRs ?lRs ?cRs ?kpRs ?aRp ?lRp ?cRp ?kpRp ?aTr ?lTr ?cTr ?kpTr ?aPo ?lPo ?cPo ?kpPo ?aCt ?lCt ?cCt ?kpCt ?aZr ?lZr ?cZr ?kpZr ?aOn ?lOn ?cOn ?kpOn ?aCs ?lCs ?cCs ?kpCs ?aRe ?lRe ?cRe ?kpRe ?aRv ?lRv ?cRv ?kpRv ?aPr ?lPr ?cPr ?kpPr ?aIn ?lIn ?cIn ?kpIn ?aC ?lC ?cC ?kpC ?aD ?lD ?cD ?kpD ?aG ?lG ?cG ?kpG ?aRt ?lRt ?cRt ?kpRt ?aAd ?lAd ?cAd ?kpAd ?aMu ?lMu ?cMu ?kpMu ?aS ?lS ?cS ?kpS ?aP ?lP ?cP ?kpP ?aSm ?lSm ?cSm ?kpSm ?aLt ?lLt ?cLt ?kpLt ?aLa ?lLa ?cLa ?kpLa ?aLm ?lLm ?cLm ?kpLm ?aLv ?lLv ?cLv ?kpLv ?aLp ?lLp ?cLp ?kpLp ?aLr ?lLr ?cLr ?kpLr ?aLk ?lLk ?cLk ?kpLk ?aLw ?lLw ?cLw ?kpLw ?aDu ?lDu ?cDu ?kpDu ?aRf ?lRf ?cRf ?kpRf ?aZi ?iZi ?lZi ?cZi ?kpZi ?aRm ?iRm ?lRm ?cRm ?kpRm ?aRb ?iRb ?lRb ?cRb ?kpRb ?aRn ?iRn ?lRn ?cRn ?kpRn ?aRw ?iRw ?lRw ?cRw ?kpRw ?aPI ?iPI ?lPI ?cPI ?kpPI ?aPz ?iPz ?lPz ?cPz ?kpPz ?aPg ?iPg ?lPg ?cPg ?kpPg ?aDb ?iDb ?lDb ?cDb ?kpDb ?aPl ?iPl ?lPl ?cPl ?kpPl ?aPm ?iPm ?lPm ?cPm ?kpPm ?aSc ?iSc ?lSc ?cSc ?kpSc ?aMd ?iMd ?lMd ?cMd ?kpMd ?aMl ?iMl ?lMl ?cMl ?kpMl ?aPa ?iPa ?lPa ?cPa ?kpPa ?aL ?lL ?cL ?kpL ?aI ?iI ?lI ?lT ?cI ?kpI ?gC ?gP ?pg1 ?hd1 ?po1 ?sa1 ?mk1 ?kpC1 ?ca1 ?cm1 ?ck1 ?pg2 ?hd2 ?po2 ?sa2 ?mk2 ?kpC2 ?ca2 ?cm2 ?ck2 ?nN ?nD ?nR ?nU ?nB ?gg ?gl ?xZ ?gZ ?kpZ ?bZ ?tZ ?xF ?gF ?kpF ?bF ?tF ?hF ?sF ?zlen ?zrange ?zint ?zabs ?zisinstance ?zbool ?ztuple ?zlist ?ziter ?zzip ?zsum ?zenumerate ?zmax ?cn ?ct ?sf ?sf1 ?ki
    (case gC => k_is)
    (case gZ => k_is)
    (case gP => k_is)
    (case gF => k_is)
    (case aLg => k_is)
    (case lLg => k_is)
    (case cLg => k_is)
    (case kpLg => k_is)
    (case aCf => k_is)
    (case lCf => k_is)
    (case cCf => k_is)
    (case kpCf => k_is)
    (case aNn => k_is)
    (case lNn => k_is)
    (case cNn => k_is)
    (case kpNn => k_is)
    (case aRs => k_is)
    (case lRs => k_is)
    (case cRs => k_is)
    (case kpRs => k_is)
    (case aRp => k_is)
    (case lRp => k_is)
    (case cRp => k_is)
    (case kpRp => k_is)
    (case aTr => k_is)
    (case lTr => k_is)
    (case cTr => k_is)
    (case kpTr => k_is)
    (case aPo => k_is)
    (case lPo => k_is)
    (case cPo => k_is)
    (case kpPo => k_is)
    (case aCt => k_is)
    (case lCt => k_is)
    (case cCt => k_is)
    (case kpCt => k_is)
    (case aZr => k_is)
    (case lZr => k_is)
    (case cZr => k_is)
    (case kpZr => k_is)
    (case aOn => k_is)
    (case lOn => k_is)
    (case cOn => k_is)
    (case kpOn => k_is)
    (case aCs => k_is)
    (case lCs => k_is)
    (case cCs => k_is)
    (case kpCs => k_is)
    (case aRe => k_is)
    (case lRe => k_is)
    (case cRe => k_is)
    (case kpRe => k_is)
    (case aRv => k_is)
    (case lRv => k_is)
    (case cRv => k_is)
    (case kpRv => k_is)
    (case aPr => k_is)
    (case lPr => k_is)
    (case cPr => k_is)
    (case kpPr => k_is)
    (case aIn => k_is)
    (case lIn => k_is)
    (case cIn => k_is)
    (case kpIn => k_is)
    (case aC => k_is)
    (case lC => k_is)
    (case cC => k_is)
    (case kpC => k_is)
    (case aD => k_is)
    (case lD => k_is)
    (case cD => k_is)
    (case kpD => k_is)
    (case aG => k_is)
    (case lG => k_is)
    (case cG => k_is)
    (case kpG => k_is)
    (case aRt => k_is)
    (case lRt => k_is)
    (case cRt => k_is)
    (case kpRt => k_is)
    (case aAd => k_is)
    (case lAd => k_is)
    (case cAd => k_is)
    (case kpAd => k_is)
    (case aMu => k_is)
    (case lMu => k_is)
    (case cMu => k_is)
    (case kpMu => k_is)
    (case aS => k_is)
    (case lS => k_is)
    (case cS => k_is)
    (case kpS => k_is)
    (case aP => k_is)
    (case lP => k_is)
    (case cP => k_is)
    (case kpP => k_is)
    (case aSm => k_is)
    (case lSm => k_is)
    (case cSm => k_is)
    (case kpSm => k_is)
    (case aLt => k_is)
    (case lLt => k_is)
    (case cLt => k_is)
    (case kpLt => k_is)
    (case aLa => k_is)
    (case lLa => k_is)
    (case cLa => k_is)
    (case kpLa => k_is)
    (case aLm => k_is)
    (case lLm => k_is)
    (case cLm => k_is)
    (case kpLm => k_is)
    (case aLv => k_is)
    (case lLv => k_is)
    (case cLv => k_is)
    (case kpLv => k_is)
    (case aLp => k_is)
    (case lLp => k_is)
    (case cLp => k_is)
    (case kpLp => k_is)
    (case aLr => k_is)
    (case lLr => k_is)
    (case cLr => k_is)
    (case kpLr => k_is)
    (case aLk => k_is)
    (case lLk => k_is)
    (case cLk => k_is)
    (case kpLk => k_is)
    (case aLw => k_is)
    (case lLw => k_is)
    (case cLw => k_is)
    (case kpLw => k_is)
    (case aDu => k_is)
    (case lDu => k_is)
    (case cDu => k_is)
    (case kpDu => k_is)
    (case aRf => k_is)
    (case lRf => k_is)
    (case cRf => k_is)
    (case kpRf => k_is)
    (case aZi => k_is)
    (case iZi => k_is)
    (case lZi => k_is)
    (case cZi => k_is)
    (case kpZi => k_is)
    (case aRm => k_is)
    (case iRm => k_is)
    (case lRm => k_is)
    (case cRm => k_is)
    (case kpRm => k_is)
    (case aRb => k_is)
    (case iRb => k_is)
    (case lRb => k_is)
    (case cRb => k_is)
    (case kpRb => k_is)
    (case aRn => k_is)
    (case iRn => k_is)
    (case lRn => k_is)
    (case cRn => k_is)
    (case kpRn => k_is)
    (case aRw => k_is)
    (case iRw => k_is)
    (case lRw => k_is)
    (case cRw => k_is)
    (case kpRw => k_is)
    (case aPI => k_is)
    (case iPI => k_is)
    (case lPI => k_is)
    (case cPI => k_is)
    (case kpPI => k_is)
    (case aPz => k_is)
    (case iPz => k_is)
    (case lPz => k_is)
    (case cPz => k_is)
    (case kpPz => k_is)
    (case aPg => k_is)
    (case iPg => k_is)
    (case lPg => k_is)
    (case cPg => k_is)
    (case kpPg => k_is)
    (case aDb => k_is)
    (case iDb => k_is)
    (case lDb => k_is)
    (case cDb => k_is)
    (case kpDb => k_is)
    (case aPl => k_is)
    (case iPl => k_is)
    (case lPl => k_is)
    (case cPl => k_is)
    (case kpPl => k_is)
    (case aPm => k_is)
    (case iPm => k_is)
    (case lPm => k_is)
    (case cPm => k_is)
    (case kpPm => k_is)
    (case aSc => k_is)
    (case iSc => k_is)
    (case lSc => k_is)
    (case cSc => k_is)
    (case kpSc => k_is)
    (case aMd => k_is)
    (case iMd => k_is)
    (case lMd => k_is)
    (case cMd => k_is)
    (case kpMd => k_is)
    (case aMl => k_is)
    (case iMl => k_is)
    (case lMl => k_is)
    (case cMl => k_is)
    (case kpMl => k_is)
    (case aPa => k_is)
    (case iPa => k_is)
    (case lPa => k_is)
    (case cPa => k_is)
    (case kpPa => k_is)
    (case aL => k_is)
    (case lL => k_is)
    (case cL => k_is)
    (case kpL => k_is)
    (case aI => k_is)
    (case iI => k_is)
    (case lI => k_is)
    (case lT => k_is)
    (case cI => k_is)
    (case kpI => k_is)
    (case pg1 => k_is)
    (case hd1 => k_is)
    (case po1 => k_is)
    (case sa1 => k_is)
    (case mk1 => k_is)
    (case kpC1 => k_is)
    (case ca1 => k_is)
    (case cm1 => k_is)
    (case ck1 => kit_is)
    (case pg2 => k_is)
    (case hd2 => k_is)
    (case po2 => k_is)
    (case sa2 => k_is)
    (case mk2 => k_is)
    (case kpC2 => k_is)
    (case ca2 => k_is)
    (case cm2 => k_is)
    (case ck2 => kit_is)
    (case nN => k_is)
    (case nD => k_is)
    (case nR => k_is)
    (case nU => k_is)
    (case nB => k_is)
    (case gg => k_is)
    (case gl => k_is)
    (case xZ => k_exc)
    (case kpZ => k_is)
    (case bZ => k_is)
    (case tZ => k_is)
    (case xF => k_exc)
    (case kpF => k_is)
    (case bF => k_is)
    (case tF => k_is)
    (case hF => k_is)
    (case sF => k_is)
    (case zlen => k_is)
    (case zrange => k_is)
    (case zint => k_is)
    (case zabs => k_is)
    (case zisinstance => k_is)
    (case zbool => k_is)
    (case ztuple => k_is)
    (case zlist => k_is)
    (case ziter => k_is)
    (case zzip => k_is)
    (case zsum => k_is)
    (case zenumerate => k_is)
    (case zmax => k_is)
    (case cn => k_is)
    (case ct => k_is)
    (case sf => k_is)
    (case sf1 => k_is)
    (case ki => kit_is)
#print axioms PySem.Challenge.cw_indicial_k16_resultants_holds
