import PyProof.Rows.All
import Wide.All
import OpenK.AllK
import Wide.FinOn
import HandS.ForMost
import HandS.ForExc
import HandS.EndBits
import HandS.Gcd
import HandS.IsInst
import HandS.ExcIs
import HandS.OwnEq
import HandS.Defaults
import HandS.Wide
import HandS.Property
import KE.IntBitsLaws
import HandS.Iter
import HandS.Walk
import HandS.Codes
import HandS.Zip
import HandS.NamedTupSort
import HandS.TupAny
import HandS.IterVal
import HandS.IterNext
import HandS.Conv
import KE.GoesZip
import KE.GoesMore
import HandS.Deep
import KE.KOpsOwn
import HandS.TryOnly
import HandS.ExcOwn
import HandS.Style
import KE.RegKIsAll
import PySem.Challenge.RW_indicial_k08_duals_and_dependences
set_option Elab.async false
set_option linter.all false
set_option maxRecDepth 100000
set_option maxHeartbeats 4000000
namespace Ind
open PySem PySem.Spec PyProof.Rows L2
open Builtin.Int (intBits)

/-! ### operators over ints of any size -/
/-- what a body must show for // of any size -/
structure Far (X : Cx) : Prop where
  seer : X.base.NoSeer
  tree : X.prog.given.tree = none
  stk : X.stack = X.env :: X.outer
  gen : X.env.scope.isGenerator = false
  co : X.env.scope.isCoroutine = false
  room : Room 40 X.A
theorem op_fdivB {X : Cx} (f : Far X) : OpR X (binaryOp .FloorDiv) (rI (fun _ j => j ≠ 0) fun i j => .int (i.fdiv j)) := by
  intro pins s σ H x y v u Q I rx ry h
  obtain ⟨i, j, rfl, rfl, hc, q⟩ := h
  obtain ⟨t, rfl⟩ := rx
  obtain ⟨t', rfl⟩ := ry
  refine floordiv_int hc ⟨.int (i.fdiv j), H, I.tok _, ⟨_, rfl⟩, q⟩ (.inr (PylongRoom.of I.nolimit ?_ (SeerAt.of (env := X.env) (l := X.outer) (f.seer.keeps I.bk) f.tree ?_ f.gen f.co I.ok.blt I.ok.glob)))
  · have h1 := f.room.dp
    have h2 : Builtin.pylongFrames = 100 := rfl
    omega
  · rw [I.ok.frames, f.stk]
theorem op_mulB {X : Cx} : OpR X (binaryOp .Mult) (rI (fun i j => intBits i + intBits j ≤ 134217728) fun i j => .int (i * j)) :=
  opI fun i j _ _ _ _ _ hc q => mul_int q (IntMulOk.of_le (Nat.le_refl _) (Nat.le_refl _) hc)

/-- tracked objects stay -/
theorem same_rfl {H : Hp} : Same H H := fun _ _ e => e
end Ind

set_option Elab.async false
set_option linter.all false
set_option maxRecDepth 100000
set_option maxHeartbeats 4000000
namespace Ind
open PySem PySem.Spec PyProof.Rows L2
open Builtin.Int (intBits)
def top (i : Nat) : Stmt := PySem.Challenge.pw_indicial_k08_duals_and_dependences.main.body.getD i (.Pass ⟨0, 0, 0, 0⟩)
abbrev sInit : Stmt := inClass (top 11) 0
/-! ### the divisor with the denominator's sign; lowest terms -/
def cg (n d : Int) : Int := if d < 0 then -((Nat.gcd n.natAbs d.natAbs : Nat) : Int) else ((Nat.gcd n.natAbs d.natAbs : Nat) : Int)
def nN (n d : Int) : Int := n.fdiv (cg n d)
def nD (n d : Int) : Int := d.fdiv (cg n d)
theorem cg_ne {n d : Int} (h : d ≠ 0) : cg n d ≠ 0 := by
  have h1 : 0 < Nat.gcd n.natAbs d.natAbs := Nat.gcd_pos_of_pos_right _ (by omega)
  unfold cg
  split <;> omega
/-! ### a number's fields -/
theorem nd_ : ¬ (("n" : Str) = "d") := by decide +kernel
theorem dn_ : ¬ (("d" : Str) = "n") := by decide +kernel
def rf (a b : Int) : List (Str × V) := putF "d" (.int b) (putF "n" (.int a) [])
theorem rf_eq (a b : Int) : rf a b = ([("n", V.int a), ("d", V.int b)] : List (Str × V)) := by
  show (if ("n" : Str) = "d" then [(("n" : Str), V.int b)] else (("n" : Str), V.int a) :: putF "d" (V.int b) []) = ([("n", V.int a), ("d", V.int b)] : List (Str × V))
  rw [if_neg nd_]
  all_goals rfl
theorem rf_n (a b : Int) : (rf a b).lookup ("n" : Str) = some (.int a) := by
  unfold rf
  rw [lookup_putF, if_neg nd_, lookup_putF, if_pos rfl]
theorem rf_d (a b : Int) : (rf a b).lookup ("d" : Str) = some (.int b) := by
  unfold rf
  rw [lookup_putF, if_pos rfl]
theorem rf_no (a b : Int) {m : Str} (h1 : ¬ m = "d") (h2 : ¬ m = "n") : (rf a b).lookup m = none := by
  unfold rf
  rw [lookup_putF, if_neg h1, lookup_putF, if_neg h2]
  all_goals rfl
def RatAt (C : Addr) (H : Hp) (p : Addr) (a b : Int) : Prop := ∃ dx, H p = some (.ins C dx (rf a b))
theorem RatAt.same {C : Addr} {H H' : Hp} {p : Addr} {a b : Int} (r : RatAt C H p a b) (s : Same H H') : RatAt C H' p a b := let ⟨dx, e⟩ := r; ⟨dx, s _ _ e⟩
/-- what the top says of Ratio and of ZeroDivisor -/
structure TxR (K : PySem.W.Frag) (mg : Str → Option Value) (C Z : Addr) : Prop where
  cl : Cls K C
  nN : NoAttr K C "n"
  nD : NoAttr K C "d"
  mgC : mg "Ratio" = some (.ref C)
  gcd : mg "gcd" = some (.builtin "math.gcd")
  xZ : PySem.W.excIn K Z [.type "ValueError", .type "Exception", .type "BaseException", .type "object"] "ValueError.__new__" = true
  gZ : mg "ZeroDivisor" = some (.ref Z)
  kZ : PySem.W.keepIn K (.ref Z) = true
  bZ : PySem.W.subIn K (.ref Z) (.type "BaseException") = some true
  tZ : PySem.W.typeIn K (.ref Z) = some (.type "type")
def spInit (C Z : Addr) : Sp := fun vs H Q E => ∃ (p dx : Addr) (n d : Int), vs = [.ref p, .int n, .int d] ∧ H p = some (.ins C dx []) ∧ (d = 0 → E (.ref Z) none H) ∧
  (d ≠ 0 → ∀ H' : Hp, RatAt C H' p (nN n d) (nD n d) → (∀ b o, H b = some o → b ≠ p → H' b = some o) → Q .non H')
section
variable {P : Program} {w : World} {K : PySem.W.Frag} {mg : Str → Option Value} {base : Heap} {C Z : Addr}
theorem scI : FnScope ["self", "n", "d", "common"] ["self", "n", "d"] (defScope sInit) := ⟨rfl, rfl, rfl, by decide +kernel, rfl, by decide +kernel, by decide +kernel⟩
theorem ok_init {f : Addr} {fd : FuncData} (hN : base.NoSeer) (hT : P.given.tree = none) (F : FunD K "__init__" "Ratio.__init__" (defArgs sInit) (defBody sInit) (defScope sInit) [.int 1] [] f fd) (T : TxR K mg C Z) :
    FnOk P w K mg base (L2.CX P w) 41 f fd ["self", "n", "d"] (spInit C Z) := by
  refine F.ok (CX := L2.CX P w) (k := 40) scI (fun vs H Q E h => ?_) (fun cdv A outer s H vs Q E hr h => ?_)
  · obtain ⟨p, dx, n, d, rfl, _⟩ := h
    rfl
  · obtain ⟨p, dx, n, d, rfl, hp, kz, k⟩ := h
    have far : Far (cxOf (L2.CX P w) P w K mg base ["self", "n", "d", "common"] "Ratio.__init__" (defScope sInit) f cdv A outer s H E) := ⟨hN, hT, rfl, rfl, rfl, hr⟩
    refine ⟨_, pss_cons (ps_if (pt_cmpR op_eq (pv 2) pe_int (nomark _)) (pss_one (ps_raise rfl (takes_of rfl rfl rfl rfl) (pmk_own PySem.F.excBase_ValueError T.xZ T.gZ T.kZ (raises_own T.bZ T.tZ) rfl))) pss_nil)
      (pss_cons (ps_set (i := 3) scI.nd rfl (Or.inl rfl) (pe_callBfun cr_gcd (by rfl) T.gcd (pa_cons (pv 1) (pa_cons (pv 2) pa_nil))))
      (pss_cons (ps_if (pt_cmpR op_lt (pv 2) pe_int (nomark _)) (pss_one (ps_set (i := 3) scI.nd rfl (Or.inl rfl) (pe_un un_neg (pv 3)))) pss_nil)
      (pss_cons (ps_fld (pv 0) (pe_op (op_fdivB far) (pv 1) (pv 3)) rfl)
      (pss_one (ps_fld (pv 0) (pe_op (op_fdivB far) (pv 2) (pv 3)) rfl))))), ?_⟩
    refine ⟨_, rfl, rfl, _, rfl, ite2 (fun c => ?_) (fun c => ?_)⟩
    · exact kz (by simpa using c)
    · have hd : d ≠ 0 := by simpa using c
      refine ⟨_, rfl, _, rfl, _, _, rfl, ?_⟩
      have put : putF "d" (V.int (d.fdiv (cg n d))) (putF "n" (V.int (n.fdiv (cg n d))) []) = rf (nN n d) (nD n d) := rfl
      have fin : ∀ b o, H b = some o → b ≠ p → (upd (upd H p (.ins C dx (putF "n" (.int (nN n d)) []))) p (.ins C dx (rf (nN n d) (nD n d)))) b = some o := fun b o e hb => by
        rw [upd_ne hb, upd_ne hb]
        exact e
      refine ⟨_, rfl, _, _, rfl, rfl, _, rfl, ite2 (fun c2 => ?_) (fun c2 => ?_)⟩
      · have hneg : d < 0 := by simpa using c2
        have ec : -((Nat.gcd n.natAbs d.natAbs : Nat) : Int) = cg n d := by unfold cg; rw [if_pos hneg]
        refine ⟨_, rfl, _, rfl, _, rfl, _, rfl, _, _, rfl, rfl, by rw [ec]; exact cg_ne hd, _, rfl, p, C, dx, [], rfl, hp, T.cl, T.nN, by decide, ?_⟩
        refine ⟨_, rfl, _, rfl, _, _, rfl, rfl, by rw [ec]; exact cg_ne hd, _, rfl, p, C, dx, _, rfl, upd_same, T.cl, T.nD, (by show 1 < 1000; decide), ?_⟩
        rw [ec]
        exact k hd _ ⟨dx, upd_same⟩ fin
      · have hneg : ¬ d < 0 := by simpa using c2
        have ec : ((Nat.gcd n.natAbs d.natAbs : Nat) : Int) = cg n d := by unfold cg; rw [if_neg hneg]
        refine ⟨_, rfl, _, rfl, _, _, rfl, rfl, by rw [ec]; exact cg_ne hd, _, rfl, p, C, dx, [], rfl, hp, T.cl, T.nN, by decide, ?_⟩
        refine ⟨_, rfl, _, rfl, _, _, rfl, rfl, by rw [ec]; exact cg_ne hd, _, rfl, p, C, dx, _, rfl, upd_same, T.cl, T.nD, (by show 1 < 1000; decide), ?_⟩
        rw [ec]
        exact k hd _ ⟨dx, upd_same⟩ fin
end
end Ind

set_option Elab.async false
set_option linter.all false
set_option maxRecDepth 100000
set_option maxHeartbeats 4000000
namespace Ind
open PySem PySem.Spec PyProof.Rows L2
open Builtin.Int (intBits)
abbrev sCell : Stmt := top 26
abbrev sDraws : Stmt := top 27
abbrev sGcd : Stmt := top 28
abbrev sIsI : Stmt := top 32
abbrev sPair : Stmt := top 33
/-! ### the law's helpers: what each promises -/
def cell (ns : List Int) (k : Nat) : Int := ns.getD k 0
theorem atI_of {α : Type} {xs : List α} {k : Nat} {x : α} (h : xs[k]? = some x) : atI xs ((k : Nat) : Int) = some x := by
  have hk : k < xs.length := (List.getElem?_eq_some_iff.mp h).1
  have h1 : ixN xs.length ((k : Nat) : Int) = some k := by
    unfold ixN
    rw [if_pos (by omega), if_pos (by omega)]
    all_goals rfl
  unfold atI
  rw [h1]
  exact h
def spCellI (K : PySem.W.Frag) : Sp := fun vs H Q _ => ∃ (a : Addr) (ns : List Int) (k : Nat), vs = [.ref a, .int k] ∧ SqL K H a (ns.map V.int) ∧ Q (.int (cell ns k)) H
/-- draws in their range -/
def InR (ds : List Int) (n : Nat) (b : Int) : Prop := ds.length = n ∧ ∀ d ∈ ds, 0 ≤ d ∧ d < b
def spDraws (K : PySem.W.Frag) : Sp := fun vs H Q _ => ∃ (a : Addr) (ns : List Int) (k n : Nat) (b : Int), vs = [.ref a, .int k, .int n, .int b] ∧ SqL K H a (ns.map V.int) ∧ k ≤ 1000 ∧ n ≤ 1000 ∧ 0 < b ∧ b < 1000000 ∧
  ∀ (ds : List Int) (H' : Hp) (p : Addr), InR ds n b → Same H H' → H p = none → H' p = some (.lst (ds.map V.int)) → Q (.ref p) H'
def spGcdI : Sp := fun vs H Q _ => ∃ a b : Int, vs = [.int a, .int b] ∧ Q (.int ((Nat.gcd a.natAbs b.natAbs : Nat) : Int)) H
def spIsI : Sp := fun vs H Q _ => ∃ a : Int, vs = [.int a] ∧ Q (.bl true) H
def spPair (C : Addr) : Sp := fun vs H Q _ => ∃ (p : Addr) (a b : Int), vs = [.ref p] ∧ RatAt C H p a b ∧ 0 < b ∧ Nat.gcd a.natAbs b.natAbs = 1 ∧
  ∀ (H' : Hp) (t : Addr), Same H H' → H t = none → H' t = some (.tup [.int a, .int b]) → Q (.ref t) H'
/-- what the top says of built-ins that the helpers name -/
structure TxL (K : PySem.W.Frag) (mg : Str → Option Value) : Prop where
  len : mg "len" = none
  range : mg "range" = none
  int : mg "int" = none
  abs : mg "abs" = none
  isinstance : mg "isinstance" = none
  bool : mg "bool" = none
theorem same_upd {H : Hp} {p : Addr} {o : HO} (h : H p = none) : Same H (upd H p o) := fun b u e => by
  rw [upd_ne (ne_of_none e h)]
  exact e
section
variable {P : Program} {w : World} {K : PySem.W.Frag} {mg : Str → Option Value} {base : Heap} {C Z : Addr}
theorem scCell : FnScope ["script", "k"] ["script", "k"] (defScope sCell) := ⟨rfl, rfl, rfl, by decide +kernel, rfl, by decide +kernel, by decide +kernel⟩
theorem ok_cell {f : Addr} {fd : FuncData} (F : Fun K "_law_cell" "_law_cell" sCell f fd) (T : TxL K mg) : FnOk P w K mg base CX0 1 f fd ["script", "k"] (spCellI K) := by
  refine F.ok scCell (fun vs H Q E h => ?_) (fun cdv A outer s H vs Q E hr h => ?_)
  · obtain ⟨a, ns, k, rfl, _⟩ := h
    rfl
  · obtain ⟨a, ns, k, rfl, hS, q⟩ := h
    refine ⟨_, pss_cons (ps_if (pt_cmpR op_lt (pv 1) (pe_callB call_len_seq (by rfl) T.len PySem.boot_len (pa_cons (pv 0) pa_nil)) (nomark _)) (pss_one (ps_ret (pe_ix ix_list (pv 0) (pv 1) fun _ _ => rfl))) pss_nil)
      (pss_one (ps_ret pe_int)), ?_⟩
    refine ⟨_, rfl, _, rfl, a, _, rfl, .inl hS, _, _, rfl, rfl, _, rfl, ite2 (fun c => ?_) (fun c => ?_)⟩
    · have hk : k < ns.length := by simpa using c
      refine ⟨_, rfl, _, rfl, a, _, _, _, rfl, rfl, hS, atI_of (x := V.int (cell ns k)) ?_, q⟩
      rw [List.getElem?_map, List.getElem?_eq_getElem hk]
      simp [cell, hk]
    · have hk : ¬ k < ns.length := by simpa using c
      have e : cell ns k = 0 := by
        unfold cell
        rw [List.getD_eq_getElem?_getD, List.getElem?_eq_none (by omega)]
        rfl
      show Q (.int 0) H
      rw [← e]
      exact q
theorem scGcd : FnScope ["a", "b", "one", "two", "rest"] ["a", "b"] (defScope sGcd) := ⟨rfl, rfl, rfl, by decide +kernel, rfl, by decide +kernel, by decide +kernel⟩
theorem abs_nat (i : Int) : (if i < 0 then -i else i) = ((i.natAbs : Nat) : Int) := by split <;> omega
theorem ok_gcd {f : Addr} {fd : FuncData} (F : Fun K "_law_gcd" "_law_gcd" sGcd f fd) (T : TxL K mg) : FnOk P w K mg base CX0 1 f fd ["a", "b"] spGcdI := by
  refine F.ok scGcd (fun vs H Q E h => ?_) (fun cdv A outer s H vs Q E hr h => ?_)
  · obtain ⟨a, b, rfl, _⟩ := h
    rfl
  · obtain ⟨a, b, rfl, q⟩ := h
    refine ⟨_, pss_cons (ps_set (i := 2) scGcd.nd rfl (Or.inl rfl) (pe_callB call_abs (by rfl) T.abs (by decide +kernel) (pa_cons (pv 0) pa_nil)))
      (pss_cons (ps_set (i := 3) scGcd.nd rfl (Or.inl rfl) (pe_callB call_abs (by rfl) T.abs (by decide +kernel) (pa_cons (pv 1) pa_nil)))
      (pss_cons (ps_while PassesOwn.never (pt_cmpR op_ne (pv 3) pe_int (nomark _))
        (pss_cons (ps_set (i := 4) scGcd.nd rfl (Or.inl rfl) (pe_op op_modN (pe_callTy call_int1 (by rfl) T.int (by decide +kernel) (pa_cons (pv 2) pa_nil)) (pv 3)))
        (pss_cons (ps_set (i := 2) scGcd.nd rfl (Or.inl rfl) (pv 3)) (pss_one (ps_set (i := 3) scGcd.nd rfl (Or.inl rfl) (pv 4))))))
      (pss_one (ps_ret (pv 2))))), ?_⟩
    refine ⟨_, rfl, _, rfl, _, rfl, _, rfl, ?_⟩
    rw [abs_nat, abs_nat]
    refine while_by (fun σ H' => H' = H ∧ ∃ (x y : Nat) (v : Option V), σ = [some (.int a), some (.int b), some (.int (x : Int)), some (.int (y : Int)), v] ∧ Nat.gcd x y = Nat.gcd a.natAbs b.natAbs)
      (fun σ _ => match σ[3]? with | some (some (V.int y)) => y.natAbs | _ => 0) ⟨rfl, _, _, none, rfl, rfl⟩ ?_ ?_
    · rintro σ H' ⟨rfl, x, y, v, rfl, hg⟩
      refine ⟨_, rfl, rfl, _, rfl, ite2 (fun c => ?_) (fun c => ?_)⟩
      · have hy : y ≠ 0 := by
          intro z
          subst z
          simp at c
        have em : ((x : Int)).fmod (y : Int) = ((x % y : Nat) : Int) := by
          rw [Int.fmod_eq_emod_of_nonneg _ (by omega)]
          rfl
        refine ⟨_, rfl, .inl ⟨_, rfl, _, rfl, _, _, rfl, rfl, (by show ((y : Nat) : Int) ≠ 0; omega), ?_⟩⟩
        refine ⟨_, rfl, _, rfl, ⟨rfl, y, x % y, some (.int (((x % y : Nat) : Int))), ?_, ?_⟩, ?_⟩
        · rw [← em]
          rfl
        · rw [← hg, Nat.gcd_comm x y, Nat.gcd_rec y x, Nat.gcd_comm]
        · show (((x : Int)).fmod (y : Int)).natAbs < ((y : Nat) : Int).natAbs
          rw [em]
          have := Nat.mod_lt x (Nat.pos_of_ne_zero hy)
          omega
      · have hy : y = 0 := by
          have z : ¬ ¬ (V.int (y : Int) = V.int 0) := by simpa using c
          have z2 : V.int (y : Int) = V.int 0 := Classical.not_not.mp z
          injection z2 with z3
          omega
        subst hy
        rw [Nat.gcd_zero_right] at hg
        refine ⟨_, rfl, ?_⟩
        rw [hg]
        exact q
    · rintro σ H' R R' hR ⟨v, e1, e2, b1, e3, h3⟩
      exact ⟨v, e1, e2, b1, e3, hR _ _ h3⟩
end
end Ind

set_option Elab.async false
set_option linter.all false
set_option maxRecDepth 100000
set_option maxHeartbeats 4000000
namespace Ind
open PySem PySem.Spec PyProof.Rows L2
open Builtin.Int (intBits)
/-- what isinstance asks of Ratio as the value's class -/
structure TxI (K : PySem.W.Frag) (C : Addr) : Prop where
  ha : PySem.W.findIn K (.ref C) "__class__" = some (some (.builtin "object.__class__"))
  hn : PySem.W.specialIn K (.builtin "object.__class__") "__get__" = some (some (.builtin "getset_descriptor.__get__"))
  ht : PySem.W.takesIn K (.builtin "object.__class__") = some true
  hm : PySem.W.mroIn K C (.type "object") = some true
  kC : PySem.W.kitOne K (.ref C) (.ref C) = some true
section
variable {P : Program} {w : World} {K : PySem.W.Frag} {mg : Str → Option Value} {base : Heap} {C Z : Addr}
theorem scIsI : FnScope ["value"] ["value"] (defScope sIsI) := ⟨rfl, rfl, rfl, by decide +kernel, rfl, by decide +kernel, by decide +kernel⟩
theorem ok_isI {f : Addr} {fd : FuncData} (F : Fun K "_law_is_integer" "_law_is_integer" sIsI f fd) (T : TxL K mg) : FnOk P w K mg base CX0 1 f fd ["value"] spIsI := by
  refine F.ok scIsI (fun vs H Q E h => ?_) (fun cdv A outer s H vs Q E hr h => ?_)
  · obtain ⟨a, rfl, _⟩ := h
    rfl
  · obtain ⟨a, rfl, q⟩ := h
    refine ⟨_, pss_one (ps_ret (pe_and (pe_callB call_isi (by rfl) T.isinstance (by decide +kernel) (pa_cons (pv 0) (pa_cons (pe_bltn (v := .ty "int") (by rfl) T.int (by decide +kernel) rfl) pa_nil)))
      (pe_one (pe_not (pe_callB call_isi (by rfl) T.isinstance (by decide +kernel) (pa_cons (pv 0) (pa_cons (pe_bltn (v := .ty "bool") (by rfl) T.bool (by decide +kernel) rfl) pa_nil))))))), ?_⟩
    refine ⟨_, rfl, _, _, _, _, true, rfl, ClsV.ty "int", .base (.int a), kit_ty (by decide +kernel), true, rfl, ?_⟩
    refine iteT ⟨_, rfl, _, _, _, _, false, rfl, ClsV.ty "bool", .base (.int a), kit_ty (by decide +kernel), false, rfl, q⟩
theorem scPair : FnScope ["value"] ["value"] (defScope sPair) := ⟨rfl, rfl, rfl, by decide +kernel, rfl, by decide +kernel, by decide +kernel⟩
theorem ok_pair {f fI fG : Addr} {fd fdI fdG : FuncData} (F : Fun K "_law_pair" "_law_pair" sPair f fd) (T : TxL K mg) (R : TxR K mg C Z) (I : TxI K C)
    (FI : Fun K "_law_is_integer" "_law_is_integer" sIsI fI fdI) (bI : Binds K fdI ["value"] []) (gI : mg "_law_is_integer" = some (.ref fI))
    (FG : Fun K "_law_gcd" "_law_gcd" sGcd fG fdG) (bG : Binds K fdG ["a", "b"] []) (gG : mg "_law_gcd" = some (.ref fG)) : FnOk P w K mg base CX0 2 f fd ["value"] (spPair C) := by
  have GI : FnOk P w K mg base CX0 1 fI fdI ["value"] spIsI := ok_isI FI T
  have GG : FnOk P w K mg base CX0 1 fG fdG ["a", "b"] spGcdI := ok_gcd FG T
  refine F.ok scPair (fun vs H Q E h => ?_) (fun cdv A outer s H vs Q E hr h => ?_)
  · obtain ⟨p, a, b, rfl, _⟩ := h
    rfl
  · obtain ⟨p, a, b, rfl, ⟨dx, hp⟩, hb, hg, k⟩ := h
    refine ⟨_, pss_cons (ps_if (PW.pt (pw_or (pt_not (pt_val (pe_callB call_isi (by rfl) T.isinstance (by decide +kernel) (pa_cons (pv 0) (pa_cons (pe_glob (v := .ref C) rfl R.mgC rfl) pa_nil)))))
        (pw_or (pt_not (pt_val (pe_call GI hr (by rfl) gI FI.kp bI .nil pass0 (pa_cons (pe_fld (pv 0) rfl) pa_nil))))
        (pw_or1 (pt_not (pt_val (pe_call GI hr (by rfl) gI FI.kp bI .nil pass0 (pa_cons (pe_fld (pv 0) rfl) pa_nil)))))))) (pss_one (ps_ret pe_non)) pss_nil)
      (pss_cons (ps_if (PW.pt (pw_or (pt_cmpR op_lt (pe_fld (pv 0) rfl) pe_int (nomark _)) (pw_or1 (pt_cmpR op_ne (pe_call GG hr (by rfl) gG FG.kp bG .nil pass0 (pa_cons (pe_fld (pv 0) rfl) (pa_cons (pe_fld (pv 0) rfl) pa_nil))) pe_int (nomark _)))))
        (pss_one (ps_ret pe_non)) pss_nil)
      (pss_one (ps_ret (pe_tup (pa_cons (pe_fld (pv 0) rfl) (pa_cons (pe_fld (pv 0) rfl) pa_nil)))))), ?_⟩
    have hne : ¬ b < 1 := by omega
    refine ⟨_, rfl, _, _, _, _, true, rfl, ClsV.own C, .base (.ins hp R.cl I.ha I.hn I.ht I.hm), I.kC, true, rfl, ?_⟩
    refine iteF ⟨_, rfl, p, C, dx, _, _, rfl, hp, R.cl, R.nN, rf_n _ _, a, rfl, true, rfl, ?_⟩
    refine iteF ⟨_, rfl, p, C, dx, _, _, rfl, hp, R.cl, R.nD, rf_d _ _, b, rfl, true, rfl, iteF ?_⟩
    refine ⟨_, rfl, p, C, dx, _, _, rfl, hp, R.cl, R.nD, rf_d _ _, _, _, rfl, rfl, _, rfl, ite2 (fun c => absurd (of_decide_eq_true c) hne) (fun c => ?_)⟩
    refine ⟨_, rfl, p, C, dx, _, _, rfl, hp, R.cl, R.nN, rf_n _ _, _, rfl, p, C, dx, _, _, rfl, hp, R.cl, R.nD, rf_d _ _, a, b, rfl, rfl, _, rfl, ?_⟩
    rw [hg]
    refine iteF ⟨_, rfl, p, C, dx, _, _, rfl, hp, R.cl, R.nN, rf_n _ _, _, rfl, p, C, dx, _, _, rfl, hp, R.cl, R.nD, rf_d _ _, (by show 2 ≤ sizeLine; decide), fun t ht => ?_⟩
    exact k _ t (same_upd ht) ht upd_same
end
end Ind

set_option Elab.async false
set_option linter.all false
set_option maxRecDepth 100000
set_option maxHeartbeats 4000000
namespace Ind
open PySem PySem.Spec PyProof.Rows L2
open Builtin.Int (intBits)
structure DrSt (H H' : Hp) (l : Addr) (ds : List Int) (i : Nat) (b : Int) : Prop where
  s : Same H H'
  n : H l = none
  at_ : H' l = some (.lst (ds.map V.int))
  r : InR ds i b
theorem DrSt.push {H H' : Hp} {l : Addr} {ds : List Int} {i : Nat} {b z : Int} (x : DrSt H H' l ds i b) (h0 : 0 ≤ z) (h1 : z < b) : DrSt H (upd H' l (.lst (ds.map V.int ++ [.int z]))) l (ds ++ [z]) (i + 1) b where
  s := fun c o e => by
    have hc : c ≠ l := ne_of_none e x.n
    rw [upd_ne hc]
    exact x.s c o e
  n := x.n
  at_ := by
    rw [upd_same, List.map_append]
    rfl
  r := by
    refine ⟨by rw [List.length_append, x.r.1]; rfl, fun d hd => ?_⟩
    rcases List.mem_append.mp hd with h | h
    · exact x.r.2 d h
    · have e : d = z := by simpa using h
      subst e
      exact ⟨h0, h1⟩
theorem fmod_in {x b : Int} (h : 0 < b) : 0 ≤ x.fmod b ∧ x.fmod b < b := ⟨Int.fmod_nonneg_of_pos x h, Int.fmod_lt_of_pos x h⟩
section
variable {P : Program} {w : World} {K : PySem.W.Frag} {mg : Str → Option Value} {base : Heap} {C Z : Addr}
theorem scDr : FnScope ["script", "at", "count", "bound", "cell", "out", "k", "number", "mixed"] ["script", "at", "count", "bound"] (defScope sDraws) := ⟨rfl, rfl, rfl, by decide +kernel, rfl, by decide +kernel, by decide +kernel⟩
theorem ok_draws {f fC : Addr} {fd fdC : FuncData} (F : Fun K "_law_draws" "_law_draws" sDraws f fd) (T : TxL K mg) (FC : Fun K "_law_cell" "_law_cell" sCell fC fdC) (bC : Binds K fdC ["script", "k"] []) (gC : mg "_law_cell" = some (.ref fC)) :
    FnOk P w K mg base CX0 2 f fd ["script", "at", "count", "bound"] (spDraws K) := by
  have GC : FnOk P w K mg base CX0 1 fC fdC ["script", "k"] (spCellI K) := ok_cell FC T
  refine F.ok scDr (fun vs H Q E h => ?_) (fun cdv A outer s H vs Q E hr h => ?_)
  · obtain ⟨a, ns, k, n, b, rfl, _⟩ := h
    rfl
  · obtain ⟨a, ns, k, n, b, rfl, hS, hk, hn, hb, hb2, q⟩ := h
    refine ⟨_, pss_cons (ps_set (i := 4) scDr.nd rfl (Or.inl rfl) (pe_call GC hr (by rfl) gC FC.kp bC .nil pass0 (pa_cons (pv 0) (pa_cons (pv 1) pa_nil))))
      (pss_cons (ps_set (i := 5) scDr.nd rfl (Or.inl rfl) (pe_lst pa_nil))
      (pss_cons (ps_if (pt_cmpR op_ge (pv 4) (pe_op op_pow pe_int pe_int) (nomark _))
        (pss_cons (ps_for PassesOwn.never rfl (pi_range1 (by rfl) T.range (pa_cons (pv 2) pa_nil)) (pg_name (i := 6) scDr.nd rfl (Or.inl rfl))
          (pss_cons (ps_expr (pe_bm PySem.F.plainAttrs_list PySem.F.slot_list_append PySem.F.type_list_append mt_append (pv 5) (pa_cons (pe_op op_modN (pe_callTy call_int1 (by rfl) T.int (by decide +kernel) (pa_cons (pv 4) pa_nil)) (pv 3)) pa_nil)))
          (pss_one (ps_set (i := 4) scDr.nd rfl (Or.inl rfl) (pe_op op_fdivN (pe_callTy call_int1 (by rfl) T.int (by decide +kernel) (pa_cons (pv 4) pa_nil)) (pv 3))))))
        (pss_one (ps_ret (pv 5)))) pss_nil)
      (pss_cons (ps_set (i := 7) scDr.nd rfl (Or.inl rfl) (pe_op op_add (pe_op op_add (pe_op op_modN (pe_callTy call_int1 (by rfl) T.int (by decide +kernel) (pa_cons (pv 4) pa_nil)) pe_int) (pe_op op_mul pe_int (pv 1))) pe_int))
      (pss_cons (ps_for PassesOwn.never rfl (pi_range1 (by rfl) T.range (pa_cons (pv 2) pa_nil)) (pg_name (i := 6) scDr.nd rfl (Or.inl rfl))
          (pss_cons (ps_set (i := 7) scDr.nd rfl (Or.inl rfl) (pe_op op_modN (pe_callTy call_int1 (by rfl) T.int (by decide +kernel) (pa_cons (pe_op op_add (pe_op op_add (pe_op op_mul (pv 7) pe_int) (pe_op op_mul pe_int (pv 6))) (pv 1)) pa_nil)) pe_int))
          (pss_cons (ps_set (i := 8) scDr.nd rfl (Or.inl rfl) (pe_op op_modN (pe_callTy call_int1 (by rfl) T.int (by decide +kernel) (pa_cons (pe_op op_add (pe_op op_add (pe_op op_mul (pv 7) pe_int) (pe_op op_mul pe_int (pv 6))) pe_int) pa_nil)) pe_int))
          (pss_one (ps_expr (pe_bm PySem.F.plainAttrs_list PySem.F.slot_list_append PySem.F.type_list_append mt_append (pv 5) (pa_cons (pe_op op_modN (pe_callTy call_int1 (by rfl) T.int (by decide +kernel) (pa_cons (pv 8) pa_nil)) (pv 3)) pa_nil)))))))
      (pss_one (ps_ret (pv 5))))))), ?_⟩
    refine ⟨_, rfl, _, rfl, a, ns, k, rfl, hS, Nat.zero_le _, fun l hl => ?_⟩
    have d0 : DrSt H (upd H l (.lst [])) l [] 0 b := ⟨same_upd hl, hl, upd_same, rfl, fun d hd => nomatch hd⟩
    have hlen : ∀ {ds : List Int} {i : Nat}, InR ds i b → i < n → (ds.map V.int).length < sizeLine := fun {ds i} r hi => by
      rw [List.length_map, r.1]
      exact Nat.lt_of_lt_of_le (Nat.lt_of_lt_of_le hi hn) (by decide)
    have bnd : b ≠ 0 ∧ b.natAbs < 1073741824 := ⟨by omega, by omega⟩
    refine ⟨_, rfl, _, _, rfl, rfl, ⟨by decide, by decide, by decide⟩, _, _, rfl, rfl, _, rfl, ite2 (fun _ => ?_) (fun _ => ?_)⟩
    · refine ⟨_, rfl, (n : Int), rfl, by omega, by omega, for_range (lo := 0) (n := n) (fun i σ H' => ∃ (c : Int) (ds : List Int) (kv : Option V), σ = [some (.ref a), some (.int k), some (.int n), some (.int b), some (.int c), some (.ref l), kv, none, none] ∧ DrSt H H' l ds i b)
        ⟨_, [], none, rfl, d0⟩ ?_ ?_⟩
      · rintro i σ H' hi ⟨c, ds, kv, rfl, D⟩
        have hm := fmod_in (x := c) hb
        refine ⟨_, rfl, .inl ⟨rfl, _, SqL.of D.at_⟩, _, rfl, .inl ⟨_, rfl, _, rfl, _, _, rfl, rfl, bnd.1, l, _, _, rfl, rfl, D.at_, hlen D.r hi, ?_⟩⟩
        refine ⟨_, rfl, .inl ⟨_, rfl, _, rfl, _, _, rfl, rfl, bnd, ?_⟩⟩
        exact ⟨_, _, _, rfl, D.push hm.1 hm.2⟩
      · rintro σ H' ⟨c, ds, kv, rfl, D⟩
        exact ⟨_, rfl, q ds H' l D.r D.s D.n D.at_⟩
    · have r31 : ∀ x : Int, 0 ≤ x.fmod 2147483647 ∧ x.fmod 2147483647 < 2147483647 := fun x => fmod_in (by decide)
      have hz := r31 (cell ns k)
      refine ⟨_, rfl, .inl ⟨_, rfl, _, _, rfl, rfl, (by show (2147483647 : Int) ≠ 0; decide), _, rfl, _, _, rfl, rfl, .inl ⟨by decide, by decide⟩, _, _, rfl, rfl, _, _, rfl, rfl, ?_⟩⟩
      refine ⟨_, rfl, (n : Int), rfl, by omega, by omega, for_range (lo := 0) (n := n) (fun i σ H' => ∃ (z : Int) (ds : List Int) (kv mv : Option V), σ = [some (.ref a), some (.int k), some (.int n), some (.int b), some (.int (cell ns k)), some (.ref l), kv, some (.int z), mv] ∧ (0 ≤ z ∧ z < 2 ^ 40) ∧ DrSt H H' l ds i b)
        ⟨_, [], none, none, rfl, ⟨by omega, by omega⟩, d0⟩ ?_ ?_⟩
      · rintro i σ H' hi ⟨z, ds, kv, mv, rfl, hz, D⟩
        have hm : ∀ x : Int, _ := fun x => fmod_in (x := x) hb
        refine ⟨_, rfl, _, _, rfl, rfl, .inr ⟨by decide, by decide⟩, _, rfl, _, _, rfl, rfl, .inl ⟨by decide, by decide⟩, _, _, rfl, rfl, _, rfl, _, _, rfl, rfl, .inl ⟨_, rfl, _, _, rfl, rfl, (by show (2147483647 : Int) ≠ 0; decide), ?_⟩⟩
        refine ⟨_, rfl, _, _, rfl, rfl, .inr ⟨by decide, by decide⟩, _, rfl, _, _, rfl, rfl, .inl ⟨by decide, by decide⟩, _, _, rfl, rfl, _, _, rfl, rfl, .inl ⟨_, rfl, _, _, rfl, rfl, (by show (2147483629 : Int) ≠ 0; decide), ?_⟩⟩
        refine ⟨_, rfl, .inl ⟨rfl, _, SqL.of D.at_⟩, _, rfl, .inl ⟨_, rfl, _, rfl, _, _, rfl, rfl, bnd.1, l, _, _, rfl, rfl, D.at_, hlen D.r hi, ?_⟩⟩
        have hw := r31 (z * 48271 + 11 * (0 + (i : Int)) + (k : Int))
        exact ⟨_, _, _, _, rfl, ⟨hw.1, by omega⟩, D.push (hm _).1 (hm _).2⟩
      · rintro σ H' ⟨z, ds, kv, mv, rfl, hz, D⟩
        exact ⟨_, rfl, q ds H' l D.r D.s D.n D.at_⟩
end
end Ind

set_option Elab.async false
namespace Ind
open PySem.Builtin.Int (intBits)
theorem cg_natAbs (n d : Int) : (cg n d).natAbs = Nat.gcd n.natAbs d.natAbs := by
  unfold cg
  split <;> omega
theorem fdiv_of_mul {a b q : Int} (hb : b ≠ 0) (h : a = q * b) : a.fdiv b = q := by
  rw [h]
  exact Int.mul_fdiv_cancel _ hb
theorem cg_dvd_n (n d : Int) : cg n d ∣ n := by
  have h : (cg n d).natAbs ∣ n.natAbs := by rw [cg_natAbs]; exact Nat.gcd_dvd_left _ _
  exact Int.natAbs_dvd_natAbs.mp h
theorem cg_dvd_d (n d : Int) : cg n d ∣ d := by
  have h : (cg n d).natAbs ∣ d.natAbs := by rw [cg_natAbs]; exact Nat.gcd_dvd_right _ _
  exact Int.natAbs_dvd_natAbs.mp h
theorem nN_mul {n d : Int} (h : d ≠ 0) : n = nN n d * cg n d := by
  obtain ⟨q, e⟩ := cg_dvd_n n d
  have e2 : nN n d = q := fdiv_of_mul (cg_ne h) (e.trans (Int.mul_comm _ _))
  rw [e2, Int.mul_comm]
  exact e
theorem nD_mul {n d : Int} (h : d ≠ 0) : d = nD n d * cg n d := by
  obtain ⟨q, e⟩ := cg_dvd_d n d
  have e2 : nD n d = q := fdiv_of_mul (cg_ne h) (e.trans (Int.mul_comm _ _))
  rw [e2, Int.mul_comm]
  exact e
theorem nD_pos {n d : Int} (h : d ≠ 0) : 0 < nD n d := by
  have e := nD_mul (n := n) h
  have g := cg_natAbs n d
  have gp : 0 < Nat.gcd n.natAbs d.natAbs := Nat.gcd_pos_of_pos_right _ (by omega)
  by_cases hd : d < 0
  · have hc : cg n d < 0 := by
      unfold cg
      rw [if_pos hd]
      omega
    by_cases hq : 0 < nD n d
    · exact hq
    · have : 0 ≤ nD n d * cg n d := Int.mul_nonneg_of_nonpos_of_nonpos (by omega) (by omega)
      omega
  · have hc : 0 < cg n d := by
      unfold cg
      rw [if_neg hd]
      omega
    by_cases hq : 0 < nD n d
    · exact hq
    · have : nD n d * cg n d ≤ 0 := Int.mul_nonpos_of_nonpos_of_nonneg (by omega) (by omega)
      omega
theorem n_gcd {n d : Int} (h : d ≠ 0) : Nat.gcd (nN n d).natAbs (nD n d).natAbs = 1 := by
  have e1 : n.natAbs = (nN n d).natAbs * (cg n d).natAbs := by
    rw [← Int.natAbs_mul, ← nN_mul h]
  have e2 : d.natAbs = (nD n d).natAbs * (cg n d).natAbs := by
    rw [← Int.natAbs_mul, ← nD_mul h]
  have g := cg_natAbs n d
  have hg : 0 < (cg n d).natAbs := by
    have := cg_ne (n := n) h
    omega
  have e3 : Nat.gcd n.natAbs d.natAbs = Nat.gcd (nN n d).natAbs (nD n d).natAbs * (cg n d).natAbs := by
    conv => lhs; rw [e1, e2]
    rw [Nat.gcd_mul_right]
  rw [← g] at e3
  have e4 : 1 * (cg n d).natAbs = Nat.gcd (nN n d).natAbs (nD n d).natAbs * (cg n d).natAbs := by rw [Nat.one_mul]; exact e3
  exact (Nat.eq_of_mul_eq_mul_right hg e4).symm
theorem n_cross {n d : Int} (h : d ≠ 0) : nN n d * d = n * nD n d := by
  have e1 := nN_mul (n := n) h
  have e2 := nD_mul (n := n) h
  calc nN n d * d = nN n d * (nD n d * cg n d) := by rw [← e2]
    _ = (nN n d * cg n d) * nD n d := by rw [Int.mul_comm (nD n d), Int.mul_assoc]
    _ = n * nD n d := by rw [← e1]
/-- two fractions in lowest terms of one value are one -/
theorem low_uniq {p q r s : Int} (hq : 0 < q) (hs : 0 < s) (g1 : Nat.gcd p.natAbs q.natAbs = 1) (g2 : Nat.gcd r.natAbs s.natAbs = 1) (e : p * s = r * q) : p = r ∧ q = s := by
  have en : p.natAbs * s.natAbs = r.natAbs * q.natAbs := by rw [← Int.natAbs_mul, ← Int.natAbs_mul, e]
  have d1 : q.natAbs ∣ s.natAbs := Nat.Coprime.dvd_of_dvd_mul_left (Nat.Coprime.symm g1) ⟨r.natAbs, by rw [en, Nat.mul_comm]⟩
  have d2 : s.natAbs ∣ q.natAbs := Nat.Coprime.dvd_of_dvd_mul_left (Nat.Coprime.symm g2) ⟨p.natAbs, by rw [← en, Nat.mul_comm]⟩
  have e1 : q.natAbs = s.natAbs := Nat.dvd_antisymm d1 d2
  have e2 : q = s := by omega
  subst e2
  exact ⟨Int.eq_of_mul_eq_mul_right (by omega) e, rfl⟩
theorem n_uniq {a b c d : Int} (hb : b ≠ 0) (hd : d ≠ 0) (e : a * d = c * b) : nN a b = nN c d ∧ nD a b = nD c d := by
  refine low_uniq (nD_pos hb) (nD_pos hd) (n_gcd hb) (n_gcd hd) ?_
  have e1 := n_cross (n := a) hb
  have e2 := n_cross (n := c) hd
  have z : (nN a b * nD c d) * (b * d) = (nN c d * nD a b) * (b * d) := by
    calc (nN a b * nD c d) * (b * d) = (nN a b * b) * (nD c d * d) := by ac_rfl
      _ = (a * nD a b) * (nD c d * d) := by rw [e1]
      _ = (a * d) * (nD a b * nD c d) := by ac_rfl
      _ = (c * b) * (nD a b * nD c d) := by rw [e]
      _ = (c * nD c d) * (nD a b * b) := by ac_rfl
      _ = (nN c d * d) * (nD a b * b) := by rw [e2]
      _ = (nN c d * nD a b) * (b * d) := by ac_rfl
  exact Int.eq_of_mul_eq_mul_right (Int.mul_ne_zero hb hd) z
theorem n_same {a b c d : Int} (hb : b ≠ 0) (hd : d ≠ 0) (h1 : nN a b = nN c d) (h2 : nD a b = nD c d) : a * d = c * b := by
  have e1 := n_cross (n := a) hb
  have e2 := n_cross (n := c) hd
  have hp := nD_pos (n := a) hb
  have z : (a * d) * nD a b = (c * b) * nD a b := by
    calc (a * d) * nD a b = (a * nD a b) * d := by ac_rfl
      _ = (nN a b * b) * d := by rw [e1]
      _ = (nN c d * d) * b := by rw [h1]; ac_rfl
      _ = (c * nD c d) * b := by rw [e2]
      _ = (c * b) * nD a b := by rw [h2]; ac_rfl
  exact Int.eq_of_mul_eq_mul_right (by omega) z
theorem n_one (n : Int) : nN n 1 = n ∧ nD n 1 = 1 := by
  have e : cg n 1 = 1 := by
    unfold cg
    rw [if_neg (by decide)]
    simp
  unfold nN nD
  rw [e]
  simp
theorem bits_nN {n d : Int} {m : Nat} (h : intBits n ≤ m) : intBits (nN n d) ≤ m := PySem.intBits_fdiv_le h
theorem bits_nD {n d : Int} {m : Nat} (h : intBits d ≤ m) : intBits (nD n d) ≤ m := PySem.intBits_fdiv_le h
end Ind

set_option Elab.async false
namespace Ind
/-! ### rows over fractions: sums, annihilators, spans -/
abbrev Fr := Nat → Rat
def sumTo : Nat → Fr → Rat
  | 0, _ => 0
  | n + 1, f => sumTo n f + f n
theorem sumTo_congr : ∀ {n : Nat} {f g : Fr}, (∀ j, j < n → f j = g j) → sumTo n f = sumTo n g
  | 0, _, _, _ => rfl
  | n + 1, f, g, h => by
    unfold sumTo
    rw [sumTo_congr fun j hj => h j (Nat.lt_succ_of_lt hj), h n (Nat.lt_succ_self n)]
theorem sumTo_zero : ∀ n : Nat, sumTo n (fun _ => 0) = 0
  | 0 => rfl
  | n + 1 => by
    unfold sumTo
    rw [sumTo_zero n]
    grind
theorem sumTo_lin (a b : Rat) : ∀ (n : Nat) (f g : Fr), sumTo n (fun j => a * f j + b * g j) = a * sumTo n f + b * sumTo n g
  | 0, _, _ => by unfold sumTo; grind
  | n + 1, f, g => by
    unfold sumTo
    rw [sumTo_lin a b n f g]
    grind
theorem sumTo_one (r : Fr) (c : Rat) {p : Nat} : ∀ {n : Nat}, p < n → sumTo n (fun i => r i * (if i = p then c else 0)) = r p * c
  | n + 1, h => by
    unfold sumTo
    by_cases e : p = n
    · subst e
      have z : sumTo p (fun i => r i * (if i = p then c else 0)) = 0 := by
        rw [sumTo_congr (g := fun _ => 0) fun j hj => by rw [if_neg (by omega)]; grind]
        exact sumTo_zero p
      rw [z]
      show 0 + r p * (if p = p then c else 0) = r p * c
      rw [if_pos rfl]
      grind
    · rw [sumTo_one r c (by omega)]
      show r p * c + r n * (if n = p then c else 0) = r p * c
      rw [if_neg (by omega)]
      grind
/-- the sum of a row's items times a vector's -/
def dt (w : Nat) (r z : Fr) : Rat := sumTo w fun j => r j * z j
theorem dt_lin (w : Nat) (a b : Rat) (r t z : Fr) : dt w (fun j => a * r j + b * t j) z = a * dt w r z + b * dt w t z := by
  unfold dt
  rw [← sumTo_lin]
  exact sumTo_congr fun j _ => by grind
theorem dt_congr {w : Nat} {r t z : Fr} (h : ∀ j, j < w → r j = t j) : dt w r z = dt w t z := sumTo_congr fun j hj => by rw [h j hj]
theorem dt_lin2 (w : Nat) (a b : Rat) (r z y : Fr) : dt w r (fun j => a * z j + b * y j) = a * dt w r z + b * dt w r y := by
  unfold dt
  rw [← sumTo_lin]
  exact sumTo_congr fun j _ => by grind
theorem dt_one (r : Fr) (c : Rat) {w p : Nat} (h : p < w) : dt w r (fun i => if i = p then c else 0) = r p * c := sumTo_one r c h
def Ann (w : Nat) (R : List Fr) (z : Fr) : Prop := ∀ r ∈ R, dt w r z = 0
/-- r is a combination of R's rows -/
inductive Spn (R : List Fr) : Fr → Prop where
  | mem {r : Fr} : r ∈ R → Spn R r
  | zero : Spn R fun _ => 0
  | lin (a b : Rat) {r t s : Fr} : Spn R r → Spn R t → (∀ j, s j = a * r j + b * t j) → Spn R s
theorem Spn.ann {R : List Fr} {r z : Fr} {w : Nat} (h : Spn R r) (hz : Ann w R z) : dt w r z = 0 := by
  induction h with
  | mem h => exact hz _ h
  | zero =>
    unfold dt
    rw [sumTo_congr (g := fun _ => 0) fun j _ => by grind]
    exact sumTo_zero w
  | lin a b _ _ e ih1 ih2 =>
    rw [dt_congr fun j _ => e j, dt_lin, ih1, ih2]
    grind
theorem Spn.trans {R S : List Fr} {r : Fr} (h : Spn S r) (hs : ∀ s ∈ S, Spn R s) : Spn R r := by
  induction h with
  | mem h => exact hs _ h
  | zero => exact .zero
  | lin a b _ _ e ih1 ih2 => exact .lin a b ih1 ih2 e
/-- .. with its weights -/
theorem Spn.weights {R : List Fr} {r : Fr} (h : Spn R r) : ∃ u : Fr, ∀ j, r j = sumTo R.length fun i => u i * (R.getD i fun _ => 0) j := by
  induction h with
  | @mem r h =>
    obtain ⟨k, hk, e⟩ := List.getElem_of_mem h
    refine ⟨fun i => if i = k then 1 else 0, fun j => ?_⟩
    have := sumTo_one (fun i => (R.getD i fun _ => 0) j) 1 hk
    rw [sumTo_congr (g := fun i => (R.getD i fun _ => 0) j * (if i = k then 1 else 0)) fun i _ => by grind, this]
    have e2 : R.getD k (fun _ => 0) = r := by
      rw [List.getD_eq_getElem?_getD, List.getElem?_eq_getElem hk]
      exact e
    rw [e2]
    grind
  | zero =>
    refine ⟨fun _ => 0, fun j => ?_⟩
    rw [sumTo_congr (g := fun _ => 0) fun i _ => by grind, sumTo_zero]
  | lin a b _ _ e ih1 ih2 =>
    obtain ⟨u, hu⟩ := ih1
    obtain ⟨v, hv⟩ := ih2
    refine ⟨fun i => a * u i + b * v i, fun j => ?_⟩
    rw [e j, hu j, hv j, ← sumTo_lin]
    exact sumTo_congr fun i _ => by grind
/-! ### one step of the elimination -/
/-- r, with top's multiple taken off so that column c is zero -/
def Canc (c : Nat) (top r s : Fr) : Prop := (∃ a b : Rat, a ≠ 0 ∧ ∀ j, s j = a * r j + b * top j) ∧ s c = 0
def Scal (r s : Fr) : Prop := ∃ a : Rat, a ≠ 0 ∧ ∀ j, s j = a * r j
/-- pivots and rows, the pivot's place with its row -/
structure Elim (w c : Nat) (G : List Fr) (L : List (Nat × Fr)) (T : List Fr) : Prop where
  ann : ∀ z, Ann w (L.map (·.2) ++ T) z → Ann w G z
  spn : ∀ r ∈ L.map (·.2) ++ T, Spn G r
  inc : L.Pairwise fun x y => x.1 < y.1
  lt : ∀ x ∈ L, x.1 < c
  piv : ∀ x ∈ L, x.2 x.1 ≠ 0
  off : ∀ x ∈ L, ∀ y ∈ L, x.1 ≠ y.1 → x.2 y.1 = 0
  led : ∀ x ∈ L, ∀ j, j < x.1 → x.2 j = 0
  low : ∀ t ∈ T, ∀ j, j < c → t j = 0
theorem Elim.skip {w c : Nat} {G : List Fr} {L : List (Nat × Fr)} {T : List Fr} (h : Elim w c G L T) (h0 : ∀ t ∈ T, t c = 0) : Elim w (c + 1) G L T :=
  ⟨h.ann, h.spn, h.inc, fun x hx => Nat.lt_succ_of_lt (h.lt x hx), h.piv, h.off, h.led, fun t ht j hj => by
    by_cases e : j = c
    · subst e
      exact h0 t ht
    · exact h.low t ht j (by omega)⟩
/-- every row cancelled by top, top behind the chosen ones -/
theorem Elim.step {w c : Nat} {G : List Fr} {L L' : List (Nat × Fr)} {T T' : List Fr} {top : Fr} (h : Elim w c G L T) (hm : top ∈ T) (ht : top c ≠ 0)
    (hL : ∀ y ∈ L', ∃ x ∈ L, y.1 = x.1 ∧ Canc c top x.2 y.2) (hLb : ∀ x ∈ L, ∃ y ∈ L', y.1 = x.1 ∧ Canc c top x.2 y.2) (hp : L'.map (·.1) = L.map (·.1))
    (hT : ∀ s ∈ T', ∃ t ∈ T, Canc c top t s) (hTb : ∀ t ∈ T, t = top ∨ ∃ s ∈ T', Canc c top t s) : Elim w (c + 1) G (L' ++ [(c, top)]) T' := by
  have tl := h.low top hm
  have own : ∀ y ∈ L' ++ [(c, top)], y = (c, top) ∨ ∃ x ∈ L, y.1 = x.1 ∧ Canc c top x.2 y.2 := fun y hy => by
    rcases List.mem_append.mp hy with z | z
    · exact .inr (hL y z)
    · exact .inl (List.mem_singleton.mp z)
  refine ⟨fun z hz => ?_, fun r hr => ?_, ?_, fun y hy => ?_, fun y hy => ?_, fun y hy y2 hy2 ne => ?_, fun y hy j hj => ?_, fun s hs j hj => ?_⟩
  · have zt : dt w top z = 0 := hz top (by simp)
    have back : ∀ {r s : Fr}, Canc c top r s → dt w s z = 0 → dt w r z = 0 := fun {r s} hc h0 => by
      obtain ⟨⟨a, b, ha, e⟩, _⟩ := hc
      rw [dt_congr fun j _ => e j, dt_lin, zt] at h0
      have : a * dt w r z = 0 := by grind
      grind
    refine h.ann z fun r hr => ?_
    rcases List.mem_append.mp hr with q | q
    · obtain ⟨x, hx, rfl⟩ := List.mem_map.mp q
      obtain ⟨y, hy, _, hc⟩ := hLb x hx
      exact back hc (hz y.2 (List.mem_append_left _ (List.mem_map_of_mem (f := (·.2)) (List.mem_append_left _ hy))))
    · rcases hTb r q with rfl | ⟨s, hs, hc⟩
      · exact zt
      · exact back hc (hz s (List.mem_append_right _ hs))
  · have st : Spn G top := h.spn top (List.mem_append_right _ hm)
    have to : ∀ {r s : Fr}, Canc c top r s → Spn G r → Spn G s := fun {r s} hc hr => by
      obtain ⟨⟨a, b, _, e⟩, _⟩ := hc
      exact .lin a b hr st e
    rcases List.mem_append.mp hr with q | q
    · obtain ⟨y, hy, rfl⟩ := List.mem_map.mp q
      rcases own y hy with rfl | ⟨x, hx, _, hc⟩
      · exact st
      · exact to hc (h.spn x.2 (List.mem_append_left _ (List.mem_map_of_mem (f := (·.2)) hx)))
    · obtain ⟨t, ht2, hc⟩ := hT r q
      exact to hc (h.spn t (List.mem_append_right _ ht2))
  · have h1 : (L'.map (·.1)).Pairwise (· < ·) := by
      rw [hp]
      exact List.pairwise_map.mpr h.inc
    refine List.pairwise_append.mpr ⟨List.pairwise_map.mp h1, List.pairwise_singleton _ _, fun y hy y2 hy2 => ?_⟩
    rw [List.mem_singleton.mp hy2]
    obtain ⟨x, hx, e, _⟩ := hL y hy
    rw [e]
    exact h.lt x hx
  · rcases own y hy with rfl | ⟨x, hx, e, _⟩
    · exact Nat.lt_succ_self c
    · rw [e]
      exact Nat.lt_succ_of_lt (h.lt x hx)
  · rcases own y hy with rfl | ⟨x, hx, e, ⟨a, b, ha, ej⟩, _⟩
    · exact ht
    · have := h.piv x hx
      rw [e, ej, tl x.1 (h.lt x hx)]
      grind
  · rcases own y hy with rfl | ⟨x, hx, e, ⟨a, b, ha, ej⟩, e0⟩
    · rcases own y2 hy2 with rfl | ⟨x2, hx2, e2, _⟩
      · exact absurd rfl ne
      · rw [e2]
        exact tl x2.1 (h.lt x2 hx2)
    · rcases own y2 hy2 with rfl | ⟨x2, hx2, e2, _⟩
      · exact e0
      · have := h.off x hx x2 hx2 (by rw [← e, ← e2]; exact ne)
        rw [e2, ej, this, tl x2.1 (h.lt x2 hx2)]
        grind
  · rcases own y hy with rfl | ⟨x, hx, e, ⟨a, b, ha, ej⟩, _⟩
    · exact tl j hj
    · rw [e] at hj
      have := h.led x hx j hj
      have := tl j (Nat.lt_trans hj (h.lt x hx))
      rw [ej]
      grind
  · obtain ⟨t, ht2, ⟨a, b, ha, ej⟩, e0⟩ := hT s hs
    by_cases e : j = c
    · subst e
      exact e0
    · rw [ej, h.low t ht2 j (by omega), tl j (by omega)]
      grind
end Ind

set_option Elab.async false
namespace Ind
/-! ### what the reduced rows tell -/
structure Red (w : Nat) (G : List Fr) (L : List (Nat × Fr)) : Prop where
  ann : ∀ z, Ann w (L.map (·.2)) z → Ann w G z
  spn : ∀ x ∈ L, Spn G x.2
  inc : L.Pairwise fun x y => x.1 < y.1
  lt : ∀ x ∈ L, x.1 < w
  one : ∀ x ∈ L, x.2 x.1 = 1
  off : ∀ x ∈ L, ∀ y ∈ L, x.1 ≠ y.1 → x.2 y.1 = 0
  led : ∀ x ∈ L, ∀ j, j < x.1 → x.2 j = 0
/-- before the first column -/
theorem Elim.start {w : Nat} {G T : List Fr} (h1 : ∀ g ∈ G, ∃ t ∈ T, Scal g t) (h2 : ∀ t ∈ T, ∃ g ∈ G, Scal g t) : Elim w 0 G [] T := by
  refine ⟨fun z hz g hg => ?_, fun r hr => ?_, List.Pairwise.nil, fun x hx => by simp at hx, fun x hx => by simp at hx, fun x hx => by simp at hx, fun x hx => by simp at hx, fun t _ j hj => by omega⟩
  · obtain ⟨t, ht, a, ha, e⟩ := h1 g hg
    have h0 := hz t (List.mem_append_right _ ht)
    rw [dt_congr (t := fun j => a * g j + 0 * g j) fun j _ => by rw [e]; grind, dt_lin] at h0
    grind
  · obtain ⟨g, hg, a, ha, e⟩ := h2 r (by simpa using hr)
    exact .lin a 0 (.mem hg) (.mem hg) fun j => by rw [e]; grind
/-- behind the last column, each row over its pivot -/
theorem Elim.red {w : Nat} {G : List Fr} {L L' : List (Nat × Fr)} {T : List Fr} (h : Elim w w G L T) (h1 : ∀ y ∈ L', ∃ x ∈ L, y.1 = x.1 ∧ ∀ j, y.2 j = x.2 j / x.2 x.1) (h2 : ∀ x ∈ L, ∃ y ∈ L', y.1 = x.1 ∧ ∀ j, y.2 j = x.2 j / x.2 x.1)
    (hp : L'.map (·.1) = L.map (·.1)) : Red w G L' := by
  refine ⟨fun z hz => h.ann z fun r hr => ?_, fun y hy => ?_, ?_, fun y hy => ?_, fun y hy => ?_, fun y hy y2 hy2 ne => ?_, fun y hy j hj => ?_⟩
  · rcases List.mem_append.mp hr with q | q
    · obtain ⟨x, hx, rfl⟩ := List.mem_map.mp q
      obtain ⟨y, hy, _, e⟩ := h2 x hx
      have h0 := hz y.2 (List.mem_map_of_mem (f := (·.2)) hy)
      have hx0 := h.piv x hx
      rw [dt_congr (t := fun j => (1 / x.2 x.1) * x.2 j + 0 * x.2 j) fun j _ => by rw [e]; grind, dt_lin] at h0
      have h3 : (1 / x.2 x.1) * dt w x.2 z = 0 := by grind
      have h4 : 1 / x.2 x.1 ≠ 0 := by grind
      grind
    · unfold dt
      rw [sumTo_congr (g := fun _ => 0) fun j hj => by rw [h.low r q j hj]; grind, sumTo_zero]
  · obtain ⟨x, hx, _, e⟩ := h1 y hy
    have hs := h.spn x.2 (List.mem_append_left _ (List.mem_map_of_mem (f := (·.2)) hx))
    exact .lin (1 / x.2 x.1) 0 hs hs fun j => by rw [e]; grind
  · have h3 : (L'.map (·.1)).Pairwise (· < ·) := by
      rw [hp]
      exact List.pairwise_map.mpr h.inc
    exact List.pairwise_map.mp h3
  · obtain ⟨x, hx, e, _⟩ := h1 y hy
    rw [e]
    exact h.lt x hx
  · obtain ⟨x, hx, e, ej⟩ := h1 y hy
    have := h.piv x hx
    rw [e, ej]
    grind
  · obtain ⟨x, hx, e, ej⟩ := h1 y hy
    obtain ⟨x2, hx2, e2, _⟩ := h1 y2 hy2
    have := h.off x hx x2 hx2 (by rw [← e, ← e2]; exact ne)
    rw [e2, ej, this]
    grind
  · obtain ⟨x, hx, e, ej⟩ := h1 y hy
    have := h.led x hx j (by rw [← e]; exact hj)
    rw [ej, this]
    grind
/-- the sum of r's items at the pivots times the rows -/
def comb : List (Nat × Fr) → Fr → Fr
  | [], _, _ => 0
  | x :: L, r, j => r x.1 * x.2 j + comb L r j
/-- the vector that tells column j by the pivots -/
def zL : List (Nat × Fr) → Nat → Fr
  | [], j, i => if i = j then 1 else 0
  | x :: L, j, i => 1 * zL L j i + (-1) * (if i = x.1 then x.2 j else 0)
theorem dt_zL {w j : Nat} (hj : j < w) (r : Fr) : ∀ {L : List (Nat × Fr)}, (∀ x ∈ L, x.1 < w) → dt w r (zL L j) = r j - comb L r j
  | [], _ => by
    have := dt_one r 1 hj
    show dt w r (fun i => if i = j then 1 else 0) = r j - 0
    rw [this]
    grind
  | x :: L, h => by
    show dt w r (fun i => 1 * zL L j i + (-1) * (if i = x.1 then x.2 j else 0)) = r j - (r x.1 * x.2 j + comb L r j)
    rw [dt_lin2, dt_zL hj r fun y hy => h y (List.mem_cons_of_mem _ hy), dt_one r (x.2 j) (h x (by simp))]
    grind
theorem comb_off {r : Fr} {j : Nat} : ∀ {L : List (Nat × Fr)}, (∀ y ∈ L, r y.1 = 0) → comb L r j = 0
  | [], _ => rfl
  | x :: L, h => by
    show r x.1 * x.2 j + comb L r j = 0
    rw [h x (by simp), comb_off fun y hy => h y (List.mem_cons_of_mem _ hy)]
    grind
theorem comb_self {L : List (Nat × Fr)} (inc : L.Pairwise fun x y => x.1 < y.1) (one : ∀ x ∈ L, x.2 x.1 = 1) (off : ∀ x ∈ L, ∀ y ∈ L, x.1 ≠ y.1 → x.2 y.1 = 0) : ∀ x ∈ L, ∀ j, comb L x.2 j = x.2 j := by
  induction L with
  | nil => intro x hx; simp at hx
  | cons a L ih =>
    intro x hx j
    obtain ⟨ia, il⟩ := List.pairwise_cons.mp inc
    show x.2 a.1 * a.2 j + comb L x.2 j = x.2 j
    rcases List.mem_cons.mp hx with rfl | h
    · rw [one x hx, comb_off fun y hy => off x hx y (List.mem_cons_of_mem _ hy) (Nat.ne_of_lt (ia y hy))]
      grind
    · rw [off x hx a (by simp) (Nat.ne_of_gt (ia x h)), ih il (fun y hy => one y (List.mem_cons_of_mem _ hy)) (fun y hy y2 hy2 => off y (List.mem_cons_of_mem _ hy) y2 (List.mem_cons_of_mem _ hy2)) x h j]
      grind
/-- each given row is the sum of the reduced ones by its items at the pivots -/
theorem Red.comb {w : Nat} {G : List Fr} {L : List (Nat × Fr)} (h : Red w G L) {g : Fr} (hg : g ∈ G) {j : Nat} (hj : j < w) : g j = comb L g j := by
  have a : Ann w (L.map (·.2)) (zL L j) := fun r hr => by
    obtain ⟨x, hx, rfl⟩ := List.mem_map.mp hr
    rw [dt_zL hj _ h.lt, comb_self h.inc h.one h.off x hx]
    grind
  have := h.ann _ a g hg
  rw [dt_zL hj _ h.lt] at this
  grind
/-- a solution of the system with the last column as right side: no pivot there -/
theorem Red.no_last {w : Nat} {G : List Fr} {L : List (Nat × Fr)} (h : Red (w + 1) G L) {y : Fr} (hy : ∀ g ∈ G, sumTo w (fun j => g j * y j) = g w) : ∀ x ∈ L, x.1 ≠ w := by
  intro x hx e
  have hz : Ann (w + 1) G (fun j => if j < w then y j else -1) := fun g hg => by
    show sumTo w _ + g w * (if w < w then y w else -1) = 0
    rw [if_neg (Nat.lt_irrefl w), sumTo_congr (g := fun j => g j * y j) fun j hj => by show g j * (if j < w then y j else -1) = _; rw [if_pos hj], hy g hg]
    grind
  have h1 := (h.spn x hx).ann hz
  have h2 : dt (w + 1) x.2 (fun j => if j < w then y j else -1) = -1 := by
    show sumTo w _ + x.2 w * (if w < w then y w else -1) = -1
    have o := h.one x hx
    rw [e] at o
    rw [if_neg (Nat.lt_irrefl w), o, sumTo_congr (g := fun _ => 0) fun j hj => by rw [h.led x hx j (by omega)]; grind, sumTo_zero]
    grind
  rw [h2] at h1
  grind
/-- what is read off the last column solves the system -/
theorem Red.solves {w : Nat} {G : List Fr} {L : List (Nat × Fr)} (h : Red (w + 1) G L) (hn : ∀ x ∈ L, x.1 ≠ w) {y : Fr} (hy : ∀ x ∈ L, y x.1 = x.2 w) (h0 : ∀ j, j < w → (∀ x ∈ L, x.1 ≠ j) → y j = 0) : ∀ g ∈ G, sumTo w (fun j => g j * y j) = g w := by
  have key : ∀ {M : List (Nat × Fr)} {z : Fr} (g : Fr), M.Pairwise (fun x y => x.1 < y.1) → (∀ x ∈ M, x.1 < w) → (∀ x ∈ M, z x.1 = x.2 w) → (∀ j, j < w → (∀ x ∈ M, x.1 ≠ j) → z j = 0) → sumTo w (fun j => g j * z j) = Ind.comb M g w := by
    intro M
    induction M with
    | nil =>
      intro z g _ _ _ hz
      rw [sumTo_congr (g := fun _ => 0) fun j hj => by rw [hz j hj (by simp)]; grind, sumTo_zero]
      rfl
    | cons a M ih =>
      intro z g inc lt hv hz
      obtain ⟨ia, il⟩ := List.pairwise_cons.mp inc
      have e := ih (z := fun j => if j = a.1 then 0 else z j) g il (fun x hx => lt x (List.mem_cons_of_mem _ hx))
        (fun x hx => by rw [if_neg (Nat.ne_of_gt (ia x hx))]; exact hv x (List.mem_cons_of_mem _ hx))
        (fun j hj hq => by
          by_cases c : j = a.1
          · rw [if_pos c]
          · rw [if_neg c]
            refine hz j hj fun x hx => ?_
            rcases List.mem_cons.mp hx with rfl | hx
            · exact fun z => c z.symm
            · exact hq x hx)
      have o := sumTo_one g (z a.1) (lt a (by simp))
      have s : sumTo w (fun j => g j * z j) = 1 * sumTo w (fun j => g j * (if j = a.1 then 0 else z j)) + 1 * sumTo w (fun j => g j * (if j = a.1 then z a.1 else 0)) := by
        rw [← sumTo_lin]
        refine sumTo_congr fun j _ => ?_
        by_cases c : j = a.1
        · rw [if_pos c, if_pos c, c]
          grind
        · rw [if_neg c, if_neg c]
          grind
      rw [s, e, o, hv a (by simp)]
      show 1 * Ind.comb M g w + 1 * (g a.1 * a.2 w) = g a.1 * a.2 w + Ind.comb M g w
      grind
  intro g hg
  rw [key g h.inc (fun x hx => by have := h.lt x hx; have := hn x hx; omega) hy h0, ← h.comb hg (Nat.lt_succ_self w)]
end Ind

set_option Elab.async false
set_option linter.all false
set_option maxRecDepth 100000
set_option maxHeartbeats 4000000
set_option exponentiation.threshold 9000
namespace Ind
open PySem PySem.Spec PyProof.Rows L2
open Builtin.Int (intBits)
abbrev sCont : Stmt := top 6
abbrev sElim : Stmt := top 21
abbrev sFwi : Stmt := top 22
abbrev sCan : Stmt := top 23
abbrev sWc : Stmt := top 24
/-- // where the interpreter divides by itself -/
theorem op_fdivC {X : Cx} : OpR X (binaryOp .FloorDiv) (rI (fun _ j => j ≠ 0 ∧ intBits j ≤ 8000) fun i j => .int (i.fdiv j)) := by
  intro pins s σ H x y v u Q I rx ry h
  obtain ⟨i, j, rfl, rfl, ⟨hc, hb⟩, q⟩ := h
  obtain ⟨t, rfl⟩ := rx
  obtain ⟨t', rfl⟩ := ry
  refine floordiv_int hc ⟨.int (i.fdiv j), H, I.tok _, ⟨_, rfl⟩, q⟩ (.inl ?_)
  have h1 : j.natAbs.log2 < 8000 := by
    have h2 := PySem.intBits_le_iff.mp hb
    exact (Nat.log2_lt (by omega)).mpr h2
  unfold Builtin.divisionGoesByPylong
  have h3 : (if (j == 0) = true then 0 else j.natAbs.log2 / 30 + 1) ≤ 300 := by
    split <;> omega
  simp only [Bool.and_eq_false_iff, decide_eq_false_iff_not]
  exact .inl (by omega)
/-! ### rows of ints -/
def fr (ns : List Int) : Fr := fun j => ((ns.getD j 0 : Int) : Rat)
def RowAt (H : Hp) (p : Addr) (ns : List Int) : Prop := H p = some (.lst (ns.map V.int))
def Bt (b : Nat) (ns : List Int) : Prop := ∀ n ∈ ns, intBits n ≤ b
theorem row_at {ns : List Int} {k : Nat} {n : Int} (h : ns[k]? = some n) : atI (ns.map V.int) ((k : Nat) : Int) = some (V.int n) := atI_of (by rw [List.getElem?_map, h]; rfl)
theorem getD_mem {ns : List Int} {k : Nat} {n : Int} (h : ns[k]? = some n) : ns.getD k 0 = n := by
  rw [List.getD_eq_getElem?_getD, h]
  rfl
def spCont : Sp := fun vs H Q _ => ∃ (p : Addr) (ns : List Int), vs = [.ref p] ∧ RowAt H p ns ∧ ∀ s : Nat, (∀ n ∈ ns, ((s : Nat) : Int) ∣ n) → (∀ b, Bt b ns → intBits (s : Int) ≤ b) → Q (.int (s : Int)) H
def spWc : Sp := fun vs H Q _ => ∃ (p : Addr) (ns : List Int) (b : Nat), vs = [.ref p] ∧ RowAt H p ns ∧ Bt b ns ∧ b ≤ 8000 ∧ ns.length ≤ 100 ∧
  ∀ (H' : Hp) (r : Addr) (ms : List Int), Same H H' → (r = p ∨ H r = none) → RowAt H' r ms → ms.length = ns.length → (∃ s : Int, 1 ≤ s ∧ ∀ j, ns.getD j 0 = s * ms.getD j 0) → Bt b ms → Q (.ref r) H'
section
variable {P : Program} {w : World} {K : PySem.W.Frag} {mg : Str → Option Value} {base : Heap} {C Z : Addr}
theorem scCont : FnScope ["row", "found", "n"] ["row"] (defScope sCont) := ⟨rfl, rfl, rfl, by decide +kernel, rfl, by decide +kernel, by decide +kernel⟩
theorem ok_cont {f : Addr} {fd : FuncData} (F : Fun K "content" "content" sCont f fd) (R : TxR K mg C Z) : FnOk P w K mg base CX0 1 f fd ["row"] spCont := by
  refine F.ok scCont (fun vs H Q E h => ?_) (fun cdv A outer s H vs Q E hr h => ?_)
  · obtain ⟨p, ns, rfl, _⟩ := h
    rfl
  · obtain ⟨p, ns, rfl, hp, q⟩ := h
    refine ⟨_, pss_cons (ps_set (i := 1) scCont.nd rfl (Or.inl rfl) pe_int)
      (pss_cons (ps_for PassesOwn.never rfl (pi_list (pv 0)) (pg_name (i := 2) scCont.nd rfl (Or.inl rfl))
        (pss_cons (ps_set (i := 1) scCont.nd rfl (Or.inl rfl) (pe_callBfun cr_gcd (by rfl) R.gcd (pa_cons (pv 1) (pa_cons (pv 2) pa_nil))))
        (pss_one (ps_if (pt_cmpR op_eq (pv 1) pe_int (nomark _)) (pss_one (ps_ret (pv 1))) pss_nil))))
      (pss_one (ps_ret (pv 1)))), ?_⟩
    refine ⟨_, rfl, p, rfl, ⟨_, SqL.of hp⟩, for_list (K := K) (a := p) (xs := ns.map V.int) (fun i σ H' => H' = H ∧ ∃ (g : Nat) (v : Option V), σ = [some (.ref p), some (.int (g : Int)), v] ∧ (∀ n ∈ ns.take i, ((g : Nat) : Int) ∣ n) ∧ ∀ b, Bt b ns → intBits (g : Int) ≤ b)
      ⟨rfl, 0, none, rfl, by simp, fun b _ => Nat.le_trans (show intBits 0 ≤ 0 by decide) (Nat.zero_le _)⟩ (fun i σ H' _ ⟨e, _⟩ => e ▸ SqL.of hp) ?_ ?_⟩
    · rintro i x σ H' hx ⟨rfl, g, v, rfl, hg, hgb⟩
      rw [List.getElem?_map] at hx
      obtain ⟨n, hn, rfl⟩ : ∃ n, ns[i]? = some n ∧ x = V.int n := by
        cases e : ns[i]? with
        | none => rw [e] at hx; cases hx
        | some y => rw [e] at hx; exact ⟨y, rfl, (Option.some.inj hx).symm⟩
      have hnew : ∀ m ∈ ns.take (i + 1), ((Nat.gcd ((g : Nat) : Int).natAbs n.natAbs : Nat) : Int) ∣ m := fun m hm => by
        rw [List.take_add_one, hn] at hm
        rcases List.mem_append.mp hm with z | z
        · have h1 : Nat.gcd g n.natAbs ∣ g := Nat.gcd_dvd_left _ _
          exact Int.dvd_trans (Int.natCast_dvd_natCast.mpr h1) (hg m z)
        · have e : m = n := by simpa using z
          subst e
          have h1 : Nat.gcd g m.natAbs ∣ m.natAbs := Nat.gcd_dvd_right _ _
          exact Int.natAbs_dvd_natAbs.mp h1
      have hnb : ∀ b, Bt b ns → intBits ((Nat.gcd ((g : Nat) : Int).natAbs n.natAbs : Nat) : Int) ≤ b := fun b hb => by
        by_cases z : n = 0
        · subst z
          have e : Nat.gcd ((g : Nat) : Int).natAbs (0 : Int).natAbs = g := by
            show Nat.gcd g 0 = g
            exact Nat.gcd_zero_right g
          rw [e]
          exact hgb b hb
        · refine PySem.intBits_le_of_natAbs ?_ (hb n (List.mem_of_getElem? hn))
          show Nat.gcd _ _ ≤ n.natAbs
          exact Nat.gcd_le_right _ (by omega)
      refine ⟨_, rfl, _, rfl, _, _, rfl, _, rfl, rfl, _, rfl, ite2 (fun c => ?_) (fun c => ?_)⟩
      · have h1 : ((Nat.gcd ((g : Nat) : Int).natAbs n.natAbs : Nat) : Int) = 1 := V.int.inj (of_decide_eq_true c)
        refine ⟨_, rfl, q _ (fun m _ => ?_) hnb⟩
        rw [h1]
        exact Int.one_dvd m
      · exact ⟨rfl, _, _, rfl, hnew, hnb⟩
    · rintro σ H' ⟨rfl, g, v, rfl, hg, hgb⟩
      exact ⟨_, rfl, q g (fun n hn => hg n (by rw [List.length_map, List.take_length]; exact hn)) hgb⟩
theorem scWc : FnScope ["row", "share", "n"] ["row"] (defScope sWc) := ⟨rfl, rfl, rfl, by decide +kernel, rfl, by decide +kernel, by decide +kernel⟩
theorem ok_wc {f fC : Addr} {fd fdC : FuncData} (F : Fun K "without_content" "without_content" sWc f fd) (R : TxR K mg C Z) (FC : Fun K "content" "content" sCont fC fdC) (bC : Binds K fdC ["row"] []) (gC : mg "content" = some (.ref fC)) :
    FnOk P w K mg base CX0 2 f fd ["row"] spWc := by
  have GC : FnOk P w K mg base CX0 1 fC fdC ["row"] spCont := ok_cont FC R
  refine F.ok scWc (fun vs H Q E h => ?_) (fun cdv A outer s H vs Q E hr h => ?_)
  · obtain ⟨p, ns, b, rfl, _⟩ := h
    rfl
  · obtain ⟨p, ns, b, rfl, hp, hb, hb8, hl, q⟩ := h
    refine ⟨_, pss_cons (ps_set (i := 1) scWc.nd rfl (Or.inr rfl) (pe_call GC hr (by rfl) gC FC.kp bC .nil pass0 (pa_cons (pv 0) pa_nil)))
      (pss_cons (ps_if (pt_cmpR op_le (pv 1) pe_int (nomark _)) (pss_one (ps_ret (pv 0))) pss_nil)
      (pss_one (ps_ret (pe_lc (own := [("n", 2)]) (g := gName 2) (tt := tYes) rfl scWc.nd (pi_list (pv 0)) (blkOk_by (N := ["row", "share", "n"]) (sc := defScope sWc) (by decide +kernel))
          (fun _ _ _ _ _ => pg_name (i := 2) scWc.nd rfl (Or.inl rfl)) (fun _ _ _ _ _ => pts_nil) (fun _ _ _ _ _ => pe_op op_fdivC (pv 2) (pv 1)))))), ?_⟩
    refine ⟨_, rfl, p, ns, rfl, hp, fun g hg hgb => ?_⟩
    refine ⟨_, rfl, _, _, rfl, rfl, _, rfl, ite2 (fun c => ?_) (fun c => ?_)⟩
    · exact ⟨_, rfl, q H p ns same_rfl (.inl rfl) hp rfl ⟨1, by decide, fun j => by omega⟩ hb⟩
    · have hg1 : 1 < g := by
        have : ¬ ((g : Int) ≤ 1) := fun z => c (decide_eq_true z)
        omega
      have hg8 : intBits (g : Int) ≤ 8000 := Nat.le_trans (hgb b hb) hb8
      refine ⟨_, rfl, p, rfl, ⟨_, SqL.of hp⟩, fun D hD => lc_list (K := K) (a := p) (xs := ns.map V.int) (fun i H2 => Same H H2 ∧ RowAt H2 D ((ns.take i).map fun n => n.fdiv (g : Int))) ⟨same_upd hD, upd_same⟩ (fun i H2 _ z => z.1.seq (SqL.of hp)) ?_ ?_⟩
      · rintro i x H2 hx ⟨s2, hL⟩
        rw [List.getElem?_map] at hx
        obtain ⟨n, hn, rfl⟩ : ∃ n, ns[i]? = some n ∧ x = V.int n := by
          cases e : ns[i]? with
          | none => rw [e] at hx; cases hx
          | some y => rw [e] at hx; exact ⟨y, rfl, (Option.some.inj hx).symm⟩
        refine ⟨rfl, _, rfl, _, rfl, _, _, rfl, rfl, ⟨by omega, hg8⟩, _, hL, ?_, fun c o e => ?_, ?_⟩
        · rw [List.length_map, List.length_map, List.length_take]
          exact Nat.lt_of_le_of_lt (Nat.le_trans (Nat.min_le_right _ _) hl) (by decide)
        · rw [upd_ne (ne_of_none e hD)]
          exact s2 c o e
        · unfold RowAt
          rw [upd_same, List.take_add_one, hn, List.map_append, List.map_append]
          rfl
      · rintro H2 ⟨s2, hL⟩
        rw [List.length_map, List.take_length] at hL
        have hdv : ∀ n ∈ ns, n = (g : Int) * n.fdiv (g : Int) := fun n hn => by
          obtain ⟨k, e⟩ := hg n hn
          have : n.fdiv (g : Int) = k := fdiv_of_mul (by omega) (e.trans (Int.mul_comm _ _))
          rw [this]
          exact e
        refine q H2 D _ s2 (.inr hD) hL (List.length_map ..) ⟨(g : Int), by omega, fun j => ?_⟩ fun m hm => ?_
        · rw [List.getD_eq_getElem?_getD, List.getD_eq_getElem?_getD, List.getElem?_map]
          cases e : ns[j]? with
          | none => simp
          | some n => exact hdv n (List.mem_of_getElem? e)
        · obtain ⟨n, hn, rfl⟩ := List.mem_map.mp hm
          exact PySem.intBits_fdiv_le (hb n hn)
end
end Ind

set_option Elab.async false
set_option linter.all false
set_option maxRecDepth 100000
set_option maxHeartbeats 4000000
set_option exponentiation.threshold 9000
namespace Ind
open PySem PySem.Spec PyProof.Rows L2
open Builtin.Int (intBits)
def spCan : Sp := fun vs H Q _ => ∃ (p t : Addr) (ns ts : List Int) (c b : Nat), vs = [.ref p, .ref t, .int (c : Int)] ∧ RowAt H p ns ∧ RowAt H t ts ∧ ts.length = ns.length ∧ c < ns.length ∧ ns.length ≤ 100 ∧ ts.getD c 0 ≠ 0 ∧ Bt b ns ∧ Bt b ts ∧ 2 * b + 1 ≤ 8000 ∧
  ∀ (H' : Hp) (r : Addr) (ms : List Int), Same H H' → (r = p ∨ H r = none) → RowAt H' r ms → ms.length = ns.length → Canc c (fr ts) (fr ns) (fr ms) → Bt (2 * b + 1) ms → Q (.ref r) H'
theorem canc_of {ns ts ms : List Int} {c : Nat} {g keep take s : Int} (hs : 1 ≤ s) (hk : ts.getD c 0 = g * keep) (ht : ns.getD c 0 = g * take) (h0 : ts.getD c 0 ≠ 0) (h : ∀ j, keep * ns.getD j 0 - take * ts.getD j 0 = s * ms.getD j 0) : Canc c (fr ts) (fr ns) (fr ms) := by
  have hs0 : ((s : Int) : Rat) ≠ 0 := fun z => by
    have : s = 0 := by exact_mod_cast z
    omega
  have hk0 : ((keep : Int) : Rat) ≠ 0 := fun z => by
    have : keep = 0 := by exact_mod_cast z
    subst this
    exact h0 (by rw [hk]; simp)
  have key : ∀ j, ((keep : Int) : Rat) * fr ns j - ((take : Int) : Rat) * fr ts j = ((s : Int) : Rat) * fr ms j := fun j => by
    unfold fr
    rw [← Rat.intCast_mul, ← Rat.intCast_mul, ← Rat.intCast_mul, ← Rat.intCast_sub, h j]
  refine ⟨⟨((keep : Int) : Rat) / ((s : Int) : Rat), -((take : Int) : Rat) / ((s : Int) : Rat), by grind, fun j => ?_⟩, ?_⟩
  · have := key j
    grind
  · have e : s * ms.getD c 0 = 0 := by
      rw [← h c, hk, ht]
      have : keep * (g * take) = take * (g * keep) := by ac_rfl
      omega
    have : ms.getD c 0 = 0 := by
      rcases Int.mul_eq_zero.mp e with z | z
      · omega
      · exact z
    unfold fr
    rw [this]
    rfl
def mixed (keep take : Int) (ns ts : List Int) (i : Nat) : List Int := (List.range i).map fun j => keep * ns.getD j 0 - take * ts.getD j 0
theorem mixed_getD {keep take : Int} {ns ts : List Int} (h : ts.length = ns.length) (j : Nat) : (mixed keep take ns ts ns.length).getD j 0 = keep * ns.getD j 0 - take * ts.getD j 0 := by
  unfold mixed
  rw [List.getD_eq_getElem?_getD, List.getElem?_map]
  by_cases c : j < ns.length
  · rw [List.getElem?_range c]
    rfl
  · rw [List.getElem?_eq_none (by rw [List.length_range]; omega), List.getD_eq_getElem?_getD, List.getElem?_eq_none (by omega), List.getD_eq_getElem?_getD, List.getElem?_eq_none (by omega)]
    simp
theorem mixed_succ (keep take : Int) (ns ts : List Int) (i : Nat) : mixed keep take ns ts (i + 1) = mixed keep take ns ts i ++ [keep * ns.getD i 0 - take * ts.getD i 0] := by
  unfold mixed
  rw [List.range_succ, List.map_append]
  rfl
theorem bt_get {b : Nat} {ns : List Int} (h : Bt b ns) (j : Nat) : intBits (ns.getD j 0) ≤ b := by
  rw [List.getD_eq_getElem?_getD]
  cases e : ns[j]? with
  | none => exact Nat.le_trans (show intBits 0 ≤ 0 by decide) (Nat.zero_le _)
  | some n => exact h n (List.mem_of_getElem? e)
abbrev nCan : List Str := ["row", "top", "column", "common", "keep", "take", "n", "m"]
section
variable {P : Program} {w : World} {K : PySem.W.Frag} {mg : Str → Option Value} {base : Heap} {C Z : Addr}
theorem scCan : FnScope nCan ["row", "top", "column"] (defScope sCan) := ⟨rfl, rfl, rfl, by decide +kernel, rfl, by decide +kernel, by decide +kernel⟩
theorem ok_can {f fW fC : Addr} {fd fdW fdC : FuncData} (F : Fun K "cancelled" "cancelled" sCan f fd) (R : TxR K mg C Z) (FW : Fun K "without_content" "without_content" sWc fW fdW) (bW : Binds K fdW ["row"] []) (gW : mg "without_content" = some (.ref fW))
    (FC : Fun K "content" "content" sCont fC fdC) (bC : Binds K fdC ["row"] []) (gC : mg "content" = some (.ref fC)) (gz : mg "zip" = none) : FnOk P w K mg base CX0 3 f fd ["row", "top", "column"] spCan := by
  have GW : FnOk P w K mg base CX0 2 fW fdW ["row"] spWc := ok_wc FW R FC bC gC
  refine F.ok scCan (fun vs H Q E h => ?_) (fun cdv A outer s H vs Q E hr h => ?_)
  · obtain ⟨p, t, ns, ts, c, b, rfl, _⟩ := h
    rfl
  · obtain ⟨p, t, ns, ts, c, b, rfl, hp, ht, hlt, hc, hl, h0, hb, hbt, hb8, q⟩ := h
    refine ⟨_, pss_cons (ps_if (pt_cmpR op_eq (pe_ix ix_list (pv 0) (pv 2) fun _ _ => rfl) pe_int (nomark _)) (pss_one (ps_ret (pv 0))) pss_nil)
      (pss_cons (ps_set (i := 3) scCan.nd rfl (Or.inl rfl) (pe_callBfun cr_gcd (by rfl) R.gcd (pa_cons (pe_ix ix_list (pv 0) (pv 2) fun _ _ => rfl) (pa_cons (pe_ix ix_list (pv 1) (pv 2) fun _ _ => rfl) pa_nil))))
      (pss_cons (ps_set (i := 4) scCan.nd rfl (Or.inr rfl) (pe_op op_fdivC (pe_ix ix_list (pv 1) (pv 2) fun _ _ => rfl) (pv 3)))
      (pss_cons (ps_set (i := 5) scCan.nd rfl (Or.inr rfl) (pe_op op_fdivC (pe_ix ix_list (pv 0) (pv 2) fun _ _ => rfl) (pv 3)))
      (pss_one (ps_ret (pe_call GW hr (by rfl) gW FW.kp bW .nil pass0 (pa_cons (pe_lc (own := [("n", 6), ("m", 7)]) (g := gTup K 2 (gCons (gName 6) (gCons (gName 7) gNil))) (tt := tYes) rfl scCan.nd (pi_zip (by rfl) gz (pa_cons (pv 0) (pa_cons (pv 1) pa_nil))) (blkOk_by (N := nCan) (sc := defScope sCan) (by decide +kernel))
          (fun _ _ _ _ _ => pg_tup (by rfl) (pgs_cons (pg_name (i := 6) scCan.nd rfl (Or.inl rfl)) (pgs_cons (pg_name (i := 7) scCan.nd rfl (Or.inl rfl)) pgs_nil))) (fun _ _ _ _ _ => pts_nil)
          (fun _ _ _ _ _ => pe_op op_sub (pe_op op_mulB (pv 4) (pv 6)) (pe_op op_mulB (pv 5) (pv 7)))) pa_nil))))))), ?_⟩
    obtain ⟨n, hn⟩ : ∃ n, ns[c]? = some n := ⟨_, List.getElem?_eq_getElem hc⟩
    obtain ⟨m, hm⟩ : ∃ m, ts[c]? = some m := ⟨_, List.getElem?_eq_getElem (by omega)⟩
    have en := getD_mem hn
    have em := getD_mem hm
    refine ⟨_, rfl, _, rfl, p, _, _, _, rfl, rfl, SqL.of hp, row_at hn, rfl, _, rfl, ite2 (fun c2 => ?_) (fun c2 => ?_)⟩
    · have hn0 : n = 0 := V.int.inj (of_decide_eq_true c2)
      refine ⟨_, rfl, q H p ns same_rfl (.inl rfl) hp rfl ⟨⟨1, 0, by grind, fun j => by grind⟩, ?_⟩ fun x hx => ?_⟩
      · unfold fr
        rw [en, hn0]
        rfl
      · have := hb x hx
        omega
    have hm0 : m ≠ 0 := by rw [← em]; exact h0
    have hg0 : 0 < Nat.gcd n.natAbs m.natAbs := Nat.gcd_pos_of_pos_right _ (by omega)
    have hgb : intBits ((Nat.gcd n.natAbs m.natAbs : Nat) : Int) ≤ b := PySem.intBits_le_of_natAbs (by show Nat.gcd _ _ ≤ m.natAbs; exact Nat.gcd_le_right _ (by omega)) (hbt m (List.mem_of_getElem? hm))
    refine ⟨_, rfl, _, rfl, p, _, _, _, rfl, rfl, SqL.of hp, row_at hn, _, rfl, _, rfl, t, _, _, _, rfl, rfl, SqL.of ht, row_at hm, _, _, rfl, ?_⟩
    generalize hG : ((Nat.gcd n.natAbs m.natAbs : Nat) : Int) = g at hgb
    have hgz : g ≠ 0 := by omega
    have dn : g ∣ n := by
      rw [← hG]
      exact Int.natAbs_dvd_natAbs.mp (Nat.gcd_dvd_left n.natAbs m.natAbs)
    have dm : g ∣ m := by
      rw [← hG]
      exact Int.natAbs_dvd_natAbs.mp (Nat.gcd_dvd_right n.natAbs m.natAbs)
    have ek : m = g * m.fdiv g := by
      obtain ⟨k, e⟩ := dm
      rw [fdiv_of_mul hgz (e.trans (Int.mul_comm _ _))]
      exact e
    have et : n = g * n.fdiv g := by
      obtain ⟨k, e⟩ := dn
      rw [fdiv_of_mul hgz (e.trans (Int.mul_comm _ _))]
      exact e
    have bk : intBits (m.fdiv g) ≤ b := PySem.intBits_fdiv_le (hbt m (List.mem_of_getElem? hm))
    have bt : intBits (n.fdiv g) ≤ b := PySem.intBits_fdiv_le (hb n (List.mem_of_getElem? hn))
    refine ⟨_, rfl, _, rfl, t, _, _, _, rfl, rfl, SqL.of ht, row_at hm, _, rfl, _, _, rfl, rfl, ⟨hgz, by omega⟩, ?_⟩
    refine ⟨_, rfl, _, rfl, p, _, _, _, rfl, rfl, SqL.of hp, row_at hn, _, rfl, _, _, rfl, rfl, ⟨hgz, by omega⟩, ?_⟩
    have two : ∀ j, intBits (m.fdiv g * ns.getD j 0 - n.fdiv g * ts.getD j 0) ≤ 2 * b + 1 := fun j => by
      have h1 := PySem.intBits_sub_le (PySem.intBits_mul_le bk (bt_get hb j)) (PySem.intBits_mul_le bt (bt_get hbt j))
      omega
    refine ⟨_, rfl, _, rfl, p, t, _, _, rfl, SqL.of hp, SqL.of ht, fun D hD => lc_it (walk_zip (K := K) (a := p) (b := t) (xs := ns.map V.int) (ys := ts.map V.int) (n := ns.length) (by rw [List.length_map, List.length_map, hlt, Nat.min_self]))
      (fun i H2 => Same H H2 ∧ RowAt H2 D (mixed (m.fdiv g) (n.fdiv g) ns ts i)) ⟨same_upd hD, upd_same⟩ (fun i H2 _ z => ⟨z.1.seq (SqL.of hp), z.1.seq (SqL.of ht)⟩) ?_ ?_⟩
    · rintro i x H2 H3 hi ⟨s2, hL⟩ ⟨T, a1, a2, rfl, hT, rfl, e1, e2⟩
      obtain ⟨x1, hx1⟩ : ∃ x1, ns[i]? = some x1 := ⟨_, List.getElem?_eq_getElem hi⟩
      obtain ⟨x2, hx2⟩ : ∃ x2, ts[i]? = some x2 := ⟨_, List.getElem?_eq_getElem (by omega)⟩
      have e1 : (ns.map V.int)[i]? = some a1 := e1
      have e2 : (ts.map V.int)[i]? = some a2 := e2
      rw [List.getElem?_map, hx1] at e1
      rw [List.getElem?_map, hx2] at e2
      cases e1
      cases e2
      have b1 := hb x1 (List.mem_of_getElem? hx1)
      have b2 := hbt x2 (List.mem_of_getElem? hx2)
      refine ⟨T, _, rfl, SqT.of upd_same, rfl, _, _, rfl, _, _, rfl, rfl, rfl, _, rfl, _, rfl, _, _, rfl, rfl, (by show intBits (m.fdiv g) + intBits x1 ≤ 134217728; omega), _, rfl, _, rfl, _, _, rfl, rfl, (by show intBits (n.fdiv g) + intBits x2 ≤ 134217728; omega), _, _, rfl, rfl, _, same_upd hT _ _ hL, ?_, fun b o e => ?_, ?_⟩
      · unfold mixed
        rw [List.length_map, List.length_map, List.length_range]
        exact Nat.lt_of_le_of_lt (Nat.le_of_lt (Nat.lt_of_lt_of_le hi hl)) (by decide)
      · have h5 := s2 _ _ e
        rw [upd_ne (ne_of_none e hD), upd_ne (ne_of_none h5 hT)]
        exact h5
      · unfold RowAt
        rw [upd_same, mixed_succ, List.map_append, getD_mem hx1, getD_mem hx2]
        rfl
    · rintro H2 ⟨s2, hL⟩
      refine ⟨D, _, 2 * b + 1, rfl, hL, fun x hx => ?_, hb8, ?_, fun H3 r ms s3 hrf hr hml ⟨s, hs1, hse⟩ hbm => ?_⟩
      · unfold mixed at hx
        obtain ⟨j, _, rfl⟩ := List.mem_map.mp hx
        exact two j
      · unfold mixed
        rw [List.length_map, List.length_range]
        exact hl
      · have hrn : H r = none := by
          rcases hrf with rfl | z
          · exact hD
          · cases e : H r with
            | none => rfl
            | some o => rw [s2 _ _ e] at z; cases z
        refine q H3 r ms (s2.trans s3) (.inr hrn) hr ?_ (canc_of (g := g) (keep := m.fdiv g) (take := n.fdiv g) hs1 (by rw [em]; exact ek) (by rw [en]; exact et) h0 fun j => ?_) hbm
        · rw [hml]
          unfold mixed
          rw [List.length_map, List.length_range]
        · rw [← mixed_getD hlt j]
          exact hse j
end
end Ind

set_option Elab.async false
set_option linter.all false
set_option maxRecDepth 100000
set_option maxHeartbeats 4000000
set_option exponentiation.threshold 9000
namespace Ind
open PySem PySem.Spec PyProof.Rows L2
open Builtin.Int (intBits)
/-- rows in the heap -/
def RowsAt (H : Hp) (ps : List Addr) (rs : List (List Int)) : Prop := Paired (fun p ns => RowAt H p ns) ps rs
theorem RowsAt.same {H H' : Hp} {ps : List Addr} {rs : List (List Int)} (x : RowsAt H ps rs) (s : Same H H') : RowsAt H' ps rs := by
  unfold RowsAt at x ⊢
  induction x with
  | nil => exact .nil
  | cons a _ ih => exact .cons (s _ _ a) ih
theorem RowsAt.snoc {H : Hp} : ∀ {ps : List Addr} {rs : List (List Int)} {p : Addr} {ns : List Int}, RowsAt H ps rs → RowAt H p ns → RowsAt H (ps ++ [p]) (rs ++ [ns])
  | _, _, _, _, .nil, h => .cons h .nil
  | _, _, _, _, .cons a t, h => .cons a (RowsAt.snoc t h)
theorem RowsAt.app {H : Hp} : ∀ {ps qs : List Addr} {rs ss : List (List Int)}, RowsAt H ps rs → RowsAt H qs ss → RowsAt H (ps ++ qs) (rs ++ ss)
  | _, _, _, _, .nil, h => h
  | _, _, _, _, .cons a t, h => .cons a (RowsAt.app t h)
theorem RowsAt.at {H : Hp} : ∀ {ps : List Addr} {rs : List (List Int)} {i : Nat} {p : Addr}, RowsAt H ps rs → ps[i]? = some p → ∃ ns, rs[i]? = some ns ∧ RowAt H p ns
  | _, _, 0, _, .cons a t, h => ⟨_, rfl, by
      have e := Option.some.inj h
      rw [← e]
      exact a⟩
  | _, _, i + 1, _, .cons a t, h => RowsAt.at (i := i) t h
  | _, _, _, _, .nil, h => by simp at h
theorem RowsAt.take {H : Hp} : ∀ {ps : List Addr} {rs : List (List Int)} (i : Nat), RowsAt H ps rs → RowsAt H (ps.take i) (rs.take i)
  | _, _, 0, _ => .nil
  | _, _, _ + 1, .nil => .nil
  | _, _, i + 1, .cons a t => .cons a (RowsAt.take i t)
theorem RowsAt.drop {H : Hp} : ∀ {ps : List Addr} {rs : List (List Int)} (i : Nat), RowsAt H ps rs → RowsAt H (ps.drop i) (rs.drop i)
  | _, _, 0, h => h
  | _, _, _ + 1, .nil => .nil
  | _, _, i + 1, .cons a t => RowsAt.drop i t
def spFwi : Sp := fun vs H Q _ => ∃ (q : Addr) (ps : List Addr) (rs : List (List Int)) (c : Nat), vs = [.ref q, .int (c : Int)] ∧ H q = some (.lst (ps.map V.ref)) ∧ RowsAt H ps rs ∧ (∀ r ∈ rs, c < r.length) ∧
  ∀ (H' : Hp) (k : Nat), Same H H' → (k ≤ rs.length) → (∀ j, j < k → (rs.getD j []).getD c 0 = 0) → (k < rs.length → (rs.getD k []).getD c 0 ≠ 0) → Q (.int (k : Int)) H'
section
variable {P : Program} {w : World} {K : PySem.W.Frag} {mg : Str → Option Value} {base : Heap} {C Z : Addr}
theorem scFwi : FnScope ["rows", "column", "at", "row"] ["rows", "column"] (defScope sFwi) := ⟨rfl, rfl, rfl, by decide +kernel, rfl, by decide +kernel, by decide +kernel⟩
theorem ok_fwi {f : Addr} {fd : FuncData} (F : Fun K "first_with_item" "first_with_item" sFwi f fd) (T : TxL K mg) (ge : mg "enumerate" = none) : FnOk P w K mg base CX0 1 f fd ["rows", "column"] spFwi := by
  refine F.ok scFwi (fun vs H Q E h => ?_) (fun cdv A outer s H vs Q E hr h => ?_)
  · obtain ⟨q, ps, rs, c, rfl, _⟩ := h
    rfl
  · obtain ⟨q, ps, rs, c, rfl, hq, hR, hc, k⟩ := h
    refine ⟨_, pss_cons (ps_for PassesOwn.never rfl (pi_enum (by rfl) ge (pa_cons (pv 0) pa_nil)) (pg_tup (by rfl) (pgs_cons (pg_name (i := 2) scFwi.nd rfl (Or.inl rfl)) (pgs_cons (pg_name (i := 3) scFwi.nd rfl (Or.inl rfl)) pgs_nil)))
        (pss_one (ps_if (pt_cmpR op_ne (pe_ix ix_list (pv 3) (pv 1) fun _ _ => rfl) pe_int (nomark _)) (pss_one (ps_ret (pv 2))) pss_nil)))
      (pss_one (ps_ret (pe_callB call_len_seq (by rfl) T.len PySem.boot_len (pa_cons (pv 0) pa_nil)))), ?_⟩
    have hlen : ps.length = rs.length := hR.length
    refine ⟨_, rfl, q, _, rfl, SqL.of hq, for_it (walk_enum (K := K) (a := q) (xs := ps.map V.ref)) (fun i σ H' => Same H H' ∧ (∃ v w : Option V, σ = [some (.ref q), some (.int (c : Int)), v, w]) ∧ ∀ j, j < i → (rs.getD j []).getD c 0 = 0)
      ⟨same_rfl, ⟨none, none, rfl⟩, fun j hj => by omega⟩ (fun i σ H' _ z => z.1.seq (SqL.of hq)) ?_ ?_⟩
    · rintro i x σ H' H2 hi ⟨s1, ⟨v, w, rfl⟩, hz⟩ ⟨T', a1, a2, rfl, hT, rfl, e1, e2⟩
      have e1 : some (V.int (i : Int)) = some a1 := e1
      have e2 : (ps.map V.ref)[i]? = some a2 := e2
      cases e1
      rw [List.getElem?_map] at e2
      obtain ⟨p, hp, rfl⟩ : ∃ p, ps[i]? = some p ∧ a2 = V.ref p := by
        cases e : ps[i]? with
        | none => rw [e] at e2; cases e2
        | some y => rw [e] at e2; exact ⟨y, rfl, (Option.some.inj e2).symm⟩
      obtain ⟨ns, hns, hra⟩ := hR.at hp
      obtain ⟨n, hn⟩ : ∃ n, ns[c]? = some n := ⟨_, List.getElem?_eq_getElem (hc ns (List.mem_of_getElem? hns))⟩
      have en : (rs.getD i []).getD c 0 = n := by
        have e3 : rs.getD i [] = ns := by
          rw [List.getD_eq_getElem?_getD, hns]
          rfl
        rw [e3]
        exact getD_mem hn
      have s2 : Same H (upd H' T' (.tup [.int (i : Int), .ref p])) := s1.trans (same_upd hT)
      refine ⟨T', _, rfl, SqT.of upd_same, rfl, _, _, rfl, _, _, rfl, rfl, ?_⟩
      refine ⟨_, rfl, _, rfl, p, _, _, _, rfl, rfl, SqL.of (s2 _ _ hra), row_at hn, rfl, _, rfl, ite2 (fun c2 => ?_) (fun c2 => ?_)⟩
      · have hn0 : n ≠ 0 := fun e => by
          rw [e] at c2
          simp at c2
        have hir : i < rs.length := by
          have := (List.getElem?_eq_some_iff.mp hns).1
          exact this
        exact ⟨_, rfl, k _ i s2 (Nat.le_of_lt hir) hz fun _ => by rw [en]; exact hn0⟩
      · have hn0 : n = 0 := by
          have z : ¬ ¬ (V.int n = V.int 0) := by simpa using c2
          exact V.int.inj (Classical.not_not.mp z)
        refine ⟨s2, ⟨_, _, rfl⟩, fun j hj => ?_⟩
        by_cases e : j = i
        · subst e
          rw [en]
          exact hn0
        · exact hz j (by omega)
    · rintro σ H' ⟨s1, ⟨v, w, rfl⟩, hz⟩
      rw [List.length_map] at hz
      refine ⟨_, rfl, q, _, rfl, .inl (s1.seq (SqL.of hq)), ?_⟩
      rw [List.length_map]
      exact k H' ps.length s1 (by omega) hz fun z => by omega
end
end Ind

set_option Elab.async false
set_option linter.all false
set_option maxRecDepth 100000
set_option maxHeartbeats 4000000
set_option exponentiation.threshold 9000
namespace Ind
open PySem PySem.Spec PyProof.Rows L2
open Builtin.Int (intBits)
abbrev nEl : List Str := ["rows", "width", "rest", "chosen", "pivots", "column", "at", "top", "row"]
/-- the size of an item behind k steps -/
def grow (b k : Nat) : Nat := (b + 1) * 2 ^ k - 1
theorem grow_zero (b : Nat) : grow b 0 = b := by
  unfold grow
  omega
theorem grow_succ (b k : Nat) : 2 * grow b k + 1 = grow b (k + 1) := by
  unfold grow
  have : 0 < (b + 1) * 2 ^ k := Nat.mul_pos (by omega) (Nat.pow_pos (by decide))
  rw [Nat.pow_succ]
  have e : (b + 1) * (2 ^ k * 2) = 2 * ((b + 1) * 2 ^ k) := by ac_rfl
  omega
theorem grow_mono (b : Nat) {j k : Nat} (h : j ≤ k) : grow b j ≤ grow b k := by
  unfold grow
  have : (b + 1) * 2 ^ j ≤ (b + 1) * 2 ^ k := Nat.mul_le_mul_left _ (Nat.pow_le_pow_right (by decide) h)
  omega
theorem Paired.snocP {α β : Type} {F : α → β → Prop} : ∀ {xs : List α} {ys : List β} {x : α} {y : β}, Paired F xs ys → F x y → Paired F (xs ++ [x]) (ys ++ [y])
  | _, _, _, _, .nil, h => .cons h .nil
  | _, _, _, _, .cons r t, h => .cons r (Paired.snocP t h)
/-- comprehension over rows: what stands behind i turns -/
structure Map (src : List Addr) (H H2 : Hp) (D : Addr) (R : List Int → List Int → Prop) (rs : List (List Int)) (i : Nat) (ms : List (List Int)) : Prop where
  s : Same H H2
  at_ : ∃ qs : List Addr, H2 D = some (.lst (qs.map V.ref)) ∧ RowsAt H2 qs ms ∧ ∀ a ∈ qs, a ≠ D ∧ (a ∈ src ∨ H a = none)
  rel : Paired R (rs.take i) ms
theorem Map.start {src : List Addr} {H : Hp} {D : Addr} {R : List Int → List Int → Prop} {rs : List (List Int)} (h : H D = none) : Map src H (upd H D (.lst [])) D R rs 0 [] := ⟨same_upd h, ⟨[], upd_same, .nil, by simp⟩, .nil⟩
theorem Map.step {src : List Addr} {H H2 H3 : Hp} {D r p : Addr} {R : List Int → List Int → Prop} {rs ms : List (List Int)} {i : Nat} {ns m : List Int} (x : Map src H H2 D R rs i ms) (hps : p ∈ src) (hD : H D = none) (s : Same H2 H3) (hn : rs[i]? = some ns) (hr : RowAt H3 r m) (hp : RowAt H p ns) (hf : r = p ∨ H2 r = none) (hR : R ns m) :
    ∃ acc, H3 D = some (.lst acc) ∧ acc.length = ms.length ∧ Map src H (upd H3 D (.lst (acc ++ [V.ref r]))) D R rs (i + 1) (ms ++ [m]) := by
  obtain ⟨qs, h1, h2, h4⟩ := x.at_
  have hrD : r ≠ D := by
    rcases hf with rfl | z
    · exact ne_of_none hp hD
    · intro e
      rw [e, h1] at z
      cases z
  have hqD : ∀ {as : List Addr} {bs : List (List Int)}, RowsAt H3 as bs → (∀ a ∈ as, a ≠ D) → RowsAt (upd H3 D (.lst (qs.map V.ref ++ [V.ref r]))) as bs := fun {as bs} h => by
    unfold RowsAt at h ⊢
    induction h with
    | nil => intro _; exact .nil
    | cons a _ ih =>
      intro hne
      refine .cons ?_ (ih fun b hb => hne b (List.mem_cons_of_mem _ hb))
      unfold RowAt
      rw [upd_ne (hne _ (by simp))]
      exact a
  refine ⟨qs.map V.ref, s _ _ h1, ?_, fun b o e => ?_, ⟨qs ++ [r], ?_, ?_, fun a ha => ?_⟩, ?_⟩
  · rw [List.length_map]
    exact h2.length
  · rw [upd_ne (ne_of_none e hD)]
    exact s _ _ (x.s b o e)
  · rw [upd_same, List.map_append]
    rfl
  · refine RowsAt.snoc (hqD (h2.same s) fun a ha => (h4 a ha).1) ?_
    unfold RowAt
    rw [upd_ne hrD]
    exact hr
  · rcases List.mem_append.mp ha with z | z
    · exact h4 a z
    · rw [List.mem_singleton.mp z]
      refine ⟨hrD, ?_⟩
      rcases hf with rfl | y
      · exact .inl hps
      · refine .inr ?_
        cases e : H r with
        | none => rfl
        | some o => rw [x.s _ _ e] at y; cases y
  · rw [List.take_add_one, hn]
    exact Paired.snocP x.rel hR
/-- a row over its content -/
def RWc (b : Nat) (ns m : List Int) : Prop := m.length = ns.length ∧ (∃ s : Int, 1 ≤ s ∧ ∀ j, ns.getD j 0 = s * m.getD j 0) ∧ Bt b m
def spElim : Sp := fun vs H Q _ => ∃ (q : Addr) (ps : List Addr) (rs : List (List Int)) (w b : Nat), vs = [.ref q, .int (w : Int)] ∧ H q = some (.lst (ps.map V.ref)) ∧ RowsAt H ps rs ∧ (∀ r ∈ rs, r.length = w) ∧ w ≤ 50 ∧ rs.length ≤ 20 ∧ (∀ r ∈ rs, Bt b r) ∧ grow b rs.length ≤ 8000 ∧
  ∀ (H' : Hp) (t qc qp : Addr) (pc : List Addr) (cs T : List (List Int)) (pv : List Nat), Same H H' → H' t = some (.tup [.ref qc, .ref qp]) → H' qc = some (.lst (pc.map V.ref)) → RowsAt H' pc cs → H' qp = some (.lst (pv.map fun k : Nat => V.int (k : Int))) → pv.length = cs.length → cs.length ≤ rs.length →
    (∀ r ∈ cs, r.length = w ∧ Bt (grow b rs.length) r) → Elim w w (rs.map fr) (pv.zip (cs.map fr)) (T.map fr) → Q (.ref t) H'
section
variable {P : Program} {w : World} {K : PySem.W.Frag} {mg : Str → Option Value} {base : Heap} {C Z : Addr}
theorem scEl : FnScope nEl ["rows", "width"] (defScope sElim) := ⟨rfl, rfl, rfl, by decide +kernel, rfl, by decide +kernel, by decide +kernel⟩
end
end Ind

set_option Elab.async false
set_option linter.all false
set_option maxRecDepth 100000
set_option maxHeartbeats 4000000
set_option exponentiation.threshold 9000
namespace Ind
open PySem PySem.Spec PyProof.Rows L2
open Builtin.Int (intBits)
theorem Paired.lf {α β : Type} {F : α → β → Prop} : ∀ {xs : List α} {ys : List β}, Paired F xs ys → ∀ x ∈ xs, ∃ y ∈ ys, F x y
  | _, _, .cons r t, x, hx => by
    rcases List.mem_cons.mp hx with rfl | h
    · exact ⟨_, by simp, r⟩
    · obtain ⟨y, hy, z⟩ := Paired.lf t x h
      exact ⟨y, List.mem_cons_of_mem _ hy, z⟩
theorem Paired.rt {α β : Type} {F : α → β → Prop} : ∀ {xs : List α} {ys : List β}, Paired F xs ys → ∀ y ∈ ys, ∃ x ∈ xs, F x y
  | _, _, .cons r t, y, hy => by
    rcases List.mem_cons.mp hy with rfl | h
    · exact ⟨_, by simp, r⟩
    · obtain ⟨x, hx, z⟩ := Paired.rt t y h
      exact ⟨x, List.mem_cons_of_mem _ hx, z⟩
/-- a row cancelled -/
def RCan (c b w : Nat) (ts ns m : List Int) : Prop := m.length = w ∧ Canc c (fr ts) (fr ns) (fr m) ∧ Bt b m
theorem zip_canc {c b w : Nat} {ts : List Int} {cs ds : List (List Int)} : ∀ {pv : List Nat}, Paired (RCan c b w ts) cs ds → pv.length = cs.length →
    (∀ y ∈ pv.zip (ds.map fr), ∃ x ∈ pv.zip (cs.map fr), y.1 = x.1 ∧ Canc c (fr ts) x.2 y.2) ∧ (∀ x ∈ pv.zip (cs.map fr), ∃ y ∈ pv.zip (ds.map fr), y.1 = x.1 ∧ Canc c (fr ts) x.2 y.2) ∧ (pv.zip (ds.map fr)).map (·.1) = (pv.zip (cs.map fr)).map (·.1) := by
  intro pv h
  induction h generalizing pv with
  | nil =>
    intro e
    cases pv with
    | nil => exact ⟨by simp, by simp, rfl⟩
    | cons a l => cases e
  | @cons x y xs ys r t ih =>
    intro e
    cases pv with
    | nil => cases e
    | cons a l =>
      obtain ⟨i1, i2, i3⟩ := ih (pv := l) (by simpa using e)
      refine ⟨fun z hz => ?_, fun z hz => ?_, ?_⟩
      · rcases List.mem_cons.mp (show z ∈ (a, fr y) :: l.zip (ys.map fr) from hz) with rfl | hz
        · exact ⟨(a, fr x), List.mem_cons_self, rfl, r.2.1⟩
        · obtain ⟨u, hu, e1⟩ := i1 z hz
          exact ⟨u, List.mem_cons_of_mem _ hu, e1⟩
      · rcases List.mem_cons.mp (show z ∈ (a, fr x) :: l.zip (xs.map fr) from hz) with rfl | hz
        · exact ⟨(a, fr y), List.mem_cons_self, rfl, r.2.1⟩
        · obtain ⟨u, hu, e1⟩ := i2 z hz
          exact ⟨u, List.mem_cons_of_mem _ hu, e1⟩
      · show a :: (l.zip (ys.map fr)).map (·.1) = a :: (l.zip (xs.map fr)).map (·.1)
        rw [i3]
theorem el_start {b : Nat} {w : Nat} {rs ms : List (List Int)} (h : Paired (RWc b) rs ms) : Elim w 0 (rs.map fr) [] (ms.map fr) := by
  have sc : ∀ {ns m : List Int}, RWc b ns m → Scal (fr ns) (fr m) := fun {ns m} hr => by
    obtain ⟨_, ⟨s, hs, e⟩, _⟩ := hr
    have hs0 : ((s : Int) : Rat) ≠ 0 := fun z => by
      have : s = 0 := by exact_mod_cast z
      omega
    refine ⟨1 / ((s : Int) : Rat), by grind, fun j => ?_⟩
    have : fr ns j = ((s : Int) : Rat) * fr m j := by
      unfold fr
      rw [e j, Rat.intCast_mul]
    grind
  refine Elim.start (fun g hg => ?_) (fun t ht => ?_)
  · obtain ⟨ns, hn, rfl⟩ := List.mem_map.mp hg
    obtain ⟨m, hm, z⟩ := Paired.lf h ns hn
    exact ⟨fr m, List.mem_map_of_mem hm, sc z⟩
  · obtain ⟨m, hm, rfl⟩ := List.mem_map.mp ht
    obtain ⟨ns, hn, z⟩ := Paired.rt h m hm
    exact ⟨fr ns, List.mem_map_of_mem hn, sc z⟩
/-- one step over rows of ints: the rows but the one at k are cancelled, it goes behind the chosen ones -/
theorem el_step {w c b k : Nat} {rs T T2 cs ds : List (List Int)} {pv : List Nat} {ts : List Int} (h : Elim w c (rs.map fr) (pv.zip (cs.map fr)) (T.map fr)) (hl : pv.length = cs.length) (hk : T[k]? = some ts) (h0 : ts.getD c 0 ≠ 0)
    (h1 : Paired (RCan c b w ts) (T.take k ++ T.drop (k + 1)) T2) (h2 : Paired (RCan c b w ts) cs ds) : Elim w (c + 1) (rs.map fr) ((pv ++ [c]).zip ((ds ++ [ts]).map fr)) (T2.map fr) := by
  obtain ⟨z1, z2, z3⟩ := zip_canc (pv := pv) h2 hl
  have hz : (pv ++ [c]).zip ((ds ++ [ts]).map fr) = pv.zip (ds.map fr) ++ [(c, fr ts)] := by
    rw [List.map_append, List.zip_append (by rw [List.length_map, ← h2.length, hl])]
    rfl
  have hsplit : ∀ t ∈ T, t = ts ∨ t ∈ T.take k ++ T.drop (k + 1) := fun t ht => by
    have e : T = T.take k ++ ts :: T.drop (k + 1) := by
      have hk2 := (List.getElem?_eq_some_iff.mp hk).1
      have e2 := (List.getElem?_eq_some_iff.mp hk).2
      rw [← e2, ← List.drop_eq_getElem_cons hk2, List.take_append_drop]
    rw [e] at ht
    rcases List.mem_append.mp ht with q | q
    · exact .inr (List.mem_append_left _ q)
    · rcases List.mem_cons.mp q with q | q
      · exact .inl q
      · exact .inr (List.mem_append_right _ q)
  rw [hz]
  refine Elim.step h (List.mem_map_of_mem (List.mem_of_getElem? hk)) (fun z => h0 ?_) z1 z2 z3 (fun s hs => ?_) (fun t ht => ?_)
  · have z : ((ts.getD c 0 : Int) : Rat) = 0 := z
    exact_mod_cast z
  · obtain ⟨m, hm, rfl⟩ := List.mem_map.mp hs
    obtain ⟨ns, hn, _, e, _⟩ := Paired.rt h1 m hm
    refine ⟨fr ns, List.mem_map_of_mem ?_, e⟩
    rcases List.mem_append.mp hn with q | q
    · exact List.mem_of_mem_take q
    · exact List.mem_of_mem_drop q
  · obtain ⟨ns, hn, rfl⟩ := List.mem_map.mp ht
    rcases hsplit ns hn with rfl | q
    · exact .inl rfl
    · obtain ⟨m, hm, _, e, _⟩ := Paired.lf h1 ns q
      exact .inr ⟨fr m, List.mem_map_of_mem hm, e⟩
theorem cut_to (as : List V) (k : Nat) : cutV as none (some (k : Int)) = as.take k := by
  unfold cutV
  rw [HT.sIx_none, HT.sIx_nat, List.drop_zero, Nat.sub_zero]
  by_cases h : k ≤ as.length
  · rw [Nat.min_eq_left h]
  · rw [Nat.min_eq_right (by omega), List.take_of_length_le (Nat.le_refl _), List.take_of_length_le (by omega)]
theorem cut_from (as : List V) (k : Nat) : cutV as (some (k : Int)) none = as.drop k := by
  unfold cutV
  rw [HT.sIx_none, HT.sIx_nat]
  by_cases h : k ≤ as.length
  · rw [Nat.min_eq_left h]
    exact List.take_of_length_le (by rw [List.length_drop]; exact Nat.le_refl _)
  · rw [Nat.min_eq_right (by omega), Nat.sub_self, List.take_zero, List.drop_eq_nil_of_le (by omega)]
end Ind

set_option Elab.async false
set_option linter.all false
set_option maxRecDepth 100000
set_option maxHeartbeats 4000000
set_option exponentiation.threshold 9000
namespace Ind
open PySem PySem.Spec PyProof.Rows L2
open Builtin.Int (intBits)
/-- behind each column -/
structure ElSt (H H' : Hp) (rs : List (List Int)) (w b i : Nat) (qt qc qp : Addr) (pt pc : List Addr) (T cs : List (List Int)) (pv : List Nat) : Prop where
  s : Same H H'
  nqp : H qp = none
  ht : H' qt = some (.lst (pt.map V.ref))
  rt : RowsAt H' pt T
  hc : H' qc = some (.lst (pc.map V.ref))
  rc : RowsAt H' pc cs
  hp : H' qp = some (.lst (pv.map fun k : Nat => V.int (k : Int)))
  ne : qt ≠ qp ∧ qc ≠ qp ∧ ∀ a ∈ pt ++ pc, a ≠ qp
  len : pv.length = cs.length ∧ cs.length + T.length = rs.length
  it : ∀ r ∈ cs ++ T, r.length = w ∧ Bt (grow b cs.length) r
  el : Elim w i (rs.map fr) (pv.zip (cs.map fr)) (T.map fr)
theorem ElSt.same {H H' H2 : Hp} {rs : List (List Int)} {w b i : Nat} {qt qc qp : Addr} {pt pc : List Addr} {T cs : List (List Int)} {pv : List Nat} (x : ElSt H H' rs w b i qt qc qp pt pc T cs pv) (s : Same H' H2) : ElSt H H2 rs w b i qt qc qp pt pc T cs pv :=
  ⟨x.s.trans s, x.nqp, s _ _ x.ht, x.rt.same s, s _ _ x.hc, x.rc.same s, s _ _ x.hp, x.ne, x.len, x.it, x.el⟩
theorem RowsAt.updN {H : Hp} {D : Addr} {o : HO} {ps : List Addr} {rs : List (List Int)} (h : RowsAt H ps rs) (hn : ∀ a ∈ ps, a ≠ D) : RowsAt (upd H D o) ps rs := by
  unfold RowsAt at h ⊢
  induction h with
  | nil => exact .nil
  | cons a _ ih =>
    refine .cons ?_ (ih fun b hb => hn b (List.mem_cons_of_mem _ hb))
    unfold RowAt
    rw [upd_ne (hn _ (by simp))]
    exact a
section
variable {P : Program} {w : World} {K : PySem.W.Frag} {mg : Str → Option Value} {base : Heap} {C Z : Addr}
theorem el_rest {w i : Nat} {G : List Fr} {L : List (Nat × Fr)} (h : i ≤ w) (e : Elim w i G L (([] : List (List Int)).map fr)) : Elim w w G L (([] : List (List Int)).map fr) := by
  obtain ⟨d, hd⟩ : ∃ d, w = i + d := ⟨w - i, by omega⟩
  have key : ∀ d, Elim w (i + d) G L (([] : List (List Int)).map fr) := fun d => by
    induction d with
    | zero => exact e
    | succ d ih => exact ih.skip fun t ht => by cases ht
  have := key d
  rwa [← hd] at this
theorem ok_elim {f fW fC fN fX : Addr} {fd fdW fdC fdN fdX : FuncData} (F : Fun K "eliminated" "eliminated" sElim f fd) (T : TxL K mg) (R : TxR K mg C Z) (FW : Fun K "without_content" "without_content" sWc fW fdW) (bW : Binds K fdW ["row"] []) (gW : mg "without_content" = some (.ref fW))
    (FC : Fun K "content" "content" sCont fC fdC) (bC : Binds K fdC ["row"] []) (gC : mg "content" = some (.ref fC)) (gz : mg "zip" = none) (ge : mg "enumerate" = none)
    (FX : Fun K "cancelled" "cancelled" sCan fX fdX) (bX : Binds K fdX ["row", "top", "column"] []) (gX : mg "cancelled" = some (.ref fX)) (FN : Fun K "first_with_item" "first_with_item" sFwi fN fdN) (bN : Binds K fdN ["rows", "column"] []) (gN : mg "first_with_item" = some (.ref fN)) :
    FnOk P w K mg base CX0 4 f fd ["rows", "width"] spElim := by
  have GW : FnOk P w K mg base CX0 2 fW fdW ["row"] spWc := ok_wc FW R FC bC gC
  have GX : FnOk P w K mg base CX0 3 fX fdX ["row", "top", "column"] spCan := ok_can FX R FW bW gW FC bC gC gz
  have GN : FnOk P w K mg base CX0 1 fN fdN ["rows", "column"] spFwi := ok_fwi FN T ge
  refine F.ok scEl (fun vs H Q E h => ?_) (fun cdv A outer s H vs Q E hr h => ?_)
  · obtain ⟨q, ps, rs, w, b, rfl, _⟩ := h
    rfl
  · obtain ⟨q, ps, rs, w, b, rfl, hq, hR, hw, hw5, hrl, hb, hb8, k⟩ := h
    have h1 := hr.mono (show 1 ≤ 3 by decide)
    have h2 := hr.mono (show 2 ≤ 3 by decide)
    refine ⟨_, pss_cons (ps_setLc (i := 2) (own := [("row", 8)]) (g := gName 8) (tt := tYes) rfl scEl.nd rfl rfl rfl (pi_list (pv 0)) (blkOk_by (N := nEl) (sc := defScope sElim) (by decide +kernel))
          (fun _ _ _ _ _ => pg_name (i := 8) scEl.nd rfl (Or.inl rfl)) (fun _ _ _ _ _ => pts_nil) (fun _ _ _ _ _ => pe_call GW h2 (by rfl) gW FW.kp bW .nil pass0 (pa_cons (pv 8) pa_nil)))
      (pss_cons (ps_set (i := 3) scEl.nd rfl (Or.inl rfl) (pe_lst pa_nil))
      (pss_cons (ps_set (i := 4) scEl.nd rfl (Or.inl rfl) (pe_lst pa_nil))
      (pss_cons (ps_for PassesOwn.never rfl (pi_range1 (by rfl) T.range (pa_cons (pv 1) pa_nil)) (pg_name (i := 5) scEl.nd rfl (Or.inr rfl))
        (pss_cons (ps_if (pt_cmpR op_eq (pe_callB call_len_seq (by rfl) T.len PySem.boot_len (pa_cons (pv 2) pa_nil)) pe_int (nomark _)) (pss_one ps_break) pss_nil)
        (pss_cons (ps_set (i := 6) scEl.nd rfl (Or.inl rfl) (pe_call GN h1 (by rfl) gN FN.kp bN .nil pass0 (pa_cons (pv 2) (pa_cons (pv 5) pa_nil))))
        (pss_one (ps_if (pt_cmpR op_lt (pv 6) (pe_callB call_len_seq (by rfl) T.len PySem.boot_len (pa_cons (pv 2) pa_nil)) (nomark _))
          (pss_cons (ps_set (i := 7) scEl.nd rfl (Or.inr rfl) (pe_ix ix_list (pv 2) (pv 6) fun _ _ => rfl))
          (pss_cons (ps_setLc (i := 2) (own := [("row", 8)]) (g := gName 8) (tt := tYes) rfl scEl.nd rfl rfl rfl (pi_list (pe_op op_cat (pe_slice sl_list (pv 2) po_none (po_some (pv 6))) (pe_slice sl_list (pv 2) (po_some (pe_op op_add (pv 6) pe_int)) po_none))) (blkOk_by (N := nEl) (sc := defScope sElim) (by decide +kernel))
              (fun _ _ _ _ _ => pg_name (i := 8) scEl.nd rfl (Or.inl rfl)) (fun _ _ _ _ _ => pts_nil) (fun _ _ _ _ _ => pe_call GX hr (by rfl) gX FX.kp bX .nil pass0 (pa_cons (pv 8) (pa_cons (pv 7) (pa_cons (pv 5) pa_nil)))))
          (pss_cons (ps_set (i := 3) scEl.nd rfl (Or.inl rfl) (pe_op op_cat (pe_lc (own := [("row", 8)]) (g := gName 8) (tt := tYes) rfl scEl.nd (pi_list (pv 3)) (blkOk_by (N := nEl) (sc := defScope sElim) (by decide +kernel))
              (fun _ _ _ _ _ => pg_name (i := 8) scEl.nd rfl (Or.inl rfl)) (fun _ _ _ _ _ => pts_nil) (fun _ _ _ _ _ => pe_call GX hr (by rfl) gX FX.kp bX .nil pass0 (pa_cons (pv 8) (pa_cons (pv 7) (pa_cons (pv 5) pa_nil))))) (pe_lst (pa_cons (pv 7) pa_nil))))
          (pss_one (ps_expr (pe_bm PySem.F.plainAttrs_list PySem.F.slot_list_append PySem.F.type_list_append mt_append (pv 4) (pa_cons (pv 5) pa_nil)))))))
          pss_nil)))))
      (pss_one (ps_ret (pe_tup (pa_cons (pv 3) (pa_cons (pv 4) pa_nil)))))))), ?_⟩
    have hbl : b ≤ 8000 := by
      have := grow_mono b (Nat.zero_le rs.length)
      rw [grow_zero] at this
      omega
    have item : ∀ {as : List Addr} {i : Nat} {x : V}, (as.map V.ref)[i]? = some x → ∃ p, as[i]? = some p ∧ x = V.ref p := fun {as i x} hx => by
      rw [List.getElem?_map] at hx
      cases e : as[i]? with
      | none => rw [e] at hx; cases hx
      | some y => rw [e] at hx; exact ⟨y, rfl, (Option.some.inj hx).symm⟩
    refine ⟨_, rfl, q, rfl, ⟨_, SqL.of hq⟩, fun D hD => lc_list (K := K) (a := q) (xs := ps.map V.ref) (fun i H2 => ∃ ms, Map ps H H2 D (RWc b) rs i ms) ⟨[], Map.start hD⟩ (fun i H2 _ ⟨_, z⟩ => z.s.seq (SqL.of hq)) ?_ ?_⟩
    · rintro i x H2 hx ⟨ms, M⟩
      obtain ⟨p, hp, rfl⟩ := item hx
      obtain ⟨ns, hns, hra⟩ := hR.at hp
      have hmem := List.mem_of_getElem? hns
      refine ⟨rfl, _, rfl, p, ns, b, rfl, M.s _ _ hra, hb ns hmem, hbl, by rw [hw ns hmem]; omega, fun H3 r m s3 hf hr3 hml hsc hbm => ?_⟩
      obtain ⟨acc, ha, hal, M2⟩ := M.step (List.mem_of_getElem? hp) hD s3 hns hr3 hra hf ⟨hml, hsc, hbm⟩
      refine ⟨acc, ha, ?_, _, M2⟩
      have h5 := M.rel.length
      rw [List.length_take] at h5
      rw [hal]
      exact Nat.lt_of_le_of_lt (show ms.length ≤ 20 by omega) (by decide)
    rintro H2 ⟨ms, M⟩
    have hrel : Paired (RWc b) rs ms := by
      have := M.rel
      rw [List.length_map, hR.length, List.take_length] at this
      exact this
    obtain ⟨qs, hqs, hQs, _⟩ := M.at_
    have hit : ∀ m ∈ ms, m.length = w ∧ Bt b m := fun m hm => by
      obtain ⟨ns, hns, e1, _, e3⟩ := Paired.rt hrel m hm
      exact ⟨e1.trans (hw ns hns), e3⟩
    refine ⟨Nat.zero_le _, fun qc hqc => ⟨Nat.zero_le _, fun qp hqp => ?_⟩⟩
    have sA : Same H2 (upd (upd H2 qc (.lst [])) qp (.lst [])) := (same_upd hqc).trans (same_upd hqp)
    have hqp2 : H2 qp = none := by
      cases e : H2 qp with
      | none => rfl
      | some o => rw [same_upd hqc _ _ e] at hqp; cases hqp
    have hqpH : H qp = none := by
      cases e : H qp with
      | none => rfl
      | some o => rw [M.s _ _ e] at hqp2; cases hqp2
    have S0 : ElSt H (upd (upd H2 qc (.lst [])) qp (.lst [])) rs w b 0 D qc qp qs [] ms [] [] := by
      refine ⟨M.s.trans sA, hqpH, sA _ _ hqs, hQs.same sA, same_upd hqp _ _ upd_same, .nil, upd_same, ⟨?_, ?_, fun a ha => ?_⟩, ⟨rfl, ?_⟩, fun r hr => ?_, el_start hrel⟩
      · intro e
        rw [e, hqp2] at hqs
        cases hqs
      · exact ne_of_none (o := .lst []) upd_same hqp
      · have ha : a ∈ qs := by simpa using ha
        obtain ⟨j, hj, e⟩ := List.getElem_of_mem ha
        obtain ⟨ns, _, hra⟩ := hQs.at (i := j) (p := a) (by rw [List.getElem?_eq_getElem hj, e])
        exact ne_of_none hra hqp2
      · rw [← hrel.length]
        simp
      · rw [show ([] : List (List Int)).length = 0 from rfl, grow_zero]
        exact hit r (by simpa using hr)
    refine ⟨_, rfl, (w : Int), rfl, by omega, by omega, for_range (lo := 0) (n := w) (fun i σ H' => ∃ (qt qc' : Addr) (pt pc : List Addr) (T cs : List (List Int)) (pv : List Nat) (v5 v6 v7 : Option V), σ = [some (.ref q), some (.int (w : Int)), some (.ref qt), some (.ref qc'), some (.ref qp), v5, v6, v7, none] ∧ ElSt H H' rs w b i qt qc' qp pt pc T cs pv)
      ⟨D, qc, qs, [], ms, [], [], none, none, none, rfl, S0⟩ ?_ ?_⟩
    · rintro i σ H' hi ⟨qt, qc', pt, pc, T, cs, pv, v5, v6, v7, rfl, S⟩
      rw [Int.zero_add]
      refine ⟨_, rfl, qt, _, rfl, .inl (SqL.of S.ht), rfl, _, rfl, ite2 (fun c0 => ?_) (fun _ => ?_)⟩
      · -- no row is left
        have hl0 : T.length = 0 := by
          have h1 := V.int.inj (of_decide_eq_true c0)
          rw [List.length_map, S.rt.length] at h1
          omega
        have eT : T = [] := List.length_eq_zero_iff.mp hl0
        subst eT
        refine ⟨_, rfl, _, rfl, by show 2 ≤ sizeLine; decide, fun t ht => ?_⟩
        have S2 := S.same (same_upd (o := .tup [.ref qc', .ref qp]) ht)
        refine k _ t qc' qp pc cs [] pv S2.s upd_same S2.hc S2.rc S2.hp S.len.1 (by have := S.len.2; omega) (fun r hr => ?_) (el_rest (Nat.le_of_lt hi) S.el)
        have h5 := S.it r (List.mem_append_left _ hr)
        exact ⟨h5.1, fun n hn => Nat.le_trans (h5.2 n hn) (grow_mono b (by have := S.len.2; omega))⟩
      refine ⟨_, rfl, _, rfl, qt, pt, T, i, rfl, S.ht, S.rt, fun r hr => by rw [(S.it r (List.mem_append_right _ hr)).1]; exact hi, fun H3 kk s3 hk hz hnz => ?_⟩
      have S3 := S.same s3
      have hptT : pt.length = T.length := S3.rt.length
      refine ⟨_, rfl, _, rfl, qt, _, rfl, .inl (SqL.of S3.ht), _, _, rfl, rfl, _, rfl, ite2 (fun c => ?_) (fun c => ?_)⟩
      · have hkT : kk < T.length := by
          have := of_decide_eq_true c
          rw [List.length_map] at this
          omega
        obtain ⟨pk, hpk⟩ : ∃ pk, pt[kk]? = some pk := ⟨_, List.getElem?_eq_getElem (by omega)⟩
        obtain ⟨ts, hts, hRk⟩ := S3.rt.at hpk
        have h0 : ts.getD i 0 ≠ 0 := by
          have := hnz hkT
          have e : T.getD kk [] = ts := by
            rw [List.getD_eq_getElem?_getD, hts]
            rfl
          rw [e] at this
          exact this
        have hts2 := S3.it ts (List.mem_append_right _ (List.mem_of_getElem? hts))
        have hgr : 2 * grow b cs.length + 1 ≤ 8000 := by
          rw [grow_succ]
          exact Nat.le_trans (grow_mono b (by have := S3.len.2; omega)) hb8
        refine ⟨_, rfl, _, rfl, qt, _, _, _, rfl, rfl, SqL.of S3.ht, atI_of (x := V.ref pk) (by rw [List.getElem?_map, hpk]; rfl), ?_⟩
        refine ⟨_, rfl, _, rfl, _, rfl, qt, _, rfl, SqL.of S3.ht, fun p1 hp1 => ?_⟩
        rw [cut_to]
        refine ⟨_, rfl, _, rfl, _, _, rfl, rfl, _, rfl, qt, _, rfl, SqL.of (same_upd hp1 _ _ S3.ht), fun p2 hp2 => ?_⟩
        rw [show (kk : Int) + 1 = ((kk + 1 : Nat) : Int) by omega, cut_from]
        refine ⟨p1, p2, _, _, rfl, rfl, same_upd hp2 _ _ upd_same, upd_same, ?_, fun p3 hp3 => ?_⟩
        · rw [List.length_take, List.length_drop, List.length_map]
          exact Nat.le_trans (show _ ≤ 100 by have := S3.len.2; omega) (by decide)
        have S4 := ((S3.same (same_upd hp1)).same (same_upd hp2)).same (same_upd (o := .lst ((pt.map V.ref).take kk ++ (pt.map V.ref).drop (kk + 1))) hp3)
        have hxs : (pt.map V.ref).take kk ++ (pt.map V.ref).drop (kk + 1) = (pt.take kk ++ pt.drop (kk + 1)).map V.ref := by rw [List.map_append, List.map_take, List.map_drop]
        have hRk4 := ((same_upd hp1).trans ((same_upd hp2).trans (same_upd (o := .lst ((pt.map V.ref).take kk ++ (pt.map V.ref).drop (kk + 1))) hp3))) _ _ hRk
        have h3 : (upd (upd (upd H3 p1 (.lst ((pt.map V.ref).take kk))) p2 (.lst ((pt.map V.ref).drop (kk + 1)))) p3 (.lst ((pt.map V.ref).take kk ++ (pt.map V.ref).drop (kk + 1)))) p3 = some (.lst ((pt.take kk ++ pt.drop (kk + 1)).map V.ref)) := by
          rw [upd_same, hxs]
        generalize (upd (upd (upd H3 p1 (.lst ((pt.map V.ref).take kk))) p2 (.lst ((pt.map V.ref).drop (kk + 1)))) p3 (.lst ((pt.map V.ref).take kk ++ (pt.map V.ref).drop (kk + 1)))) = H4 at S4 h3 hRk4 ⊢
        have hR' : RowsAt H4 (pt.take kk ++ pt.drop (kk + 1)) (T.take kk ++ T.drop (kk + 1)) := (S4.rt.take kk).app (S4.rt.drop (kk + 1))
        have hit' : ∀ r ∈ T.take kk ++ T.drop (kk + 1), r.length = w ∧ Bt (grow b cs.length) r := fun r hr => by
          refine S4.it r (List.mem_append_right _ ?_)
          rcases List.mem_append.mp hr with z | z
          · exact List.mem_of_mem_take z
          · exact List.mem_of_mem_drop z
        have hk1 : RowAt H4 pk ts := hRk4
        refine ⟨p3, rfl, ⟨_, SqL.of h3⟩, fun D3 hD3 => lc_list (K := K) (a := p3) (xs := (pt.take kk ++ pt.drop (kk + 1)).map V.ref) (fun j G => ∃ ms, Map (pt.take kk ++ pt.drop (kk + 1)) H4 G D3 (RCan i (grow b (cs.length + 1)) w ts) (T.take kk ++ T.drop (kk + 1)) j ms) ⟨[], Map.start hD3⟩ (fun j G _ ⟨_, z⟩ => z.s.seq (SqL.of h3)) ?_ ?_⟩
        · rintro j x G hx ⟨ms2, M2⟩
          obtain ⟨p, hp, rfl⟩ := item hx
          obtain ⟨ns, hns, hra⟩ := hR'.at hp
          have hn2 := hit' ns (List.mem_of_getElem? hns)
          refine ⟨rfl, _, rfl, _, rfl, _, rfl, p, pk, ns, ts, i, grow b cs.length, rfl, M2.s _ _ hra, M2.s _ _ hk1, by rw [hts2.1, hn2.1], by rw [hn2.1]; exact hi, by rw [hn2.1]; omega, h0, hn2.2, hts2.2, hgr, fun G2 r m s5 hf hr5 hml hcn hbm => ?_⟩
          obtain ⟨acc, ha, hal, M3⟩ := M2.step (List.mem_of_getElem? hp) hD3 s5 hns hr5 hra hf ⟨hml.trans hn2.1, hcn, by rw [← grow_succ]; exact hbm⟩
          refine ⟨acc, ha, ?_, _, M3⟩
          have h5 := M2.rel.length
          rw [List.length_take] at h5
          have h6 : (T.take kk ++ T.drop (kk + 1)).length ≤ 100 := by
            rw [List.length_append, List.length_take, List.length_drop]
            have := S4.len.2
            omega
          rw [hal]
          exact Nat.lt_of_le_of_lt (show ms2.length ≤ 100 by omega) (by decide)
        rintro G ⟨T2, M2⟩
        have hrel2 : Paired (RCan i (grow b (cs.length + 1)) w ts) (T.take kk ++ T.drop (kk + 1)) T2 := by
          have := M2.rel
          rw [List.length_map, hR'.length, List.take_length] at this
          exact this
        obtain ⟨q2, hq2, hQ2, hne2⟩ := M2.at_
        have S5 := S4.same M2.s
        have hk5 := M2.s _ _ hk1
        have hRc5 := S5.rc
        have hqp4 : H4 qp ≠ none := by rw [S4.hp]; simp
        refine ⟨_, rfl, qc', rfl, ⟨_, SqL.of S5.hc⟩, fun D4 hD4 => lc_list (K := K) (a := qc') (xs := pc.map V.ref) (fun j G2 => ∃ ms, Map pc G G2 D4 (RCan i (grow b (cs.length + 1)) w ts) cs j ms) ⟨[], Map.start hD4⟩ (fun j G2 _ ⟨_, z⟩ => z.s.seq (SqL.of S5.hc)) ?_ ?_⟩
        · rintro j x G2 hx ⟨ms2, M3⟩
          obtain ⟨p, hp, rfl⟩ := item hx
          obtain ⟨ns, hns, hra⟩ := hRc5.at hp
          have hn2 := S5.it ns (List.mem_append_left _ (List.mem_of_getElem? hns))
          refine ⟨rfl, _, rfl, _, rfl, _, rfl, p, pk, ns, ts, i, grow b cs.length, rfl, M3.s _ _ hra, M3.s _ _ hk5, by rw [hts2.1, hn2.1], by rw [hn2.1]; exact hi, by rw [hn2.1]; omega, h0, hn2.2, hts2.2, hgr, fun G3 r m s5 hf hr5 hml hcn hbm => ?_⟩
          obtain ⟨acc, ha, hal, M4⟩ := M3.step (List.mem_of_getElem? hp) hD4 s5 hns hr5 hra hf ⟨hml.trans hn2.1, hcn, by rw [← grow_succ]; exact hbm⟩
          refine ⟨acc, ha, ?_, _, M4⟩
          have h5 := M3.rel.length
          rw [List.length_take] at h5
          rw [hal]
          exact Nat.lt_of_le_of_lt (show ms2.length ≤ 100 by have := S5.len.2; omega) (by decide)
        rintro G2 ⟨C2, M3⟩
        have hrel3 : Paired (RCan i (grow b (cs.length + 1)) w ts) cs C2 := by
          have := M3.rel
          rw [List.length_map, hRc5.length, List.take_length] at this
          exact this
        obtain ⟨q4, hq4, hQ4, hne4⟩ := M3.at_
        have S6 := S5.same M3.s
        have few4 : q4.length ≤ 20 := by
          rw [hQ4.length, ← hrel3.length]
          have := S6.len.2
          omega
        refine ⟨_, rfl, by show 1 ≤ sizeLine; decide, fun p5 hp5 => ⟨D4, p5, _, _, rfl, rfl, same_upd hp5 _ _ hq4, upd_same, ?_, fun p6 hp6 => ?_⟩⟩
        · rw [List.length_map]
          exact Nat.le_trans (show q4.length + 1 ≤ 100 by omega) (by decide)
        have s7 : Same G2 (upd (upd G2 p5 (.lst [V.ref pk])) p6 (.lst (q4.map V.ref ++ [V.ref pk]))) := (same_upd hp5).trans (same_upd hp6)
        have hG5 : (upd (upd G2 p5 (.lst [V.ref pk])) p6 (.lst (q4.map V.ref ++ [V.ref pk]))) p6 = some (.lst ((q4 ++ [pk]).map V.ref)) := by
          rw [upd_same, List.map_append]
          rfl
        have hp6n : G2 p6 = none := by
          cases e : G2 p6 with
          | none => rfl
          | some o => rw [same_upd hp5 _ _ e] at hp6; cases hp6
        have hp6q : p6 ≠ qp := fun e => by
          rw [e, S6.hp] at hp6n
          cases hp6n
        generalize (upd (upd G2 p5 (.lst [V.ref pk])) p6 (.lst (q4.map V.ref ++ [V.ref pk]))) = G5 at s7 hG5 ⊢
        have S7 := S6.same s7
        refine ⟨_, rfl, .inl ⟨rfl, _, SqL.of S7.hp⟩, _, rfl, _, _, _, rfl, rfl, S7.hp, ?_, ?_⟩
        · rw [List.length_map]
          exact Nat.lt_of_le_of_lt (show pv.length ≤ 20 by have := S7.len; omega) (by decide)
        have hD3q : D3 ≠ qp := fun e => by
          rw [e, S4.hp] at hD3
          cases hD3
        have n2 : ∀ a ∈ q2, a ≠ qp := fun a ha => by
          rcases (hne2 a ha).2 with z | z
          · refine S4.ne.2.2 a (List.mem_append_left _ ?_)
            rcases List.mem_append.mp z with y | y
            · exact List.mem_of_mem_take y
            · exact List.mem_of_mem_drop y
          · intro e
            rw [e, S4.hp] at z
            cases z
        have n4 : ∀ a ∈ q4 ++ [pk], a ≠ qp := fun a ha => by
          rcases List.mem_append.mp ha with y | y
          · rcases (hne4 a y).2 with z | z
            · exact S5.ne.2.2 a (List.mem_append_right _ z)
            · intro e
              rw [e, S5.hp] at z
              cases z
          · rw [List.mem_singleton.mp y]
            exact S4.ne.2.2 pk (List.mem_append_left _ (List.mem_of_getElem? hpk))
        have l3 := hrel3.length
        have l2 : T2.length + 1 = T.length := by
          rw [← hrel2.length, List.length_append, List.length_take, List.length_drop]
          omega
        refine ⟨D3, p6, q2, q4 ++ [pk], T2, C2 ++ [ts], pv ++ [i], _, _, _, rfl, fun a o e => ?_, S7.nqp, ?_, ?_, ?_, ?_, ?_, ⟨hD3q, hp6q, fun a ha => ?_⟩, ⟨?_, ?_⟩, fun r hr => ?_, el_step S4.el S4.len.1 hts h0 hrel2 hrel3⟩
        · rw [upd_ne (ne_of_none e S7.nqp)]
          exact S7.s _ _ e
        · rw [upd_ne hD3q]
          exact s7 _ _ (M3.s _ _ hq2)
        · exact ((hQ2.same M3.s).same s7).updN n2
        · rw [upd_ne hp6q]
          exact hG5
        · exact ((hQ4.same s7).snoc (s7 _ _ (M3.s _ _ hk5))).updN n4
        · rw [upd_same, List.map_append]
          rfl
        · rcases List.mem_append.mp ha with y | y
          · exact n2 a y
          · exact n4 a y
        · rw [List.length_append, List.length_append, S4.len.1, l3]
          rfl
        · rw [List.length_append]
          show C2.length + 1 + T2.length = rs.length
          have := S4.len.2
          omega
        · have e1 : (C2 ++ [ts]).length = cs.length + 1 := by
            rw [List.length_append, ← l3]
            rfl
          rw [e1]
          rcases List.mem_append.mp hr with y | y
          · rcases List.mem_append.mp y with z | z
            · obtain ⟨ns, _, hr2⟩ := Paired.rt hrel3 r z
              exact ⟨hr2.1, hr2.2.2⟩
            · rw [List.mem_singleton.mp z]
              exact ⟨hts2.1, fun n hn => Nat.le_trans (hts2.2 n hn) (grow_mono b (Nat.le_succ _))⟩
          · obtain ⟨ns, _, hr2⟩ := Paired.rt hrel2 r y
            exact ⟨hr2.1, hr2.2.2⟩
      · have hkT : kk = T.length := by
          have : ¬ ((kk : Int) < ((pt.map V.ref).length : Int)) := fun z => c (decide_eq_true z)
          rw [List.length_map] at this
          omega
        refine ⟨qt, qc', pt, pc, T, cs, pv, _, _, _, rfl, { S3 with el := S3.el.skip fun t ht => ?_ }⟩
        obtain ⟨r, hr2, rfl⟩ := List.mem_map.mp ht
        obtain ⟨j, hj, e⟩ := List.getElem_of_mem hr2
        have h6 := hz j (by omega)
        have e2 : T.getD j [] = r := by
          rw [List.getD_eq_getElem?_getD, List.getElem?_eq_getElem hj, e]
          rfl
        rw [e2] at h6
        unfold fr
        rw [h6]
        rfl
    · rintro σ H' ⟨qt, qc', pt, pc, T, cs, pv, v5, v6, v7, rfl, S⟩
      refine ⟨_, rfl, _, rfl, by show 2 ≤ sizeLine; decide, fun t ht => ?_⟩
      have S2 := S.same (same_upd (o := .tup [.ref qc', .ref qp]) ht)
      refine k _ t qc' qp pc cs T pv S2.s upd_same S2.hc S2.rc S2.hp S.len.1 (by have := S.len.2; omega) (fun r hr => ?_) S.el
      have h5 := S.it r (List.mem_append_left _ hr)
      refine ⟨h5.1, fun n hn => Nat.le_trans (h5.2 n hn) (grow_mono b (by have := S.len.2; omega))⟩
end
end Ind

set_option Elab.async false
set_option linter.all false
set_option maxRecDepth 100000
set_option maxHeartbeats 4000000
namespace Ind
open PySem PySem.Spec PyProof.Rows L2
section
variable {prog : Program} {w : World} {A : Around} {E : Value → Shared → Prop} {s : Shared} {K : PySem.W.Frag} {x C f : Addr} {ox : Obj} {od : Option Obj} {b tb : Value}
/-- object.__ne__ over an own __eq__ -/
theorem entry_neK {Q : Fin → Shared → Prop} (hu : A.units < cLine) (X : K.In s.heap) (I : PySem.W.InstAt s.heap x ox C od) (he : PySem.W.findIn K (.ref C) "__eq__" = some (some (.ref f))) (hf : PySem.W.isFn K (.ref f) = true)
    (h : wpAny (model prog w) A (call (.ref f) [.ref x, b]) (fun v s' => ∃ r, v = .bool r ∧ Q (.done (.ret (.bool (!r)))) s') E s) :
    wpAny (model prog w) A (Builtin.«object.__ne__» ⟨[.ref x, b], []⟩) Q E s := by
  unfold Builtin.«object.__ne__»
  refine wpAny_bind (wpAny_of_eq (a := ((Value.ref x : Value), [b])) (by first | rfl | (simp only [slotArgs]; rfl)) ?_)
  dsimp only
  refine wpAny_bind (wpAny_cRoomFor hu ?_)
  refine wpAny_bind (m := callSpecialIfBound? (.ref x) (Str.ofString "__eq__") [b]) (PySem.W.ifBound_K X I he hf (wpAny_mono h (fun v s' hv => ?_) fun _ _ e => e))
  obtain ⟨r, rfl, q⟩ := hv
  dsimp only
  exact wpAny_bind (wpAny_truthy_bool (wpAny_pure q))
theorem cmp_neK {Q : Value → Shared → Prop} (hu : A.units + 1 < cLine) (X : K.In s.heap) (I : PySem.W.InstAt s.heap x ox C od) (hb : PySem.W.Looks (model prog w) s.heap (typeOf b) tb) (hn : PySem.W.notFirst K C tb = true)
    (hne : PySem.W.findIn K (.ref C) "__ne__" = some (some (.builtin "object.__ne__"))) (hm : PySem.W.mroIn K C (.type "object") = some true) (he : PySem.W.findIn K (.ref C) "__eq__" = some (some (.ref f))) (hf : PySem.W.isFn K (.ref f) = true)
    (h : wpAny (model prog w) A.in1 (call (.ref f) [.ref x, b]) (fun v s' => ∃ r, v = .bool r ∧ Q (.bool (!r)) s') E s) : wpAny (model prog w) A (richCompare .NotEq (.ref x) b) Q E s := by
  have one : wpAny (model prog w) A (tryCompare (.ref x) "__ne__" b) (fun r s' => ∃ v, r = some v ∧ Q v s') E s := by
    unfold tryCompare
    refine wpAny_bind (NtL.csib (s := s) (id := "object.__ne__") (I.type.andThen (PySem.W.looks_findIn X hne)) (F.cmp_object.ne.bind _) ?_)
    refine wpAny_call (codeAny_call_builtin F.cmp_object.ne.plain F.cmpEntry_ne (PySem.W.check_slot F.cmpKind_ne F.cmpSplit_ne (I.type.andThen (PySem.W.looks_mroIn X hm)) (F.cmpArgs_ne _ _) ?_))
    refine entry_neK (A := A.in1) hu X I he hf (wpAny_mono h (fun v s' hv => ?_) fun _ _ e => e)
    obtain ⟨r, rfl, q⟩ := hv
    exact ⟨r, rfl, wpAny_pure ⟨_, rfl, q⟩⟩
  unfold richCompare
  simp only [oneThing_ref]
  refine wpAny_holding (wpAny_bind (wpAny_cRoomFor (by omega) ?_))
  refine wpAny_bind (I.type.here (wpAny_bind (hb.here ?_)))
  split
  · rename_i q
    have e : PySem.W.subIn K tb (.ref C) = some false := by
      rcases Bool.or_eq_true_iff.mp hn with e | e
      · rw [beq_iff_eq.mp e] at q
        simp at q
      · exact beq_iff_eq.mp e
    refine wpAny_bind ((PySem.W.looks_subIn X e).here ?_)
    simp only [Bool.false_eq_true, if_false]
    refine wpAny_bind (wpAny_mono one (fun r s' z => ?_) fun _ _ e => e)
    obtain ⟨v, rfl, hq⟩ := z
    exact wpAny_pure hq
  · refine wpAny_bind (wpAny_pure ?_)
    simp only [Bool.false_eq_true, if_false]
    refine wpAny_bind (wpAny_mono one (fun r s' z => ?_) fun _ _ e => e)
    obtain ⟨v, rfl, hq⟩ := z
    exact wpAny_pure hq
end
/-! ### == and != of an own instance, over values -/
section
variable {X : Cx} {CX : CXT} {n : Nat} {C f : Addr} {fd : FuncData} {ps : List Str} {sp : Sp} {E : XK}
/-- x == y, x an instance of the class at C whose own == is at f and answers by True or False; y anything whose type is told -/
def rEqO (K : PySem.W.Frag) (C : Addr) (neg : Bool) (sp : Sp) (E : XK) : R2 := fun x y H Q => ∃ a dx fs t, x = .ref a ∧ H a = some (.ins C dx fs) ∧ TyX K H y t ∧ PySem.W.notFirst K C t = true ∧
  sp [x, y] H (fun z H' => ∃ r, z = .bl r ∧ Q (.bl (if neg then !r else r)) H') E
structure EqC (X : Cx) (CX : CXT) (n : Nat) (C f : Addr) (fd : FuncData) (ps : List Str) (sp : Sp) (E : XK) : Prop where
  fn : FnOk X.prog X.w X.K X.mg X.base CX n f fd ps sp
  eq : PySem.W.findIn X.K (.ref C) "__eq__" = some (some (.ref f))
  isf : PySem.W.isFn X.K (.ref f) = true
  b : Binds X.K fd ps []
  px : Passes CX X E
theorem run_eqO {pins : List (Addr × Obj)} {σ : L2.St} {H : Hp} {s : Shared} {A : Around} {a : Addr} {y : V} {v : Value} {R : Bool → Hp → Prop} (G : EqC X CX n C f fd ps sp E) (hr : Room n A) (hfr : A.frames = X.A.frames) (I : Inv X pins σ H s) (ry : RelV y v)
    (h : sp [.ref a, y] H (fun z H' => ∃ r, z = .bl r ∧ R r H') E) : wpAny (model X.prog X.w) A (call (.ref f) [.ref a, v]) (fun u s' => ∃ r, u = .bool r ∧ ∃ H', Inv X pins σ H' s' ∧ R r H') X.xe s := by
  have e0 : Env0 X.prog X.w X.K X.mg X.base A X.stack s H := by
    have e := I.env0
    exact ⟨by rw [hfr]; exact e.frames, e.mod, e.bs, e.bsz, e.funs, e.frf, e.hok, e.bare⟩
  have hl := G.fn.len _ _ _ _ h
  have r2 : Vals [V.ref a, y] [Value.ref a, v] := .cons rfl (.cons ry .nil)
  refine wpAny_call (codeAny_mono (G.fn.run A X.stack s H ⟨[.ref a, v], []⟩ [.ref a, v] [.ref a, y] _ E hr e0 (by
    have := G.b s [.ref a, v] I.kIn (by simpa using hl)
    simpa using this) r2 h) fun r s' hq => ?_)
  cases r with
  | error e => exact G.px pins σ H s e s' I hq
  | ok fl =>
    cases fl with
    | ret u =>
      obtain ⟨z, H', I', rz, r, ez, q⟩ := I.after hq
      subst ez
      cases rz
      exact ⟨r, rfl, H', I', q⟩
    | next => exact False.elim hq
    | brk => exact False.elim hq
    | cont => exact False.elim hq
theorem op_eqO (G : EqC X CX n C f fd ps sp E) (hr : Room n X.A) : OpR X (compareOp .Eq) (rEqO X.K C false sp E) := by
  intro pins s σ H x y v u Q I rx ry h
  obtain ⟨a, dx, fs, t, rfl, ha, ty, hn, q⟩ := h
  cases (show v = Value.ref a from rx)
  obtain ⟨mA, O, _⟩ := ins_get I.hok ha
  obtain ⟨od, J, _⟩ := O.look
  obtain ⟨P, Z, p, _⟩ := kit_of I ry ty
  obtain ⟨m, hF⟩ := I.fr
  show wpAny (model X.prog X.w) X.A (richCompare .Eq (.ref a) u) (EP X pins σ Q) X.xe s
  refine PySem.W.cmp_K (op := .Eq) (tb := t) hr.units0 hF I.ok.mod.kin J (Z.ty _ _ I.kIn p) hn G.eq G.isf ?_
  refine wpAny_mono (run_eqO G hr rfl I ry q) (fun w s' z => ?_) fun _ _ e => e
  obtain ⟨r, rfl, H', I', q'⟩ := z
  exact ⟨.bl r, H', I', rfl, q'⟩
theorem op_neO (G : EqC X CX n C f fd ps sp E) (hr : Room (n + 1) X.A) (hne : PySem.W.findIn X.K (.ref C) "__ne__" = some (some (.builtin "object.__ne__"))) (hm : PySem.W.mroIn X.K C (.type "object") = some true) :
    OpR X (compareOp .NotEq) (rEqO X.K C true sp E) := by
  intro pins s σ H x y v u Q I rx ry h
  obtain ⟨a, dx, fs, t, rfl, ha, ty, hn, q⟩ := h
  cases (show v = Value.ref a from rx)
  obtain ⟨mA, O, _⟩ := ins_get I.hok ha
  obtain ⟨od, J, _⟩ := O.look
  obtain ⟨P, Z, p, _⟩ := kit_of I ry ty
  show wpAny (model X.prog X.w) X.A (richCompare .NotEq (.ref a) u) (EP X pins σ Q) X.xe s
  refine cmp_neK (tb := t) (by have := hr.units; omega) I.kIn J (Z.ty _ _ I.kIn p) hn hne hm G.eq G.isf ?_
  refine wpAny_mono (run_eqO G hr.in1 rfl I ry q) (fun w s' z => ?_) fun _ _ e => e
  obtain ⟨r, rfl, H', I', q'⟩ := z
  exact ⟨r, rfl, .bl (!r), H', I', rfl, q'⟩
end
end Ind

set_option Elab.async false
set_option linter.all false
set_option maxRecDepth 100000
set_option maxHeartbeats 4000000
namespace Ind
open PySem PySem.Spec PyProof.Rows L2
open Builtin.Int (intBits)
abbrev sEq : Stmt := inClass (top 11) 5
abbrev sZero : Stmt := top 12
/-- behind Ratio(n, d) -/
theorem mk_ok {C Z : Addr} {H1 : Hp} {n d : Int} (hd : d ≠ 0) {Q : VK} {E : XK} (h : ∀ (p : Addr) (H' : Hp), RatAt C H' p (nN n d) (nD n d) → Same H1 H' → H1 p = none → Q (.ref p) H') :
    ∀ x dx, H1 x = none → H1 dx = none → dx ≠ x → spInit C Z [.ref x, .int n, .int d] (upd (upd H1 dx (.own x)) x (.ins C dx [])) (fun v H2 => v = .non ∧ Q (.ref x) H2) E := fun x dx nx nd ne =>
  ⟨x, dx, n, d, rfl, upd_same, fun z => absurd z hd, fun _ H' r k => ⟨rfl, h x H' r (Same.made nx nd k) nx⟩⟩
/-- a == b of a number: another one, or something of another class -/
def spEqR (K : PySem.W.Frag) (C : Addr) : Sp := fun vs H Q _ => (∃ (p q : Addr) (a b c d : Int), vs = [.ref p, .ref q] ∧ RatAt C H p a b ∧ RatAt C H q c d ∧ Q (.bl (decide (a = c ∧ b = d))) H) ∨
  ∃ (p : Addr) (a b : Int) (y : V) (t : Value), vs = [.ref p, y] ∧ RatAt C H p a b ∧ TyX K H y t ∧ PySem.W.kitOne K t (.ref C) = some false ∧ Q (.bl false) H
def spMk (C : Addr) (a b : Int) : Sp := fun vs H Q _ => vs = [] ∧ ∀ (p : Addr) (H' : Hp), RatAt C H' p a b → Same H H' → H p = none → Q (.ref p) H'
section
variable {P : Program} {w : World} {K : PySem.W.Frag} {mg : Str → Option Value} {base : Heap} {C Z : Addr}
theorem scEq : FnScope ["self", "other"] ["self", "other"] (defScope sEq) := ⟨rfl, rfl, rfl, by decide +kernel, rfl, by decide +kernel, by decide +kernel⟩
theorem ok_eq {f : Addr} {fd : FuncData} (F : Fun K "__eq__" "Ratio.__eq__" sEq f fd) (T : TxL K mg) (R : TxR K mg C Z) (I : TxI K C) : FnOk P w K mg base CX0 1 f fd ["self", "other"] (spEqR K C) := by
  refine F.ok scEq (fun vs H Q E h => ?_) (fun cdv A outer s H vs Q E hr h => ?_)
  · rcases h with ⟨p, q, a, b, c, d, rfl, _⟩ | ⟨p, a, b, y, t, rfl, _⟩ <;> rfl
  · refine ⟨_, pss_one (ps_ret (pe_and (pe_callB call_isi (by rfl) T.isinstance (by decide +kernel) (pa_cons (pv 1) (pa_cons (pe_glob (v := .ref C) rfl R.mgC rfl) pa_nil)))
      (pe_and (pe_cmpR op_eq (pe_fld (pv 0) rfl) (pe_fld (pv 1) rfl) (nomark _)) (pe_one (pe_cmpR op_eq (pe_fld (pv 0) rfl) (pe_fld (pv 1) rfl) (nomark _)))))), ?_⟩
    rcases h with ⟨p, q, a, b, c, d, rfl, ⟨dx, hp⟩, ⟨dy, hq⟩, k⟩ | ⟨p, a, b, y, t, rfl, ⟨dx, hp⟩, ty, hk, k⟩
    · refine ⟨_, rfl, _, _, _, _, true, rfl, ClsV.own C, .base (.ins hq R.cl I.ha I.hn I.ht I.hm), I.kC, true, rfl, iteT ?_⟩
      refine ⟨_, rfl, p, C, dx, _, _, rfl, hp, R.cl, R.nN, rf_n _ _, _, rfl, q, C, dy, _, _, rfl, hq, R.cl, R.nN, rf_n _ _, rfl, _, rfl, ?_⟩
      by_cases e1 : a = c
      · rw [show decide (V.int a = V.int c) = true from decide_eq_true (by rw [e1])]
        refine iteT ⟨_, rfl, p, C, dx, _, _, rfl, hp, R.cl, R.nD, rf_d _ _, _, rfl, q, C, dy, _, _, rfl, hq, R.cl, R.nD, rf_d _ _, rfl, ?_⟩
        have e2 : decide (V.int b = V.int d) = decide (a = c ∧ b = d) := by
          by_cases e : b = d
          · simp [e, e1]
          · simp [e, e1]
        rw [← e2] at k
        exact k
      · rw [show decide (V.int a = V.int c) = false from decide_eq_false (fun z => e1 (V.int.inj z))]
        have e2 : decide (a = c ∧ b = d) = false := decide_eq_false fun z => e1 z.1
        rw [e2] at k
        exact iteF k
    · exact ⟨_, rfl, _, _, _, _, false, rfl, ClsV.own C, ty, hk, false, rfl, iteF k⟩
theorem scZ : FnScope [] [] (defScope sZero) := ⟨rfl, rfl, rfl, by decide +kernel, rfl, by decide +kernel, by decide +kernel⟩
/-- how Ratio's __init__ stands -/
structure MkR (P : Program) (w : World) (K : PySem.W.Frag) (mg : Str → Option Value) (base : Heap) (C Z : Addr) (fI : Addr) (fdI : FuncData) (ds : List Value) : Prop where
  cm : Mk K C fI
  fn : FnOk P w K mg base (L2.CX P w) 41 fI fdI ["self", "n", "d"] (spInit C Z)
  b2 : Binds K fdI ["self", "n", "d"] []
  b1 : Binds K fdI ["self", "n", "d"] ds
  v1 : Vals [V.int 1] ds
theorem ok_zero {f fI : Addr} {fd fdI : FuncData} {ds : List Value} (F : Fun K "zero" "zero" sZero f fd) (R : TxR K mg C Z) (M : MkR P w K mg base C Z fI fdI ds) : FnOk P w K mg base CX0 43 f fd [] (spMk C 0 1) := by
  refine F.ok scZ (fun vs H Q E h => ?_) (fun cdv A outer s H vs Q E hr h => ?_)
  · obtain ⟨rfl, _⟩ := h
    rfl
  · obtain ⟨rfl, k⟩ := h
    refine ⟨_, pss_one (ps_ret (pe_make M.cm M.fn hr (by rfl) R.mgC M.b1 M.v1 passL (pa_cons pe_int pa_nil))), ?_⟩
    have e := n_one 0
    refine mk_ok (n := 0) (d := 1) (by decide) fun p H' r s n => k p H' ?_ s n
    rw [e.1, e.2] at r
    exact r
end
end Ind

set_option Elab.async false
set_option linter.all false
set_option maxRecDepth 100000
set_option maxHeartbeats 4000000
set_option exponentiation.threshold 9000
namespace Ind
open PySem PySem.Spec PyProof.Rows L2
open Builtin.Int (intBits)
/-! ### a number's two ints -/
abbrev Q2 := Int × Int
structure Lo (q : Q2) : Prop where
  pos : 0 < q.2
  low : Nat.gcd q.1.natAbs q.2.natAbs = 1
def rv (q : Q2) : Rat := ((q.1 : Int) : Rat) / ((q.2 : Int) : Rat)
def mkq (n d : Int) : Q2 := (nN n d, nD n d)
theorem lo_mk {n d : Int} (h : d ≠ 0) : Lo (mkq n d) := ⟨nD_pos h, n_gcd h⟩
theorem Lo.ne {q : Q2} (h : Lo q) : q.2 ≠ 0 := Int.ne_of_gt h.pos
theorem cst_ne {d : Int} (h : d ≠ 0) : ((d : Int) : Rat) ≠ 0 := fun z => h (by exact_mod_cast z)
theorem rv_mk {n d : Int} (h : d ≠ 0) : rv (mkq n d) = ((n : Int) : Rat) / ((d : Int) : Rat) := by
  have e := n_cross (n := n) h
  have hd := nD_pos (n := n) h
  have e2 : ((nN n d : Int) : Rat) * ((d : Int) : Rat) = ((n : Int) : Rat) * ((nD n d : Int) : Rat) := by rw [← Rat.intCast_mul, ← Rat.intCast_mul, e]
  have h1 := cst_ne h
  have h2 := cst_ne (Int.ne_of_gt hd)
  show ((nN n d : Int) : Rat) / ((nD n d : Int) : Rat) = _
  grind
theorem lo_eq {a b : Q2} (ha : Lo a) (hb : Lo b) (e : rv a = rv b) : a = b := by
  obtain ⟨p, q⟩ := a
  obtain ⟨r, s⟩ := b
  have h1 := cst_ne ha.ne
  have h2 := cst_ne hb.ne
  have e2 : ((p : Int) : Rat) * ((s : Int) : Rat) = ((r : Int) : Rat) * ((q : Int) : Rat) := by
    unfold rv at e
    grind
  have e3 : p * s = r * q := by
    rw [← Rat.intCast_mul, ← Rat.intCast_mul] at e2
    exact_mod_cast e2
  obtain ⟨u, v⟩ := low_uniq ha.pos hb.pos ha.low hb.low e3
  exact Prod.ext u v
def addq (a b : Q2) : Q2 := mkq (a.1 * b.2 + b.1 * a.2) (a.2 * b.2)
def mulq (a b : Q2) : Q2 := mkq (a.1 * b.1) (a.2 * b.2)
theorem lo_add {a b : Q2} (ha : a.2 ≠ 0) (hb : b.2 ≠ 0) : Lo (addq a b) := lo_mk (Int.mul_ne_zero ha hb)
theorem lo_mul {a b : Q2} (ha : a.2 ≠ 0) (hb : b.2 ≠ 0) : Lo (mulq a b) := lo_mk (Int.mul_ne_zero ha hb)
theorem rv_add {a b : Q2} (ha : a.2 ≠ 0) (hb : b.2 ≠ 0) : rv (addq a b) = rv a + rv b := by
  unfold addq
  rw [rv_mk (Int.mul_ne_zero ha hb), Rat.intCast_add, Rat.intCast_mul, Rat.intCast_mul, Rat.intCast_mul]
  have h1 := cst_ne ha
  have h2 := cst_ne hb
  unfold rv
  grind
theorem rv_mul {a b : Q2} (ha : a.2 ≠ 0) (hb : b.2 ≠ 0) : rv (mulq a b) = rv a * rv b := by
  unfold mulq
  rw [rv_mk (Int.mul_ne_zero ha hb), Rat.intCast_mul, Rat.intCast_mul]
  have h1 := cst_ne ha
  have h2 := cst_ne hb
  unfold rv
  grind
abbrev q0 : Q2 := (0, 1)
theorem lo_q0 : Lo q0 := ⟨by decide, by decide⟩
theorem rv_q0 : rv q0 = 0 := by
  unfold rv
  show ((0 : Int) : Rat) / ((1 : Int) : Rat) = 0
  grind
theorem rv_q1 : rv (1, 1) = 1 := by
  unfold rv
  show ((1 : Int) : Rat) / ((1 : Int) : Rat) = 1
  grind
/-- sizes -/
def Bq (m : Nat) (q : Q2) : Prop := intBits q.1 ≤ m ∧ intBits q.2 ≤ m
theorem Bq.mono {m n : Nat} {q : Q2} (h : Bq m q) (l : m ≤ n) : Bq n q := ⟨Nat.le_trans h.1 l, Nat.le_trans h.2 l⟩
theorem bq_mk {n d : Int} {m : Nat} (h1 : intBits n ≤ m) (h2 : intBits d ≤ m) : Bq m (mkq n d) := ⟨bits_nN h1, bits_nD h2⟩
theorem bq_add {a b : Q2} {m n : Nat} (ha : Bq m a) (hb : Bq n b) : Bq (m + n + 1) (addq a b) := by
  have h1 := PySem.intBits_mul_le ha.1 hb.2
  have h2 := PySem.intBits_mul_le hb.1 ha.2
  have h3 := PySem.intBits_mul_le ha.2 hb.2
  have h4 := PySem.intBits_add_le h1 h2
  exact bq_mk (by omega) (by omega)
theorem bq_mul {a b : Q2} {m n : Nat} (ha : Bq m a) (hb : Bq n b) : Bq (m + n) (mulq a b) := by
  have h1 := PySem.intBits_mul_le ha.1 hb.1
  have h3 := PySem.intBits_mul_le ha.2 hb.2
  exact bq_mk (by omega) (by omega)
/-! ### what stands in the heap -/
/-- all but the list at D stays, and every thing that is no list -/
def SX (D : Addr) (H H' : Hp) : Prop := ∀ b o, H b = some o → (b ≠ D ∨ ∀ xs, o ≠ .lst xs) → H' b = some o
abbrev FH (β : Type) := Hp → Addr → β → Prop
/-- it stays where lists change -/
def Stb {β : Type} (F : FH β) : Prop := ∀ H H' p b, (∀ b o, H b = some o → (∀ xs, o ≠ .lst xs) → H' b = some o) → F H p b → F H' p b
def StbX {β : Type} (D : Addr) (F : FH β) : Prop := ∀ H H' p b, SX D H H' → F H p b → F H' p b
theorem Stb.x {β : Type} {F : FH β} (h : Stb F) (D : Addr) : StbX D F := fun H H' p b s => h H H' p b fun c o e z => s c o e (.inr z)
theorem Stb.same {β : Type} {F : FH β} (h : Stb F) {H H' : Hp} {p : Addr} {b : β} (s : Same H H') (f : F H p b) : F H' p b := h H H' p b (fun c o e _ => s c o e) f
theorem StbX.same {β : Type} {F : FH β} {D : Addr} (h : StbX D F) {H H' : Hp} {p : Addr} {b : β} (s : Same H H') (f : F H p b) : F H' p b := h H H' p b (fun c o e _ => s c o e) f
theorem sx_upd {H : Hp} {D : Addr} {xs : List V} {o : HO} (h : H D = some (.lst xs)) : SX D H (upd H D o) := fun b u e z => by
  rcases z with n | n
  · rw [upd_ne n]
    exact e
  · rw [upd_ne]
    · exact e
    · intro q
      rw [q, h] at e
      exact n xs (Option.some.inj e).symm
theorem Paired.imp {α β : Type} {F G : α → β → Prop} (h : ∀ a b, F a b → G a b) : ∀ {xs : List α} {ys : List β}, Paired F xs ys → Paired G xs ys
  | _, _, .nil => .nil
  | _, _, .cons r t => .cons (h _ _ r) (Paired.imp h t)
theorem Paired.at {α β : Type} {F : α → β → Prop} : ∀ {xs : List α} {ys : List β} {i : Nat} {x : α}, Paired F xs ys → xs[i]? = some x → ∃ y, ys[i]? = some y ∧ F x y
  | _, _, 0, _, .cons a t, h => ⟨_, rfl, by
      have e := Option.some.inj h
      rw [← e]
      exact a⟩
  | _, _, i + 1, _, .cons a t, h => Paired.at (i := i) t h
  | _, _, _, _, .nil, h => by simp at h
theorem Paired.at2 {α β : Type} {F : α → β → Prop} : ∀ {xs : List α} {ys : List β} {i : Nat} {y : β}, Paired F xs ys → ys[i]? = some y → ∃ x, xs[i]? = some x ∧ F x y
  | _, _, 0, _, .cons a t, h => ⟨_, rfl, by
      have e := Option.some.inj h
      rw [← e]
      exact a⟩
  | _, _, i + 1, _, .cons a t, h => Paired.at2 (i := i) t h
  | _, _, _, _, .nil, h => by simp at h
/-- a tuple, a list of things -/
def Tp {β : Type} (F : FH β) : FH (List β) := fun H t bs => ∃ ps : List Addr, H t = some (.tup (ps.map V.ref)) ∧ Paired (F H) ps bs
def Ls {β : Type} (F : FH β) : FH (List β) := fun H t bs => ∃ ps : List Addr, H t = some (.lst (ps.map V.ref)) ∧ Paired (F H) ps bs
theorem Tp.stb {β : Type} {F : FH β} (h : Stb F) : Stb (Tp F) := fun H H' t bs s ⟨ps, e, q⟩ => ⟨ps, s _ _ e (by intro xs z; cases z), Paired.imp (fun a b f => h H H' a b s f) q⟩
theorem Ls.stbx {β : Type} {F : FH β} (h : Stb F) (D : Addr) : StbX D (fun H l bs => l ≠ D ∧ Ls F H l bs) := fun H H' l bs s ⟨n, ps, e, q⟩ => ⟨n, ps, s _ _ e (.inl n), Paired.imp (fun a b f => h.x D H H' a b s f) q⟩
theorem Ls.same {β : Type} {F : FH β} (h : Stb F) {H H' : Hp} {l : Addr} {bs : List β} (s : Same H H') (f : Ls F H l bs) : Ls F H' l bs := let ⟨ps, e, q⟩ := f; ⟨ps, s _ _ e, Paired.imp (fun a b f => h.same s f) q⟩
def RatQ (C : Addr) : FH Q2 := fun H p q => RatAt C H p q.1 q.2
def PairQ : FH Q2 := fun H p q => H p = some (.tup [.int q.1, .int q.2])
theorem RatQ.stb (C : Addr) : Stb (RatQ C) := fun H H' p q s ⟨dx, e⟩ => ⟨dx, s _ _ e (by intro xs z; cases z)⟩
theorem PairQ.stb : Stb PairQ := fun H H' p q s e => s _ _ e (by intro xs z; cases z)
theorem VecR.stb (C : Addr) : Stb (Tp (RatQ C)) := Tp.stb (RatQ.stb C)
theorem VecP.stb : Stb (Tp PairQ) := Tp.stb PairQ.stb
/-- an address among a tuple's or list's items -/
theorem item_of {as : List Addr} {i : Nat} {x : V} (hx : (as.map V.ref)[i]? = some x) : ∃ p, as[i]? = some p ∧ x = V.ref p := by
  rw [List.getElem?_map] at hx
  cases e : as[i]? with
  | none => rw [e] at hx; cases hx
  | some y => rw [e] at hx; exact ⟨y, rfl, (Option.some.inj hx).symm⟩
theorem ref_at {as : List Addr} {i : Nat} {p : Addr} (h : as[i]? = some p) : (as.map V.ref)[i]? = some (V.ref p) := by rw [List.getElem?_map, h]; rfl
theorem int_of {as : List Int} {i : Nat} {x : V} (hx : (as.map V.int)[i]? = some x) : ∃ n, as[i]? = some n ∧ x = V.int n := by
  rw [List.getElem?_map] at hx
  cases e : as[i]? with
  | none => rw [e] at hx; cases hx
  | some y => rw [e] at hx; exact ⟨y, rfl, (Option.some.inj hx).symm⟩
theorem len_small {n : Nat} (h : n ≤ 1000) : n < sizeLine := Nat.lt_of_le_of_lt h (by decide)
/-! ### what a comprehension has gathered -/
structure Col {β : Type} (F : FH β) (D : Addr) (H H2 : Hp) (bs : List β) : Prop where
  s : Same H H2
  at_ : Ls F H2 D bs
theorem Col.start {β : Type} {F : FH β} {D : Addr} {H : Hp} (h : H D = none) : Col F D H (upd H D (.lst [])) [] := ⟨same_upd h, [], upd_same, .nil⟩
theorem Col.push {β : Type} {F : FH β} {D p : Addr} {H H2 H3 : Hp} {bs : List β} {b : β} (x : Col F D H H2 bs) (hF : StbX D F) (hD : H D = none) (s : Same H2 H3) (hf : F H3 p b) (hl : bs.length ≤ 1000) :
    ∃ acc, H3 D = some (.lst acc) ∧ acc.length < sizeLine ∧ Col F D H (upd H3 D (.lst (acc ++ [V.ref p]))) (bs ++ [b]) := by
  obtain ⟨ps, e, q⟩ := x.at_
  have e3 := s _ _ e
  refine ⟨ps.map V.ref, e3, ?_, fun c o ec => ?_, ps ++ [p], ?_, ?_⟩
  · rw [List.length_map, q.length]
    exact len_small hl
  · rw [upd_ne (ne_of_none ec hD)]
    exact s _ _ (x.s c o ec)
  · rw [upd_same, List.map_append]
    rfl
  · exact Paired.snocP (Paired.imp (fun a b f => hF _ _ a b (sx_upd e3) (hF.same s f)) q) (hF _ _ _ _ (sx_upd e3) hf)
/-- .. of ints -/
structure ColI (D : Addr) (H H2 : Hp) (ns : List Int) : Prop where
  s : Same H H2
  at_ : H2 D = some (.lst (ns.map V.int))
theorem ColI.start {D : Addr} {H : Hp} (h : H D = none) : ColI D H (upd H D (.lst [])) [] := ⟨same_upd h, upd_same⟩
theorem ColI.push {D : Addr} {H H2 H3 : Hp} {ns : List Int} {n : Int} (x : ColI D H H2 ns) (hD : H D = none) (s : Same H2 H3) (hl : ns.length ≤ 1000) :
    ∃ acc, H3 D = some (.lst acc) ∧ acc.length < sizeLine ∧ ColI D H (upd H3 D (.lst (acc ++ [V.int n]))) (ns ++ [n]) := by
  refine ⟨ns.map V.int, s _ _ x.at_, ?_, fun c o ec => ?_, ?_⟩
  · rw [List.length_map]
    exact len_small hl
  · rw [upd_ne (ne_of_none ec hD)]
    exact s _ _ (x.s c o ec)
  · rw [upd_same, List.map_append]
    rfl
theorem take_snoc {α : Type} {xs : List α} {i : Nat} {x : α} (h : xs[i]? = some x) : xs.take (i + 1) = xs.take i ++ [x] := by
  rw [List.take_add_one, h]
  rfl
theorem map_take_snoc {α β : Type} {f : α → β} {xs : List α} {i : Nat} {x : α} (h : xs[i]? = some x) : (xs.take (i + 1)).map f = (xs.take i).map f ++ [f x] := by
  rw [take_snoc h, List.map_append]
  rfl
end Ind

set_option Elab.async false
set_option linter.all false
set_option maxRecDepth 100000
set_option maxHeartbeats 4000000
set_option exponentiation.threshold 9000
namespace Ind
open PySem PySem.Spec PyProof.Rows L2
open Builtin.Int (intBits)
abbrev sCF : Stmt := top 13
abbrev sDot : Stmt := top 15
/-! ### lcm of ints of some thousand bits -/
def rLcmC : List V → Hp → VK → Prop := fun vs H Q => ∃ a b : Int, vs = [.int a, .int b] ∧ a ≠ 0 ∧ b ≠ 0 ∧ intBits a ≤ 8000 ∧ intBits b ≤ 8000 ∧ Q (.int ((Nat.lcm a.natAbs b.natAbs : Nat) : Int)) H
theorem cr_lcmC {X : Cx} : CallR X (.builtin "math.lcm") rLcmC := by
  intro pins s σ H vs us Q I r h
  obtain ⟨a, b, rfl, ha, hb, la, lb, q⟩ := h
  obtain ⟨t, u, rfl⟩ := Vals.int2 r
  have e : Nat.lcm 1 a.natAbs = a.natAbs := Nat.lcm_one_left _
  have g1 : a.natAbs.log2 < 8000 := (Nat.log2_lt (by omega)).mpr (PySem.intBits_le_iff.mp la)
  have g2 : b.natAbs.log2 < 8000 := (Nat.log2_lt (by omega)).mpr (PySem.intBits_le_iff.mp lb)
  have m1 : (max 1 a.natAbs).log2 < 8000 := by
    rw [Nat.max_eq_right (by omega)]
    exact g1
  have m2 : (max a.natAbs b.natAbs).log2 < 8000 := by
    rcases Nat.le_total a.natAbs b.natAbs with c | c
    · rw [Nat.max_eq_right c]
      exact g2
    · rw [Nat.max_eq_left c]
      exact g1
  have hp : 0 < Nat.lcm a.natAbs b.natAbs := Nat.lcm_pos (by omega) (by omega)
  have hle : Nat.lcm a.natAbs b.natAbs ≤ a.natAbs * b.natAbs := Nat.lcm_le_mul (by omega) (by omega)
  have hsz : (((((Nat.lcm 1 a.natAbs).lcm b.natAbs : Nat) : Int)).natAbs).log2 < bitsLine := by
    rw [e]
    have h16 : intBits (a * b) ≤ 16000 := PySem.intBits_mul_le la lb
    have h17 := PySem.intBits_le_iff.mp h16
    rw [Int.natAbs_mul] at h17
    have h18 : (((Nat.lcm a.natAbs b.natAbs : Nat) : Int)).natAbs < 2 ^ 16000 := Nat.lt_of_le_of_lt hle h17
    have h19 : (((Nat.lcm a.natAbs b.natAbs : Nat) : Int)).natAbs.log2 < 16000 := (Nat.log2_lt (Nat.ne_of_gt hp)).mpr h18
    exact Nat.lt_of_lt_of_le h19 (by decide)
  refine call_function_meets PySem.W.MGF.kind_lcm PySem.W.MGF.plain_lcm PySem.W.MGF.entry_lcm (PySem.W.MGF.args_lcm _ _) (PySem.W.mg_run_lcm a t b u (by omega) (by omega) hsz).meets ?_
  rw [e]
  exact ⟨.int _, H, I.tok _, ⟨_, rfl⟩, q⟩
/-! ### common_form -/
def partsOf (B : Int) (qs : List Q2) : List Int := qs.map fun q => q.1 * B.fdiv q.2
def spCF (K : PySem.W.Frag) (C : Addr) : Sp := fun vs H Q _ => ∃ (l : Addr) (qs : List Q2) (b m : Nat) (M : Int), vs = [.ref l] ∧ Tp (RatQ C) H l qs ∧ (∀ q ∈ qs, 0 < q.2 ∧ Bq b q) ∧ qs.length ≤ 100 ∧ b ≤ 4000 ∧ m ≤ 4000 ∧ 0 < M ∧ intBits M ≤ m ∧ (∀ q ∈ qs, q.2 ∣ M) ∧
  ∀ (H' : Hp) (t p : Addr) (B : Int), Same H H' → H p = none → H' t = some (.tup [.ref p, .int B]) → H' p = some (.lst ((partsOf B qs).map V.int)) → 0 < B → (∀ q ∈ qs, q.2 ∣ B) → B ∣ M → Q (.ref t) H'
theorem bits_dvd {B M : Int} {m : Nat} (hM : 0 < M) (h : B ∣ M) (hm : intBits M ≤ m) : intBits B ≤ m := by
  refine PySem.intBits_le_of_natAbs ?_ hm
  exact Nat.le_of_dvd (by omega) (Int.natAbs_dvd_natAbs.mpr h)
section
variable {P : Program} {w : World} {K : PySem.W.Frag} {mg : Str → Option Value} {base : Heap} {C Z : Addr}
theorem scCF : FnScope ["numbers", "below", "number"] ["numbers"] (defScope sCF) := ⟨rfl, rfl, rfl, by decide +kernel, rfl, by decide +kernel, by decide +kernel⟩
theorem ok_cf {f : Addr} {fd : FuncData} (F : Fun K "common_form" "common_form" sCF f fd) (R : TxR K mg C Z) (gl : mg "lcm" = some (.builtin "math.lcm")) : FnOk P w K mg base CX0 1 f fd ["numbers"] (spCF K C) := by
  refine F.ok scCF (fun vs H Q E h => ?_) (fun cdv A outer s H vs Q E hr h => ?_)
  · obtain ⟨l, qs, b, m, M, rfl, _⟩ := h
    rfl
  · obtain ⟨l, qs, b, m, M, rfl, ⟨ps, hl, hP⟩, hq, hlen, hb, hm, hM, hMb, hMd, k⟩ := h
    refine ⟨_, pss_cons (ps_set (i := 1) scCF.nd rfl (Or.inr rfl) pe_int)
      (pss_cons (ps_for PassesOwn.never rfl (pi_tup (pv 0)) (pg_name (i := 2) scCF.nd rfl (Or.inl rfl))
        (pss_one (ps_if (pt_cmpR op_ne (pe_fld (pv 2) rfl) pe_int (nomark _)) (pss_one (ps_set (i := 1) scCF.nd rfl (Or.inr rfl) (pe_callBfun cr_lcmC (by rfl) gl (pa_cons (pv 1) (pa_cons (pe_fld (pv 2) rfl) pa_nil))))) pss_nil)))
      (pss_one (ps_ret (pe_tup (pa_cons (pe_lc (own := [("number", 2)]) (g := gName 2) (tt := tYes) (te := tOp (rI (fun i j => intBits i + intBits j ≤ 134217728) fun i j => .int (i * j)) (tFld K (tVar 2) "n") (tOp (rI (fun _ j => j ≠ 0 ∧ intBits j ≤ 8000) fun i j => .int (i.fdiv j)) (tVar 1) (tFld K (tVar 2) "d"))) rfl scCF.nd (pi_tup (pv 0)) (blkOk_by (N := ["numbers", "below", "number"]) (sc := defScope sCF) (by decide +kernel))
          (fun _ _ _ _ _ => pg_name (i := 2) scCF.nd rfl (Or.inl rfl)) (fun _ _ _ _ _ => pts_nil) (fun _ _ _ _ _ => pe_op op_mulB (pe_fld (pv 2) rfl) (pe_op op_fdivC (pv 1) (pe_fld (pv 2) rfl)))) (pa_cons (pv 1) pa_nil)))))), ?_⟩
    refine ⟨_, rfl, l, rfl, ⟨_, SqT.of hl⟩, for_tup (K := K) (a := l) (xs := ps.map V.ref) (fun i σ H' => H' = H ∧ ∃ (B : Int) (v : Option V), σ = [some (.ref l), some (.int B), v] ∧ 0 < B ∧ (∀ q ∈ qs.take i, q.2 ∣ B) ∧ B ∣ M)
      ⟨rfl, 1, none, rfl, by decide, by simp, Int.one_dvd M⟩ (fun i σ H' _ ⟨e, _⟩ => e ▸ SqT.of hl) ?_ ?_⟩
    · rintro i x σ H' hx ⟨rfl, B, v, rfl, hB0, hd, hBM⟩
      obtain ⟨p, hp, rfl⟩ := item_of hx
      obtain ⟨q, hqi, dx, hpa⟩ := Paired.at hP hp
      have hmem := List.mem_of_getElem? hqi
      obtain ⟨b0, bq⟩ := hq q hmem
      have tk := take_snoc hqi
      refine ⟨_, rfl, p, C, dx, _, _, rfl, hpa, R.cl, R.nD, rf_d _ _, rfl, _, rfl, ite2 (fun c => ?_) (fun c => ?_)⟩
      · have bB := bits_dvd hM hBM hMb
        refine ⟨_, rfl, _, rfl, p, C, dx, _, _, rfl, hpa, R.cl, R.nD, rf_d _ _, B, q.2, rfl, by omega, by omega, by omega, by have := bq.2; omega, rfl, _, _, rfl, ?_, fun x hx2 => ?_, ?_⟩
        · have : 0 < Nat.lcm B.natAbs q.2.natAbs := Nat.lcm_pos (by omega) (by omega)
          omega
        · rw [tk] at hx2
          rcases List.mem_append.mp hx2 with z | z
          · have h2 : (x.2).natAbs ∣ B.natAbs := Int.natAbs_dvd_natAbs.mpr (hd x z)
            have h3 : (x.2).natAbs ∣ Nat.lcm B.natAbs q.2.natAbs := Nat.dvd_trans h2 (Nat.dvd_lcm_left _ _)
            exact Int.natAbs_dvd_natAbs.mp h3
          · have e : x = q := by simpa using z
            subst e
            have h3 : x.2.natAbs ∣ Nat.lcm B.natAbs x.2.natAbs := Nat.dvd_lcm_right _ _
            exact Int.natAbs_dvd_natAbs.mp h3
        · have h3 : Nat.lcm B.natAbs q.2.natAbs ∣ M.natAbs := Nat.lcm_dvd (Int.natAbs_dvd_natAbs.mpr hBM) (Int.natAbs_dvd_natAbs.mpr (hMd q hmem))
          exact Int.natAbs_dvd_natAbs.mp h3
      · have hb1 : q.2 = 1 := by
          have z : ¬ ¬ (V.int q.2 = V.int 1) := by simpa using c
          exact V.int.inj (Classical.not_not.mp z)
        refine ⟨rfl, B, _, rfl, hB0, fun x hx2 => ?_, hBM⟩
        rw [tk] at hx2
        rcases List.mem_append.mp hx2 with z | z
        · exact hd x z
        · have e : x = q := by simpa using z
          rw [e, hb1]
          exact Int.one_dvd B
    · rintro σ H' ⟨rfl, B, v, rfl, hB0, hd, hBM⟩
      have hdA : ∀ q ∈ qs, q.2 ∣ B := fun q z => hd q (by
        rw [List.length_map, hP.length, List.take_length]
        exact z)
      have bB := bits_dvd hM hBM hMb
      refine ⟨_, rfl, l, rfl, ⟨_, SqT.of hl⟩, fun D hD => lc_tup (K := K) (a := l) (xs := ps.map V.ref) (fun i H2 => ColI D H' H2 (partsOf B (qs.take i))) (ColI.start hD) (fun i H2 _ z => .of (z.s _ _ hl)) ?_ ?_⟩
      · rintro i x H2 hx z
        obtain ⟨p, hp, rfl⟩ := item_of hx
        obtain ⟨q, hqi, hqa⟩ := Paired.at hP hp
        obtain ⟨dx, hpa⟩ := hqa.same z.s
        have hmem := List.mem_of_getElem? hqi
        obtain ⟨b0, bq⟩ := hq q hmem
        have b1 : intBits (B.fdiv q.2) ≤ m := PySem.intBits_fdiv_le bB
        have e : partsOf B (qs.take (i + 1)) = partsOf B (qs.take i) ++ [q.1 * B.fdiv q.2] := map_take_snoc hqi
        refine ⟨rfl, _, rfl, p, C, dx, _, _, rfl, hpa, R.cl, R.nN, rf_n _ _, _, rfl, _, rfl, p, C, dx, _, _, rfl, hpa, R.cl, R.nD, rf_d _ _, _, _, rfl, rfl, ⟨by omega, by have := bq.2; omega⟩, _, _, rfl, rfl, (by show intBits q.1 + intBits (B.fdiv q.2) ≤ 134217728; have := bq.1; omega), ?_⟩
        rw [e]
        refine z.push hD same_rfl ?_
        unfold partsOf
        rw [List.length_map, List.length_take]
        omega
      · rintro H2 z
        rw [List.length_map, hP.length, List.take_length] at z
        exact ⟨_, rfl, (by show 2 ≤ sizeLine; decide), fun t ht => k _ t D B (z.s.trans (same_upd ht)) hD upd_same (same_upd ht _ _ z.at_) hB0 hdA hBM⟩
end
end Ind

set_option Elab.async false
set_option linter.all false
set_option maxRecDepth 100000
set_option maxHeartbeats 4000000
set_option exponentiation.threshold 9000
namespace Ind
open PySem PySem.Spec PyProof.Rows L2
open Builtin.Int (intBits)
/-- a row of numbers, by its values -/
def rowF (qs : List Q2) : Fr := fun j => rv (qs.getD j q0)
theorem getD_q {qs : List Q2} {j : Nat} {q : Q2} (h : qs[j]? = some q) : qs.getD j q0 = q := by
  rw [List.getD_eq_getElem?_getD, h]
  rfl
theorem getD_out {qs : List Q2} {j : Nat} (h : qs.length ≤ j) : qs.getD j q0 = q0 := by
  rw [List.getD_eq_getElem?_getD, List.getElem?_eq_none h]
  rfl
theorem rowF_out {qs : List Q2} {j : Nat} (h : qs.length ≤ j) : rowF qs j = 0 := by
  unfold rowF
  rw [getD_out h, rv_q0]
theorem parts_getD {B : Int} {qs : List Q2} (j : Nat) : (partsOf B qs).getD j 0 = (qs.getD j q0).1 * B.fdiv (qs.getD j q0).2 := by
  unfold partsOf
  rw [List.getD_eq_getElem?_getD, List.getElem?_map, List.getD_eq_getElem?_getD]
  cases e : qs[j]? with
  | none =>
    show (0 : Int) = 0 * _
    rw [Int.zero_mul]
  | some q => rfl
theorem fr_parts {B : Int} {qs : List Q2} (hB : 0 < B) (h : ∀ q ∈ qs, 0 < q.2 ∧ q.2 ∣ B) (j : Nat) : fr (partsOf B qs) j = ((B : Int) : Rat) * rowF qs j := by
  unfold fr rowF
  rw [parts_getD]
  have hq : 0 < (qs.getD j q0).2 ∧ (qs.getD j q0).2 ∣ B := by
    cases e : qs[j]? with
    | none =>
      rw [List.getD_eq_getElem?_getD, e]
      exact ⟨by decide, Int.one_dvd B⟩
    | some q =>
      rw [getD_q e]
      exact h q (List.mem_of_getElem? e)
  generalize qs.getD j q0 = q at hq
  obtain ⟨k, e⟩ := hq.2
  have e2 : B.fdiv q.2 = k := fdiv_of_mul (by omega) (e.trans (Int.mul_comm _ _))
  have h1 := cst_ne (show q.2 ≠ 0 by omega)
  have h2 : ((B : Int) : Rat) = ((q.2 : Int) : Rat) * ((k : Int) : Rat) := by rw [e, Rat.intCast_mul]
  rw [e2, Rat.intCast_mul, h2]
  unfold rv
  grind
theorem parts_len (B : Int) (qs : List Q2) : (partsOf B qs).length = qs.length := List.length_map ..
/-- scaled rows -/
theorem Red.scale {w : Nat} {G G' : List Fr} {L : List (Nat × Fr)} (h : Red w G L) (h1 : ∀ g ∈ G, ∃ g' ∈ G', Scal g' g) (h2 : ∀ g' ∈ G', ∃ g ∈ G, Scal g' g) : Red w G' L := by
  refine ⟨fun z hz g' hg' => ?_, fun x hx => (h.spn x hx).trans fun s hs => ?_, h.inc, h.lt, h.one, h.off, h.led⟩
  · obtain ⟨g, hg, a, ha, e⟩ := h2 g' hg'
    have h0 := h.ann z hz g hg
    rw [dt_congr (t := fun j => a * g' j + 0 * g' j) fun j _ => by rw [e]; grind, dt_lin] at h0
    grind
  · obtain ⟨g', hg', a, ha, e⟩ := h1 s hs
    exact .lin a 0 (.mem hg') (.mem hg') fun j => by rw [e]; grind
theorem Spn.comb {w : Nat} {G : List Fr} {L : List (Nat × Fr)} (h : Red w G L) {r : Fr} (hr : Spn G r) {j : Nat} (hj : j < w) : r j = Ind.comb L r j := by
  have a : Ann w (L.map (·.2)) (zL L j) := fun r hr => by
    obtain ⟨x, hx, rfl⟩ := List.mem_map.mp hr
    rw [dt_zL hj _ h.lt, comb_self h.inc h.one h.off x hx]
    grind
  have := hr.ann (h.ann _ a)
  rw [dt_zL hj _ h.lt] at this
  grind
/-- each pivot of one reduced form is a pivot of the other -/
theorem Red.piv_sub {w : Nat} {G : List Fr} {L L' : List (Nat × Fr)} (h : Red w G L) (h' : Red w G L') : ∀ x ∈ L', ∃ y ∈ L, y.1 = x.1 := by
  intro x hx
  refine Classical.byContradiction fun no => ?_
  have c := Spn.comb h (h'.spn x hx) (h'.lt x hx)
  have z : ∀ {M : List (Nat × Fr)}, (∀ y ∈ M, y ∈ L) → Ind.comb M x.2 x.1 = 0 := by
    intro M
    induction M with
    | nil => intro _; rfl
    | cons a M ih =>
      intro hm
      have ha := hm a (by simp)
      have e : x.2 a.1 * a.2 x.1 = 0 := by
        rcases Nat.lt_trichotomy a.1 x.1 with q | q | q
        · rw [h'.led x hx _ q]
          grind
        · exact absurd ⟨a, ha, q⟩ no
        · rw [h.led a ha _ q]
          grind
      show x.2 a.1 * a.2 x.1 + Ind.comb M x.2 x.1 = 0
      rw [e, ih fun y hy => hm y (List.mem_cons_of_mem _ hy)]
      grind
  rw [z fun y hy => hy, h'.one x hx] at c
  grind
theorem inc_eq : ∀ {xs ys : List Nat}, xs.Pairwise (· < ·) → ys.Pairwise (· < ·) → (∀ x, x ∈ xs ↔ x ∈ ys) → xs = ys
  | [], [], _, _, _ => rfl
  | [], y :: ys, _, _, h => absurd ((h y).mpr (by simp)) (by simp)
  | x :: xs, [], _, _, h => absurd ((h x).mp (by simp)) (by simp)
  | x :: xs, y :: ys, hx, hy, h => by
    obtain ⟨ax, px⟩ := List.pairwise_cons.mp hx
    obtain ⟨ay, py⟩ := List.pairwise_cons.mp hy
    have e : x = y := by
      rcases List.mem_cons.mp ((h x).mp (by simp)) with q | q
      · exact q
      · rcases List.mem_cons.mp ((h y).mpr (by simp)) with z | z
        · exact z.symm
        · have := ay x q
          have := ax y z
          omega
    subst e
    rw [inc_eq px py fun z => ?_]
    constructor
    · intro q
      rcases List.mem_cons.mp ((h z).mp (List.mem_cons_of_mem _ q)) with e | e
      · have := ax z q
        omega
      · exact e
    · intro q
      rcases List.mem_cons.mp ((h z).mpr (List.mem_cons_of_mem _ q)) with e | e
      · have := ay z q
        omega
      · exact e
/-- one reduced form: one tuple of pivots -/
theorem Red.piv_eq {w : Nat} {G : List Fr} {L L' : List (Nat × Fr)} (h : Red w G L) (h' : Red w G L') : L.map (·.1) = L'.map (·.1) := by
  refine inc_eq (List.pairwise_map.mpr h.inc) (List.pairwise_map.mpr h'.inc) fun x => ⟨fun hx => ?_, fun hx => ?_⟩
  · obtain ⟨y, hy, rfl⟩ := List.mem_map.mp hx
    obtain ⟨z, hz, e⟩ := h'.piv_sub h y hy
    exact List.mem_map.mpr ⟨z, hz, e⟩
  · obtain ⟨y, hy, rfl⟩ := List.mem_map.mp hx
    obtain ⟨z, hz, e⟩ := h.piv_sub h' y hy
    exact List.mem_map.mpr ⟨z, hz, e⟩
/-! ### dot -/
def prods (ns ms : List Int) (i : Nat) : List Int := (List.range i).map fun j => ns.getD j 0 * ms.getD j 0
theorem prods_succ (ns ms : List Int) (i : Nat) : prods ns ms (i + 1) = prods ns ms i ++ [ns.getD i 0 * ms.getD i 0] := by
  unfold prods
  rw [List.range_succ, List.map_append]
  rfl
theorem sum_append (xs : List Int) (y : Int) : (xs ++ [y]).sum = xs.sum + y := by
  rw [List.sum_append]
  simp
theorem prods_sum (ns ms : List Int) : ∀ i : Nat, (((prods ns ms i).sum : Int) : Rat) = sumTo i fun j => fr ns j * fr ms j
  | 0 => by
    show ((0 : Int) : Rat) = 0
    rfl
  | i + 1 => by
    rw [prods_succ, sum_append, Rat.intCast_add, prods_sum ns ms i, Rat.intCast_mul]
    rfl
/-- a common multiple of a row's denominators -/
def Mult (m : Nat) (qs : List Q2) : Prop := ∃ M : Int, 0 < M ∧ intBits M ≤ m ∧ ∀ q ∈ qs, q.2 ∣ M
/-- a row that the elimination may take -/
structure RowOk (b m : Nat) (qs : List Q2) : Prop where
  lo : ∀ q ∈ qs, Lo q
  bq : ∀ q ∈ qs, Bq b q
  len : qs.length ≤ 100
  mul : Mult m qs
def spDot (C : Addr) : Sp := fun vs H Q _ => ∃ (p r : Addr) (as bs : List Q2) (b m : Nat), vs = [.ref p, .ref r] ∧ Tp (RatQ C) H p as ∧ Tp (RatQ C) H r bs ∧ as.length = bs.length ∧ RowOk b m as ∧ RowOk b m bs ∧ b ≤ 4000 ∧ m ≤ 4000 ∧
  ∀ (H' : Hp) (x : Addr) (q : Q2), Same H H' → RatQ C H' x q → Lo q → rv q = dt as.length (rowF as) (rowF bs) → Q (.ref x) H'
section
variable {P : Program} {w : World} {K : PySem.W.Frag} {mg : Str → Option Value} {base : Heap} {C Z : Addr}
theorem scDot : FnScope ["a", "b", "left", "below", "right", "under", "n", "m"] ["a", "b"] (defScope sDot) := ⟨rfl, rfl, rfl, by decide +kernel, rfl, by decide +kernel, by decide +kernel⟩
theorem ok_dot {f fC fI : Addr} {fd fdC fdI : FuncData} {ds : List Value} (F : Fun K "dot" "dot" sDot f fd) (R : TxR K mg C Z) (M : MkR P w K mg base C Z fI fdI ds) (gl : mg "lcm" = some (.builtin "math.lcm")) (gs : mg "sum" = none) (gz : mg "zip" = none)
    (FC : Fun K "common_form" "common_form" sCF fC fdC) (bC : Binds K fdC ["numbers"] []) (gC : mg "common_form" = some (.ref fC)) : FnOk P w K mg base CX0 43 f fd ["a", "b"] (spDot C) := by
  have GC : FnOk P w K mg base CX0 1 fC fdC ["numbers"] (spCF K C) := ok_cf FC R gl
  refine F.ok scDot (fun vs H Q E h => ?_) (fun cdv A outer s H vs Q E hr h => ?_)
  · obtain ⟨p, r, as, bs, b, m, rfl, _⟩ := h
    rfl
  · obtain ⟨p, r, as, bs, b, m, rfl, hA, hB, hl, oA, oB, hb, hm, k⟩ := h
    have h1 := hr.mono (show 1 ≤ 42 by decide)
    refine ⟨_, pss_cons (ps_asg (pe_call GC h1 (by rfl) gC FC.kp bC .nil pass0 (pa_cons (pv 0) pa_nil)) (pg_tup (by rfl) (pgs_cons (pg_name (i := 2) scDot.nd rfl (Or.inl rfl)) (pgs_cons (pg_name (i := 3) scDot.nd rfl (Or.inl rfl)) pgs_nil))))
      (pss_cons (ps_asg (pe_call GC h1 (by rfl) gC FC.kp bC .nil pass0 (pa_cons (pv 1) pa_nil)) (pg_tup (by rfl) (pgs_cons (pg_name (i := 4) scDot.nd rfl (Or.inl rfl)) (pgs_cons (pg_name (i := 5) scDot.nd rfl (Or.inl rfl)) pgs_nil))))
      (pss_one (ps_ret (pe_make M.cm M.fn hr (by rfl) R.mgC M.b2 .nil passL (pa_cons (pe_callB (cr_sum rfl) (by rfl) gs (by decide +kernel) (pa_cons (pe_lc (own := [("n", 6), ("m", 7)]) (g := gTup K 2 (gCons (gName 6) (gCons (gName 7) gNil))) (tt := tYes) rfl scDot.nd (pi_zip (by rfl) gz (pa_cons (pv 2) (pa_cons (pv 4) pa_nil))) (blkOk_by (N := ["a", "b", "left", "below", "right", "under", "n", "m"]) (sc := defScope sDot) (by decide +kernel))
          (fun _ _ _ _ _ => pg_tup (by rfl) (pgs_cons (pg_name (i := 6) scDot.nd rfl (Or.inl rfl)) (pgs_cons (pg_name (i := 7) scDot.nd rfl (Or.inl rfl)) pgs_nil))) (fun _ _ _ _ _ => pts_nil)
          (fun _ _ _ _ _ => pe_op op_mulB (pv 6) (pv 7))) pa_nil)) (pa_cons (pe_op op_mulB (pv 3) (pv 5)) pa_nil)))))), ?_⟩
    obtain ⟨MA, a1, a2, a3⟩ := oA.mul
    obtain ⟨MB, b1, b2, b3⟩ := oB.mul
    refine ⟨_, rfl, p, as, b, m, MA, rfl, hA, fun q hq => ⟨(oA.lo q hq).pos, oA.bq q hq⟩, oA.len, hb, hm, a1, a2, a3, fun H1 t1 l1 B1 s1 _ ht1 hl1 p1 d1 e1 => ?_⟩
    refine ⟨t1, _, rfl, SqT.of ht1, rfl, _, _, rfl, _, _, rfl, rfl, ?_⟩
    refine ⟨_, rfl, r, bs, b, m, MB, rfl, (VecR.stb C).same s1 hB, fun q hq => ⟨(oB.lo q hq).pos, oB.bq q hq⟩, oB.len, hb, hm, b1, b2, b3, fun H2 t2 l2 B2 s2 _ ht2 hl2 p2 d2 e2 => ?_⟩
    refine ⟨t2, _, rfl, SqT.of ht2, rfl, _, _, rfl, _, _, rfl, rfl, ?_⟩
    have hl1' := s2 _ _ hl1
    have bits : ∀ {qs : List Q2} {B M : Int}, RowOk b m qs → 0 < M → intBits M ≤ m → B ∣ M → ∀ j, intBits ((partsOf B qs).getD j 0) ≤ 8000 := fun {qs B M} o hM hMb hd j => by
      rw [parts_getD]
      have c1 := bits_dvd hM hd hMb
      have c2 : intBits (B.fdiv (qs.getD j q0).2) ≤ m := PySem.intBits_fdiv_le c1
      have c3 : intBits (qs.getD j q0).1 ≤ b := by
        cases e : qs[j]? with
        | none =>
          rw [List.getD_eq_getElem?_getD, e]
          exact Nat.le_trans (show intBits 0 ≤ 0 by decide) (Nat.zero_le _)
        | some q =>
          rw [getD_q e]
          exact (o.bq q (List.mem_of_getElem? e)).1
      have := PySem.intBits_mul_le c3 c2
      omega
    have ln : (partsOf B1 as).length = as.length := parts_len ..
    have lm : (partsOf B2 bs).length = as.length := by rw [parts_len, hl]
    refine ⟨_, rfl, _, rfl, l1, l2, _, _, rfl, SqL.of hl1', SqL.of hl2, fun D hD => lc_it (walk_zip (K := K) (a := l1) (b := l2) (xs := (partsOf B1 as).map V.int) (ys := (partsOf B2 bs).map V.int) (n := as.length) (by rw [List.length_map, List.length_map, ln, lm, Nat.min_self]))
      (fun i H3 => ColI D H2 H3 (prods (partsOf B1 as) (partsOf B2 bs) i)) (ColI.start hD) (fun i H3 _ z => ⟨z.s.seq (SqL.of hl1'), z.s.seq (SqL.of hl2)⟩) ?_ ?_⟩
    · rintro i x H3 H4 hi z ⟨T, x1, x2, rfl, hT, rfl, g1, g2⟩
      obtain ⟨n, hn, rfl⟩ := int_of g1
      obtain ⟨m', hm', rfl⟩ := int_of g2
      have c1 := bits oA a1 a2 e1 i
      have c2 := bits oB b1 b2 e2 i
      rw [getD_mem hn] at c1
      rw [getD_mem hm'] at c2
      refine ⟨T, _, rfl, SqT.of upd_same, rfl, _, _, rfl, _, _, rfl, rfl, rfl, _, rfl, _, rfl, _, _, rfl, rfl, (by show intBits n + intBits m' ≤ 134217728; omega), ?_⟩
      rw [prods_succ, getD_mem hn, getD_mem hm']
      refine z.push hD (same_upd hT) ?_
      unfold prods
      rw [List.length_map, List.length_range]
      have := oA.len
      omega
    · rintro H3 z
      have c1 := bits_dvd a1 e1 a2
      have c2 := bits_dvd b1 e2 b2
      refine ⟨D, _, rfl, SqL.of z.at_, _, rfl, _, rfl, _, _, rfl, rfl, (by show intBits B1 + intBits B2 ≤ 134217728; omega), ?_⟩
      have hne : B1 * B2 ≠ 0 := Int.mul_ne_zero (by omega) (by omega)
      refine mk_ok hne fun x H5 rx s5 _ => k H5 x (mkq _ _) ((s1.trans s2).trans (z.s.trans s5)) rx (lo_mk hne) ?_
      rw [rv_mk hne, prods_sum, Rat.intCast_mul]
      have f1 := fr_parts p1 (fun q hq => ⟨(oA.lo q hq).pos, d1 q hq⟩)
      have f2 := fr_parts p2 (fun q hq => ⟨(oB.lo q hq).pos, d2 q hq⟩)
      have e : (sumTo as.length fun j => fr (partsOf B1 as) j * fr (partsOf B2 bs) j) = (((B1 : Int) : Rat) * ((B2 : Int) : Rat)) * dt as.length (rowF as) (rowF bs) := by
        have l := sumTo_lin (((B1 : Int) : Rat) * ((B2 : Int) : Rat)) 0 as.length (fun j => rowF as j * rowF bs j) (fun _ => 0)
        unfold dt
        rw [show (((B1 : Int) : Rat) * ((B2 : Int) : Rat)) * sumTo as.length (fun j => rowF as j * rowF bs j) = (((B1 : Int) : Rat) * ((B2 : Int) : Rat)) * sumTo as.length (fun j => rowF as j * rowF bs j) + 0 * sumTo as.length (fun _ => 0) by grind, ← l]
        refine sumTo_congr fun j _ => ?_
        rw [f1 j, f2 j]
        grind
      have g1 := cst_ne (show B1 ≠ 0 by omega)
      have g2 := cst_ne (show B2 ≠ 0 by omega)
      rw [e]
      grind
end
end Ind

set_option Elab.async false
set_option linter.all false
set_option maxRecDepth 100000
set_option maxHeartbeats 4000000
namespace Ind
open PySem PySem.Spec PyProof.Rows L2
/-! ### a def's promise that knows how great the heap was at its call -/
structure FnY (P : Program) (w : World) (K : PySem.W.Frag) (mg : Str → Option Value) (base : Heap) (k : Nat) (f : Addr) (fd : FuncData) (ps : List Str)
    (sp : Nat → Sp) : Prop where
  len : ∀ n vs H Q E, sp n vs H Q E → vs.length = ps.length
  run : ∀ (A : Around) (outer : List Env) (s : Shared) (H : Hp) (args : Args) (us : List Value) (vs : List V) (Q : VK) (E : XK),
    Room k A → Env0 P w K mg base A outer s H → BindsTo s fd args (ps.zip us) → Vals vs us → sp s.heap.objs.size vs H Q E →
      codeAny (model P w) A (.call (.ref f) args) (CR CX0 outer P w H s Q E) s
theorem fn_young {P : Program} {w : World} {K : PySem.W.Frag} {mg : Str → Option Value} {base : Heap} {x qual : Str} {st : Stmt} {f : Addr} {fd : FuncData} {N ps : List Str}
    {k : Nat} {sp : Nat → Sp} (F : Fun K x qual st f fd) (S : FnScope N ps (defScope st)) (len : ∀ n vs H Q E, sp n vs H Q E → vs.length = ps.length)
    (body : ∀ (cdv : Value) (A : Around) (outer : List Env) (s : Shared) (H : Hp) (vs : List V) (Q : VK) (E : XK),
      Room k (A.deeper (envOfC qual (defScope st) s.heap.objs.size f cdv)) → sp s.heap.objs.size vs H Q E →
      ∃ t, PSs (cxOf CX0 P w K mg base N qual (defScope st) f cdv A outer s H E).nox (defBody st) t ∧ t { nx := fun _ H' => Q .non H', rt := Q } (start N vs) H) :
    FnY P w K mg base (k + 1) f fd ps sp := by
  obtain ⟨oc, od, kV, doc, pm, an, cdv, ct, osl, rfl, lk, hcd⟩ := F.ex
  constructor
  · exact len
  intro A outer s H args us vs Q E hr e0 hb r hsp
  -- the text's own facts as the heap stands at the call
  have keep : ∀ b o, base.get? b = some o → s.heap.get? b = some o := fun b o e => (e0.bs b o e).1
  have kx := e0.mod.kin.keeps keep
  have parts : ∀ y ∈ ps.zip us, (defScope st).names.lookup y.1 = some .local ∨
      ((defScope st).names.lookup y.1 = some .cell ∧ ((cellsFrom (s.heap.objs.size + 1) (defScope st).names []).lookup y.1).isSome = true) := by
    rintro ⟨n, v⟩ hy
    refine (S.par n (List.of_mem_zip hy).1).imp id fun q => ⟨q, PySem.W.cellsFrom_some _ _ _ (.inl q)⟩
  refine codeAny_call_function hr.depth (kx _ _ lk) rfl S.co S.gen rfl
    (PySem.W.codeRec_of kx hcd) (hb _ _ _ _ (wpAny_newFunctionEnv_cells S.kind parts ?_))
  rintro env rfl s1 x
  refine ⟨(e0.mod.nolimit.keeps keep).keeps x.toInCall.keep, codeAny_func ?_⟩
  obtain ⟨t, ht, hq⟩ := body cdv A outer s H vs Q E (hr.deeper _) hsp
  have I := inv_start (CX := CX0) (qual := qual) (E := E) S hr.hd e0 (len _ _ _ _ _ hsp) r x
  have done : ∀ {s' : Shared} {σ' : L2.St} {H' : Hp} {v : V} {u : Value}, Inv (cxOf CX0 P w K mg base N qual (defScope st) f cdv A outer s H E) [] σ' H' s' →
      RelV v u → Q v H' → CE outer P w H s Q u s' := by
    intro s' σ' H' v u J rv q
    exact ⟨v, H', J.os, J.bare, J.base, J.hok, rv, q⟩
  refine wpAny_mono (ht.nox.run [] s1 (start N vs) H _ I hq) ?_ fun _ _ hs => hs
  rintro (_ | _ | _ | u) s' hs
  · obtain ⟨σ', H', J, q⟩ := hs
    exact done (v := V.non) (u := Value.none) J rfl q
  · exact hs.elim fun _ z => z.elim fun _ z => z.2.elim
  · exact hs.elim fun _ z => z.elim fun _ z => z.2.elim
  · obtain ⟨v, σ', H', J, rv, q⟩ := hs
    exact done J rv q
/-! ### iter(t), t a tuple -/
/-- at it an iterator over the tuple at t -/
def ItT (t it : Addr) : HO := .ext fun h => h.IsTupleIter it t 0
theorem itT_ok {P : Program} {w : World} {H : Hp} {h : Heap} {t it : Addr} (e : h.IsTupleIter it t 0) : ObjOk P w H h it (ItT t it) :=
  ⟨e, let ⟨o, q, _⟩ := e; ⟨o, q⟩, fun _ _ q k => let ⟨o, a, b⟩ := q; ⟨o, k _ a, b⟩⟩
def rIterT (K : PySem.W.Frag) (n : Nat) : List V → Hp → VK → Prop := fun xs H Q => ∃ (t : Addr) (zs : List V), xs = [.ref t] ∧ SqT K H t zs ∧
  ∀ it, H it = none → n ≤ it → Q (.ref it) (upd H it (ItT t it))
theorem call_iterT {X : Cx} : CallR X (.builtin "iter") (rIterT X.K X.s_0.heap.objs.size) := by
  intro pins s σ H xs us Q I r h
  obtain ⟨t, zs, rfl, hq, q⟩ := h
  obtain rfl := Vals.ref1 r
  obtain ⟨its, rv, p, hz⟩ := I.tuple hq
  have ht : s.heap.IsTuple t its.toArray := p
  refine Calls.call_function_entry (by decide +kernel) (by decide +kernel) PySem.W.kdk_entry_iter (PySem.W.kdk_args_iter _) ?_
  unfold Builtin.«iter»
  refine wpAny_bind (m := someArgs "iter" 1 2 _) (wpAny_of_eq (a := [Value.ref t]) (by first | rfl | kernel_rfl!) ?_)
  show wpAny _ _ (pyIter (.ref t) >>= _) _ _ _
  refine wpAny_bind (wpAny_pyIter_tuple ht (wpAny_pure ⟨_, rfl, ?_⟩))
  have st : (s.heap.push { cls := .type "tuple_iterator", data := .fields #[.ref t, .int 0 0] }).IsTupleIter s.heap.objs.size t 0 := ⟨_, Heap.get?_push_size _ rfl, rfl, rfl⟩
  exact ⟨.ref s.heap.objs.size, _, I.laid (t' := s.toks) (fun _ _ e => Heap.get?_push_of_some _ e) (Nat.le_refl _) (itT_ok st), rfl, q _ (I.hok.fresh (Nat.le_refl _)) I.sz⟩
/-! ### for x in o, o an own instance whose __iter__ says iter(self.F), F a tuple -/
def spIt (K : PySem.W.Frag) (C : Addr) (fld : Str) : Nat → Sp := fun n vs H Q _ => ∃ (a dx t : Addr) (fs : List (Str × V)) (zs : List V), vs = [.ref a] ∧ H a = some (.ins C dx fs) ∧ fs.lookup fld = some (.ref t) ∧ SqT K H t zs ∧
  ∀ it, H it = none → n ≤ it → Q (.ref it) (upd H it (ItT t it))
def iOwn (K : PySem.W.Frag) (C : Addr) (fld : Str) (te : TE) : TI := fun σ H R => te σ H fun x H1 => ∃ (a dx t : Addr) (fs : List (Str × V)) (zs : List V), x = .ref a ∧ H1 a = some (.ins C dx fs) ∧ fs.lookup fld = some (.ref t) ∧ SqT K H1 t zs ∧ R (Itt K t) H1
theorem pi_own {X : Cx} {tg e : Expr} {te : TE} {C f : Addr} {fd : FuncData} {ps : List Str} {fld : Str} {n : Nat} (F : FnY X.prog X.w X.K X.mg X.base n f fd ps (spIt X.K C fld))
    (hs : PySem.W.findIn X.K (.ref C) "__iter__" = some (some (.ref f))) (hf : PySem.W.isFn X.K (.ref f) = true) (hb : Binds X.K fd ps []) (hr : Room n X.A) (he : PE X e te) :
    PI X tg e (iOwn X.K C fld te) := by
  refine ⟨fun pins s σ H R I h => thn (he.run pins s σ H _ I h) fun u s1 z => ?_⟩
  obtain ⟨x, H1, I1, rx, a, dx, t, fs, zs, rfl, ha, hfl, ht, q⟩ := z
  cases rx
  obtain ⟨mA, J, _⟩ := ins_get I1.hok ha
  obtain ⟨od, J, _⟩ := J.look
  obtain ⟨m, hF⟩ := I1.fr
  refine PySem.W.owit_iter hF I1.ok.mod.kin J hs hf ?_
  have hsp : spIt X.K C fld s1.heap.objs.size [.ref a] H1 (fun v H' => ∃ it, v = .ref it ∧ H1 it = none ∧ s1.heap.objs.size ≤ it ∧ H' = upd H1 it (ItT t it)) (fun _ _ _ => False) :=
    ⟨a, dx, t, fs, zs, rfl, ha, hfl, ht, fun it h1 h2 => ⟨it, rfl, h1, h2, rfl⟩⟩
  have hl := F.len _ _ _ _ _ hsp
  have r2 : Vals [V.ref a] [Value.ref a] := .cons rfl .nil
  refine wpAny_call (codeAny_mono (F.run X.A X.stack s1 H1 ⟨[.ref a], []⟩ [.ref a] [.ref a] _ _ hr I1.env0 (by
    have := hb s1 [.ref a] I1.kIn (by simpa using hl)
    simpa using this) r2 hsp) ?_)
  rintro (er | fl) s2 hq
  · exact hq.elim
  · cases fl with
    | ret u =>
      obtain ⟨v, H', I', rv, it, ev, hn, hsz, eH⟩ := I1.after hq
      subst ev
      subst eH
      cases rv
      have st : s2.heap.IsTupleIter it t 0 := (I'.hok it _ upd_same).1
      have hT : s2.TypeIs (.ref it) "tuple_iterator" := st.typeIs
      show PySem.W.OwitIt _ _ _ _ _ _
      unfold PySem.W.OwitIt
      refine wpAny_specialOf hT PySem.F.slot_tuple_iterator_next.lookup ?_
      have Id := ItX.inv_drop I' (φ := fun h => h.IsTupleIter it t 0) upd_same
      have ed : ItX.dropH (upd H1 it (ItT t it)) it = H1 := ItX.dropH_upd hn
      rw [ed] at Id
      refine ⟨it, [it], _, _, H1, rfl, Id, turn_tuple t it, st, fun b hb => ?_, q⟩
      have e : b = it := by simpa using hb
      subst e
      have fp := ItX.inv_fp I' (a := b) upd_same (Nat.le_trans I1.sz hsz)
      rw [ed] at fp
      exact fp
    | next => exact False.elim hq
    | brk => exact False.elim hq
    | cont => exact False.elim hq
end Ind

set_option Elab.async false
set_option linter.all false
set_option maxRecDepth 100000
set_option maxHeartbeats 4000000
set_option exponentiation.threshold 9000
namespace Ind
open PySem PySem.Spec PyProof.Rows L2
open Builtin.Int (intBits)
abbrev sMI : Stmt := inClass (top 17) 0
abbrev sMLen : Stmt := inClass (top 17) 1
abbrev sMIter : Stmt := inClass (top 17) 3
/-! ### a matrix -/
theorem rw_ : ¬ (("rows" : Str) = "width") := by decide +kernel
theorem wr_ : ¬ (("width" : Str) = "rows") := by decide +kernel
def mf (t : Addr) (w : Int) : List (Str × V) := putF "width" (.int w) (putF "rows" (.ref t) [])
theorem mf_rows (t : Addr) (w : Int) : (mf t w).lookup ("rows" : Str) = some (.ref t) := by
  unfold mf
  rw [lookup_putF, if_neg rw_, lookup_putF, if_pos rfl]
theorem mf_width (t : Addr) (w : Int) : (mf t w).lookup ("width" : Str) = some (.int w) := by
  unfold mf
  rw [lookup_putF, if_pos rfl]
theorem mf_no (t : Addr) (w : Int) {m : Str} (h1 : ¬ m = "width") (h2 : ¬ m = "rows") : (mf t w).lookup m = none := by
  unfold mf
  rw [lookup_putF, if_neg h1, lookup_putF, if_neg h2]
  all_goals rfl
abbrev MatT (C : Addr) : FH (List (List Q2)) := Tp (Tp (RatQ C))
theorem MatT.stb (C : Addr) : Stb (MatT C) := Tp.stb (VecR.stb C)
def MatAt (C CM : Addr) (w : Int) : FH (List (List Q2)) := fun H p rs => ∃ dx t, H p = some (.ins CM dx (mf t w)) ∧ MatT C H t rs
theorem MatAt.stb (C CM : Addr) (w : Int) : Stb (MatAt C CM w) := fun H H' p rs s ⟨dx, t, e, q⟩ => ⟨dx, t, s _ _ e (by intro xs z; cases z), MatT.stb C H H' t rs s q⟩
/-- a list or a tuple of numbers -/
def RowLT (C : Addr) : FH (List Q2) := fun H p qs => Ls (RatQ C) H p qs ∨ Tp (RatQ C) H p qs
theorem RowLT.same {C : Addr} {H H' : Hp} {p : Addr} {qs : List Q2} (s : Same H H') (x : RowLT C H p qs) : RowLT C H' p qs := x.imp (Ls.same (RatQ.stb C) s) ((VecR.stb C).same s)
def RowsLT (C : Addr) : FH (List (List Q2)) := Ls (RowLT C)
theorem RowsLT.same {C : Addr} {H H' : Hp} {p : Addr} {rs : List (List Q2)} (s : Same H H') (x : RowsLT C H p rs) : RowsLT C H' p rs := let ⟨ps, e, q⟩ := x; ⟨ps, s _ _ e, Paired.imp (fun _ _ f => f.same s) q⟩
/-- what the top says of Matrix and of built-ins -/
structure TxM (K : PySem.W.Frag) (mg : Str → Option Value) (CM : Addr) : Prop where
  cl : Cls K CM
  nR : NoAttr K CM "rows"
  nW : NoAttr K CM "width"
  mgM : mg "Matrix" = some (.ref CM)
  tuple : mg "tuple" = none
  list : mg "list" = none
  iter : mg "iter" = none
  zip : mg "zip" = none
  sum : mg "sum" = none
  enum : mg "enumerate" = none
def rTup (K : PySem.W.Frag) : List V → Hp → VK → Prop := fun xs H Q => ∃ p ys, xs = [.ref p] ∧ ((SqL K H p ys ∧ ∀ l, H l = none → Q (.ref l) (upd H l (.tup ys))) ∨ (SqT K H p ys ∧ Q (.ref p) H))
theorem call_tup {X : Cx} : CallR X (.type "tuple") (rTup X.K) := call_tuple_of
def spMI (C CM : Addr) : Sp := fun vs H Q _ => ∃ (p dx l : Addr) (rs : List (List Q2)) (w : Int), vs = [.ref p, .ref l, .int w] ∧ H p = some (.ins CM dx []) ∧ RowsLT C H l rs ∧ rs.length ≤ 100 ∧
  ∀ H' : Hp, MatAt C CM w H' p rs → (∀ b o, H b = some o → b ≠ p → H' b = some o) → Q .non H'
section
variable {P : Program} {w : World} {K : PySem.W.Frag} {mg : Str → Option Value} {base : Heap} {C Z CM : Addr}
theorem scMI : FnScope ["self", "rows", "width", "row"] ["self", "rows", "width"] (defScope sMI) := ⟨rfl, rfl, rfl, by decide +kernel, rfl, by decide +kernel, by decide +kernel⟩
theorem ok_mi {f : Addr} {fd : FuncData} (F : Fun K "__init__" "Matrix.__init__" sMI f fd) (TM : TxM K mg CM) : FnOk P w K mg base CX0 1 f fd ["self", "rows", "width"] (spMI C CM) := by
  refine F.ok scMI (fun vs H Q E h => ?_) (fun cdv A outer s H vs Q E hr h => ?_)
  · obtain ⟨p, dx, l, rs, w, rfl, _⟩ := h
    rfl
  · obtain ⟨p, dx, l, rs, w, rfl, hp, ⟨ps, hl, hP⟩, hlen, k⟩ := h
    refine ⟨_, pss_cons (ps_fld (pv 0) (pe_callTy call_tuple_of (by rfl) TM.tuple (by decide +kernel) (pa_cons (pe_lc (own := [("row", 3)]) (g := gName 3) (tt := tYes) (te := tCB (rTup K) (tCons (tVar 3) tNil)) rfl scMI.nd (pi_list (pv 1)) (blkOk_by (N := ["self", "rows", "width", "row"]) (sc := defScope sMI) (by decide +kernel))
          (fun _ _ _ _ _ => pg_name (i := 3) scMI.nd rfl (Or.inl rfl)) (fun _ _ _ _ _ => pts_nil) (fun _ _ _ _ _ => pe_callTy (T := "tuple") (r := rTup K) call_tup (by rfl) TM.tuple (by decide +kernel) (pa_cons (pv 3) pa_nil))) pa_nil)) rfl)
      (pss_one (ps_fld (pv 0) (pv 2) rfl)), ?_⟩
    refine ⟨_, rfl, l, rfl, ⟨_, SqL.of hl⟩, fun D hD => lc_list (K := K) (a := l) (xs := ps.map V.ref) (fun i H2 => Col (Tp (RatQ C)) D H H2 (rs.take i)) (Col.start hD) (fun i H2 _ z => z.s.seq (SqL.of hl)) ?_ ?_⟩
    · rintro i x H2 hx z
      obtain ⟨a, ha, rfl⟩ := item_of hx
      obtain ⟨qs, hqs, hrow⟩ := Paired.at hP ha
      have e := take_snoc hqs
      have small : (rs.take i).length ≤ 1000 := by
        rw [List.length_take]
        omega
      refine ⟨rfl, _, rfl, ?_⟩
      rcases hrow.same z.s with ⟨qa, hq, hQ⟩ | ⟨qa, hq, hQ⟩
      · refine ⟨a, _, rfl, .inl ⟨SqL.of hq, fun t ht => ?_⟩⟩
        rw [e]
        exact z.push ((VecR.stb C).x D) hD (same_upd ht) ⟨qa, upd_same, Paired.imp (fun _ _ f => (RatQ.stb C).same (same_upd ht) f) hQ⟩ small
      · refine ⟨a, _, rfl, .inr ⟨SqT.of hq, ?_⟩⟩
        rw [e]
        exact z.push ((VecR.stb C).x D) hD same_rfl ⟨qa, hq, hQ⟩ small
    · rintro H2 z
      rw [List.length_map, hP.length, List.take_length] at z
      obtain ⟨qa, hq, hQ⟩ := z.at_
      refine ⟨D, _, rfl, .inl ⟨SqL.of hq, fun t ht => ?_⟩⟩
      have s2 := z.s.trans (same_upd (o := .tup (qa.map V.ref)) ht)
      have htp : t ≠ p := fun e => by
        rw [e, z.s _ _ hp] at ht
        cases ht
      refine ⟨_, rfl, p, CM, dx, [], rfl, s2 _ _ hp, TM.cl, TM.nR, by decide, ?_⟩
      refine ⟨_, rfl, _, rfl, p, CM, dx, _, rfl, upd_same, TM.cl, TM.nW, (by show 1 < 1000; decide), ?_⟩
      refine k _ ⟨dx, t, upd_same, ?_⟩ fun b o eb nb => ?_
      · have st : MatT C (upd H2 t (.tup (qa.map V.ref))) t rs := ⟨qa, upd_same, Paired.imp (fun _ _ f => (VecR.stb C).same (same_upd ht) f) hQ⟩
        have up : ∀ {Ha : Hp} {o : HO} {fs : List (Str × V)} {u : Addr} {bs : List (List Q2)}, Ha p = some (.ins CM dx fs) → fs.lookup ("n" : Str) = none → MatT C Ha u bs → u ≠ p → MatT C (upd Ha p o) u bs := fun {Ha o fs u bs} hpa hn hm hu => by
          obtain ⟨pa, e1, e2⟩ := hm
          refine ⟨pa, by rw [upd_ne hu]; exact e1, Paired.imp (fun a b ⟨pb, e3, e4⟩ => ⟨pb, ?_, Paired.imp (fun c q ⟨dq, e5⟩ => ⟨dq, ?_⟩) e4⟩) e2⟩
          · rw [upd_ne]
            · exact e3
            · intro z
              rw [z, hpa] at e3
              cases e3
          · rw [upd_ne]
            · exact e5
            · intro z
              rw [z, hpa] at e5
              have e6 := (HO.ins.inj (Option.some.inj e5)).2.2
              rw [e6] at hn
              rw [rf_n] at hn
              cases hn
        refine up (fs := putF "rows" (.ref t) []) upd_same (by rw [lookup_putF, if_neg (by decide +kernel)]; rfl) (up (s2 _ _ hp) rfl st htp) htp
      · rw [upd_ne nb, upd_ne nb]
        exact s2 _ _ eb
/-- how Matrix's __init__ stands -/
structure MkM (P : Program) (w : World) (K : PySem.W.Frag) (mg : Str → Option Value) (base : Heap) (C CM : Addr) (fI : Addr) (fdI : FuncData) : Prop where
  cm : Mk K CM fI
  fn : FnOk P w K mg base CX0 1 fI fdI ["self", "rows", "width"] (spMI C CM)
  b3 : Binds K fdI ["self", "rows", "width"] []
/-- behind Matrix(l, w) -/
theorem mkM_ok {l : Addr} {rs : List (List Q2)} {wd : Int} {H1 : Hp} {Q : VK} {E : XK} (hl : RowsLT C H1 l rs) (hn : rs.length ≤ 100) (h : ∀ (p : Addr) (H' : Hp), MatAt C CM wd H' p rs → Same H1 H' → H1 p = none → Q (.ref p) H') :
    ∀ x dx, H1 x = none → H1 dx = none → dx ≠ x → spMI C CM [.ref x, .ref l, .int wd] (upd (upd H1 dx (.own x)) x (.ins CM dx [])) (fun v H2 => v = .non ∧ Q (.ref x) H2) E := fun x dx nx nd ne => by
  have nx2 : (upd H1 dx (.own x)) x = none := by
    rw [upd_ne (Ne.symm ne)]
    exact nx
  exact ⟨x, dx, l, rs, wd, rfl, upd_same, hl.same ((same_upd nd).trans (same_upd nx2)), hn, fun H' r k => ⟨rfl, h x H' r (Same.made nx nd k) nx⟩⟩
/-! ### len(m), iter(m) -/
def spMLen (C CM : Addr) : Sp := fun vs H Q _ => ∃ (p : Addr) (rs : List (List Q2)) (w : Int), vs = [.ref p] ∧ MatAt C CM w H p rs ∧ Q (.int (rs.length : Int)) H
theorem scMLen : FnScope ["self"] ["self"] (defScope sMLen) := ⟨rfl, rfl, rfl, by decide +kernel, rfl, by decide +kernel, by decide +kernel⟩
theorem scMIter : FnScope ["self"] ["self"] (defScope sMIter) := ⟨rfl, rfl, rfl, by decide +kernel, rfl, by decide +kernel, by decide +kernel⟩
theorem ok_mlen {f : Addr} {fd : FuncData} (F : Fun K "__len__" "Matrix.__len__" sMLen f fd) (T : TxL K mg) (TM : TxM K mg CM) : FnOk P w K mg base CX0 1 f fd ["self"] (spMLen C CM) := by
  refine F.ok scMLen (fun vs H Q E h => ?_) (fun cdv A outer s H vs Q E hr h => ?_)
  · obtain ⟨p, rs, w, rfl, _⟩ := h
    rfl
  · obtain ⟨p, rs, w, rfl, ⟨dx, t, hp, ps, ht, hP⟩, k⟩ := h
    refine ⟨_, pss_one (ps_ret (pe_callB call_len_seq (by rfl) T.len PySem.boot_len (pa_cons (pe_fld (pv 0) rfl) pa_nil))), ?_⟩
    refine ⟨_, rfl, p, CM, dx, _, _, rfl, hp, TM.cl, TM.nR, mf_rows _ _, t, _, rfl, .inr (SqT.of ht), ?_⟩
    rw [List.length_map, hP.length]
    exact k
theorem ok_miter {f : Addr} {fd : FuncData} (F : Fun K "__iter__" "Matrix.__iter__" sMIter f fd) (TM : TxM K mg CM) : FnY P w K mg base 1 f fd ["self"] (spIt K CM "rows") := by
  refine fn_young F scMIter (fun n vs H Q E h => ?_) (fun cdv A outer s H vs Q E hr h => ?_)
  · obtain ⟨a, dx, t, fs, zs, rfl, _⟩ := h
    rfl
  · obtain ⟨a, dx, t, fs, zs, rfl, ha, hf, ht, k⟩ := h
    refine ⟨_, pss_one (ps_ret (pe_callB call_iterT (by rfl) TM.iter (by decide +kernel) (pa_cons (pe_fld (pv 0) rfl) pa_nil))), ?_⟩
    exact ⟨_, rfl, a, CM, dx, _, _, rfl, ha, TM.cl, TM.nR, hf, t, zs, rfl, ht, k⟩
end
end Ind

set_option Elab.async false
set_option linter.all false
set_option maxRecDepth 100000
set_option maxHeartbeats 4000000
namespace Ind
open PySem PySem.Spec PyProof.Rows L2
/-! ### zip(t, l), t a tuple, l a list -/
def ItzM (K : PySem.W.Frag) (a b : Addr) : It where
  go := fun i H => ∃ (xs ys : List V) (x y : V), SqT K H a xs ∧ SqL K H b ys ∧ xs[i]? = some x ∧ ys[i]? = some y
  yld := fun i H v H' => ∃ T x y, v = .ref T ∧ H T = none ∧ H' = upd H T (.tup [x, y]) ∧ (∀ xs, SqT K H a xs → xs[i]? = some x) ∧ ∀ ys, SqL K H b ys → ys[i]? = some y
  stop := fun i H => ∃ xs ys : List V, SqT K H a xs ∧ SqL K H b ys ∧ i = min xs.length ys.length
/-- how its cells stand at turn i -/
structure ZmAt (z TI TO i1 i2 a b : Addr) (i : Nat) (h : Heap) : Prop where
  hz : IsZip h z TI TO .none
  hI : IsTupOf2 h TI (.ref i1) (.ref i2)
  hO : ∃ x y, IsTupOf2 h TO x y
  s1 : h.IsTupleIter i1 a i
  s2 : h.IsListIter i2 b i
theorem ZmAt.mem {z TI TO i1 i2 a b : Addr} {i : Nat} {h : Heap} (st : ZmAt z TI TO i1 i2 a b i h) (c : Addr) (hc : c ∈ [z, TI, TO, i1, i2]) : ∃ o, h.get? c = some o ∧ ∀ v, o.data ≠ .cell v := by
  obtain ⟨hz, hI, ⟨x, y, hO⟩, ⟨o1, e1, _, d1⟩, ⟨o2, e2, _, d2⟩⟩ := st
  simp only [List.mem_cons, List.not_mem_nil, or_false] at hc
  rcases hc with rfl | rfl | rfl | rfl | rfl
  · exact ⟨_, hz, fun v q => (nomatch q)⟩
  · exact ⟨_, hI, fun v q => (nomatch q)⟩
  · exact ⟨_, hO, fun v q => (nomatch q)⟩
  · exact ⟨o1, e1, fun v q => by rw [d1] at q; exact nomatch q⟩
  · exact ⟨o2, e2, fun v q => by rw [d2] at q; exact nomatch q⟩
theorem zm_sep {z TI TO i1 i2 a b : Addr} (D : ZipApart z TI TO i1 i2 a b) : ZipSep2 z TI TO i1 i2 [i1, a] [i2, b] := by
  refine ⟨D.TIz, D.TOz, D.TITO, D.TIi1, by simp, ?_, ?_, D.TIi2, by simp, ?_, ?_, ?_, ?_⟩
  · simp [D.i1z.symm, D.l1z.symm]
  · simp [D.TOi1, D.l1TO.symm]
  · simp [D.i2z.symm, D.l2z.symm]
  · simp [D.TOi2, D.l2TO.symm]
  · simp [D.i12, D.l2i1.symm]
  · simp [D.i12.symm, D.l1i2.symm]
theorem turn_zipM {P : Program} {w : World} {K : PySem.W.Frag} {elts : List Expr} {kk : Nat} {tpos : Pos} {a b z TI TO i1 i2 : Addr} (D : ZipApart z TI TO i1 i2 a b) :
    Turn P w K (.Tuple elts kk tpos) (ItzM K a b) [z, TI, TO, i1, i2] z (ZmAt z TI TO i1 i2 a b) := by
  refine { mem := by simp, obj := fun i h st c hc => st.mem c hc, keep := ?keep, item := ?item, done := ?done, self := fun A i s Q E st h => wpAny_pyIter_zip st.hz h }
  case keep =>
    rintro i h h' ⟨hz, hI, ⟨x, y, hO⟩, h1, h2⟩ k
    refine ⟨k z (by simp) _ hz, k TI (by simp) _ hI, ⟨x, y, k TO (by simp) _ hO⟩, ?_, ?_⟩
    · exact h1.at fun o q => k i1 (by simp) o q
    · exact h2.at fun o q => k i2 (by simp) o q
  case item =>
    rintro X rfl rfl rfl hc i pins s σ H E I hf st hg
    obtain ⟨hz, hI, ⟨x0, y0, hO⟩, h1, h2⟩ := id st
    obtain ⟨xs, ys, x, y, hqx, hqy, hx, hy⟩ := hg
    obtain ⟨ia, ra, pa, _⟩ := I.tuple hqx
    obtain ⟨ib, rb, pb, _⟩ := I.list hqy
    obtain ⟨u, hu, ru⟩ := ra.get hx
    obtain ⟨v, hv, rw'⟩ := rb.get hy
    have hh : X.A.in1.handled = none := I.ok.hd hc
    have la : i < ia.toArray.size := by
      have := (List.getElem?_eq_some_iff.mp hu).1
      simpa using this
    have lb : i < ib.toArray.size := by
      have := (List.getElem?_eq_some_iff.mp hv).1
      simpa using this
    refine wpAny_pyNext_zipD2_item (zm_sep D) (Draws.tuple hh i1 a D.l1i1 ia.toArray) (Draws.list hh i2 b D.l2i2 ib.toArray) hz hI hO ⟨h1, pa⟩ ⟨h2, pb.isList⟩ la lb ?_
    intro u' v' h' tk e1 e2 z' O' s1' s2' hT hsz hk
    have eu : u' = u := by
      have e1 : ia.toArray[i]? = some u' := e1
      rw [List.getElem?_toArray, hu] at e1
      exact (Option.some.inj e1).symm
    have ev : v' = v := by
      have e2 : ib.toArray[i]? = some v' := e2
      rw [List.getElem?_toArray, hv] at e2
      exact (Option.some.inj e2).symm
    subst eu
    subst ev
    refine ⟨_, rfl, wpAny_letOwnedTupleGo_zip (s := { s with heap := h', toks := tk }) z' fun h2' z2 sb => ?_⟩
    have hzl : z < s.heap.objs.size := Heap.lt_size hz
    have hT2 : IsTupOf2 h2' s.heap.objs.size u' v' := (sb.2 _ (Nat.ne_of_gt hzl)).trans hT
    have new : ObjOk X.prog X.w (upd H s.heap.objs.size (.tup [x, y])) h2' s.heap.objs.size (.tup [x, y]) :=
      ⟨show 2 ≤ sizeLine by decide, [u', v'], .cons ru (.cons rw' .nil), _, hT2, rfl, _, rfl⟩
    have I1 : Inv X pins σ (upd H s.heap.objs.size (.tup [x, y])) { s with heap := h2', toks := tk } := by
      refine I.turnedNew (ch := [z, TI, TO, i1, i2]) (fun c o hb q => ?_) hf (Nat.le_refl _) new
      simp only [List.mem_cons, List.not_mem_nil, or_false, not_or] at hb
      exact (sb.2 c hb.1).trans (hk c o hb.1 hb.2.2.1 hb.2.2.2.1 hb.2.2.2.2 q)
    refine ⟨.ref s.heap.objs.size, _, I1, rfl, ⟨_, x, y, rfl, I.hok.fresh (Nat.le_refl _), rfl, fun l hl => ?_, fun l hl => ?_⟩, ⟨z2, ?_, ⟨u', v', ?_⟩, ?_, ?_⟩, fun c hcm => ?_⟩
    · rw [I.tuple_inj hl hqx]
      exact hx
    · rw [I.list_inj hl hqy]
      exact hy
    · exact (sb.2 _ D.TIz).trans (hk _ _ D.TIz D.TITO D.TIi1 D.TIi2 hI)
    · exact (sb.2 _ D.TOz).trans O'
    · exact s1'.1.at fun o q => (sb.2 _ D.i1z).trans q
    · exact s2'.1.at fun o q => (sb.2 _ D.i2z).trans q
    · obtain ⟨o, ho, _⟩ := st.mem c hcm
      rw [upd_ne (Nat.ne_of_lt (Heap.lt_size ho))]
      exact (hf c hcm).1
  case done =>
    rintro X rfl rfl rfl hc i pins s σ H E I hf st hg
    obtain ⟨hz, hI, ⟨x0, y0, hO⟩, h1, h2⟩ := st
    obtain ⟨xs, ys, hqx, hqy, hend⟩ := hg
    obtain ⟨ia, ra, pa, _⟩ := I.tuple hqx
    obtain ⟨ib, rb, pb, _⟩ := I.list hqy
    have hh : X.A.in1.handled = none := I.ok.hd hc
    have la : ia.toArray.size = xs.length := by rw [List.size_toArray, ← ra.length]
    have lb : ib.toArray.size = ys.length := by rw [List.size_toArray, ← rb.length]
    refine wpAny_pyNext_zipD2_end (zm_sep D) (Draws.tuple hh i1 a D.l1i1 ia.toArray) (Draws.list hh i2 b D.l2i2 ib.toArray) hz hI hO ⟨h1, pa⟩ ⟨h2, pb.isList⟩ (by omega) (by omega) (by omega) ?_
    intro h' tk hk
    refine ⟨rfl, I.turnedL (ch := [z, TI, TO, i1, i2]) (fun c o hb q => ?_) hf⟩
    simp only [List.mem_cons, List.not_mem_nil, or_false, not_or] at hb
    exact hk c o hb.1 hb.2.2.1 hb.2.2.2.1 hb.2.2.2.2 q
def iZipM (K : PySem.W.Frag) (ta : TA) : TI := fun σ H R => ta σ H fun vs H1 => ∃ a b xs ys, vs = [.ref a, .ref b] ∧ SqT K H1 a xs ∧ SqL K H1 b ys ∧ R (ItzM K a b) H1
theorem pi_zipM {X : Cx} {e e2 : Expr} {ta : TA} {p pos tpos : Pos} {elts : List Expr} {kk : Nat} (hg : Gl X "zip") (hm : X.mg "zip" = none) (ha : PA X [e, e2] ta)
    (hs : starEach [e, e2] X.env = (false, eval e X.env) :: starEach [e2] X.env := by rfl) (hpl : (backTo pos (starEach [e2] X.env)).any (·.1) = false := by rfl) :
    PI X (.Tuple elts kk tpos) (.Call (.Name "zip" p) [e, e2] [] pos) (iZipM X.K ta) := by
  constructor
  intro pins s σ H R I h
  refine Call_ (ld_blt I hg hm PyProof.Rows.boot_zip (PyProof.Rows.callWith_type1 (thn (ha.run pos pins s σ H _ I h) ?_) hs hpl))
  rintro us s1 ⟨vs, H1, I1, r1, a, b, xs, ys, rfl, hqx, hqy, q⟩
  rcases r1 with _ | ⟨r, _ | ⟨r', rr⟩⟩
  cases rr
  cases r
  cases r'
  obtain ⟨ia, ra, pa, _⟩ := I1.tuple hqx
  obtain ⟨ib, rb, pb, _⟩ := I1.list hqy
  have ta' : s1.heap.IsTuple a ia.toArray := pa
  obtain ⟨oa, hoa, _⟩ := id ta'
  refine zip_begins2 (begins_tuple a ia.toArray) (begins_list b ib.toArray) ta' pb.isList ?_
  intro h' hz hI hO g1 g2 hsz hk
  refine wpAny_pyIter_zip hz ⟨_, [_, _, _, _, _], _, _, H1, rfl, I1.kept (t' := s1.toks) hk, turn_zipM (PySem.W.ktu_apart s1.heap.objs.size a b (Heap.lt_size hoa) pb.lt), ⟨hz, hI, ⟨_, _, hO⟩, ⟨_, g1, rfl, rfl⟩, ⟨_, g2, rfl, rfl⟩⟩, ?_, q⟩
  intro c hcm
  have hle : s1.heap.objs.size ≤ c := by
    simp only [List.mem_cons, List.not_mem_nil, or_false] at hcm
    rcases hcm with e | e | e | e | e <;> (rw [e]; first | exact Nat.le_refl _ | exact Nat.le_add_right _ _)
  exact I1.fpOk hle (I1.hok.fresh hle)
theorem walk_zipM {K : PySem.W.Frag} {a b : Addr} {xs ys : List V} {n : Nat} (hn : n = min xs.length ys.length) : Walk (ItzM K a b) n (fun H => SqT K H a xs ∧ SqL K H b ys) (YPair (fun i => xs[i]?) (fun i => ys[i]?)) := by
  subst hn
  refine ⟨fun i _ hi q => ?_, fun _ q => ⟨xs, ys, q.1, q.2, rfl⟩, fun i H v H' _ q y => ?_⟩
  · have hm := Nat.lt_min.mp hi
    exact ⟨xs, ys, _, _, q.1, q.2, List.getElem?_eq_getElem hm.1, List.getElem?_eq_getElem hm.2⟩
  · obtain ⟨T, x, y', e1, e2, e3, e4, e5⟩ := y
    exact ⟨T, x, y', e1, e2, e3, (e4 xs q.1), (e5 ys q.2)⟩
end Ind

set_option Elab.async false
set_option linter.all false
set_option maxRecDepth 100000
set_option maxHeartbeats 4000000
set_option exponentiation.threshold 9000
namespace Ind
open PySem PySem.Spec PyProof.Rows L2
open Builtin.Int (intBits)
abbrev sMTr : Stmt := inClass (top 17) 4
abbrev sMTi : Stmt := inClass (top 17) 5
abbrev sMBe : Stmt := inClass (top 17) 14
def transQ (rs : List (List Q2)) (w : Nat) : List (List Q2) := (List.range w).map fun k => rs.map fun r => r.getD k q0
theorem range_take {α : Type} {f : Nat → α} {i w : Nat} (h : i < w) : ((List.range w).take (i + 1)).map f = ((List.range w).take i).map f ++ [f i] := by
  rw [List.take_add_one, List.getElem?_range h, List.map_append]
  rfl
def spMTr (C CM : Addr) : Sp := fun vs H Q _ => ∃ (p : Addr) (rs : List (List Q2)) (w : Nat), vs = [.ref p] ∧ MatAt C CM w H p rs ∧ (∀ r ∈ rs, r.length = w) ∧ rs.length ≤ 100 ∧ w ≤ 100 ∧
  ∀ (H' : Hp) (x : Addr), Same H H' → MatAt C CM (rs.length : Int) H' x (transQ rs w) → Q (.ref x) H'
def spMBe (C CM : Addr) : Sp := fun vs H Q _ => ∃ (p l : Addr) (rs cs : List (List Q2)) (w c : Nat), vs = [.ref p, .ref l, .int (c : Int)] ∧ MatAt C CM w H p rs ∧ Ls (Tp (RatQ C)) H l cs ∧ cs.length = rs.length ∧ rs.length ≤ 100 ∧ (∀ r ∈ rs, r.length ≤ 100) ∧ (∀ r ∈ cs, r.length ≤ 100) ∧
  ∀ (H' : Hp) (x : Addr), Same H H' → MatAt C CM ((w : Int) + c) H' x (List.zipWith (· ++ ·) rs cs) → Q (.ref x) H'
def spMTi (C CM : Addr) : Sp := fun vs H Q _ => ∃ (p x : Addr) (rs : List (List Q2)) (xs : List Q2) (w : Int) (b m : Nat), vs = [.ref p, .ref x] ∧ MatAt C CM w H p rs ∧ Tp (RatQ C) H x xs ∧ (∀ r ∈ rs, r.length = xs.length ∧ RowOk b m r) ∧ RowOk b m xs ∧ b ≤ 4000 ∧ m ≤ 4000 ∧ rs.length ≤ 100 ∧
  ∀ (H' : Hp) (t : Addr) (qs : List Q2), Same H H' → Tp (RatQ C) H' t qs → Paired (fun r q => Lo q ∧ rv q = dt xs.length (rowF r) (rowF xs)) rs qs → Q (.ref t) H'
section
variable {P : Program} {w : World} {K : PySem.W.Frag} {mg : Str → Option Value} {base : Heap} {C Z CM : Addr}
abbrev scK : Scope := { kind := .function, names := [(".0", .local), ("k", .cell), ("self", .cell)], isGenerator := false, isCoroutine := false }
abbrev scK2 : Scope := { kind := .function, names := [(".0", .local), ("row", .local), ("k", .free)], isGenerator := false, isCoroutine := false }
abbrev nTr : List Str := ["self", "columns", "k", "row"]
theorem blkTr : BlkOk nTr scK scK2 [("row", 3)] := blkOk_by (by decide +kernel)
end
end Ind

set_option Elab.async false
set_option linter.all false
set_option maxRecDepth 100000
set_option maxHeartbeats 4000000
set_option exponentiation.threshold 9000
namespace Ind
open PySem PySem.Spec PyProof.Rows L2
open Builtin.Int (intBits)
theorem zipWith_take {α β γ : Type} {f : α → β → γ} {xs : List α} {ys : List β} {i : Nat} {x : α} {y : β} (h1 : xs[i]? = some x) (h2 : ys[i]? = some y) : List.zipWith f (xs.take (i + 1)) (ys.take (i + 1)) = List.zipWith f (xs.take i) (ys.take i) ++ [f x y] := by
  have l1 := (List.getElem?_eq_some_iff.mp h1).1
  have l2 := (List.getElem?_eq_some_iff.mp h2).1
  rw [take_snoc h1, take_snoc h2, List.zipWith_append (by rw [List.length_take, List.length_take]; omega)]
  rfl
theorem refs_nil {as : List Addr} : as.map V.ref = [] ↔ as = [] := List.map_eq_nil_iff
theorem Paired.app {α β : Type} {F : α → β → Prop} : ∀ {xs xs' : List α} {ys ys' : List β}, Paired F xs ys → Paired F xs' ys' → Paired F (xs ++ xs') (ys ++ ys')
  | _, _, _, _, .nil, h => h
  | _, _, _, _, .cons a t, h => .cons a (Paired.app t h)
section
variable {P : Program} {w : World} {K : PySem.W.Frag} {mg : Str → Option Value} {base : Heap} {C Z CM : Addr}
abbrev nBe : List Str := ["self", "columns", "count", "rows", "row", "more"]
theorem scMBe : FnScope nBe ["self", "columns", "count"] (defScope sMBe) := ⟨rfl, rfl, rfl, by decide +kernel, rfl, by decide +kernel, by decide +kernel⟩
theorem ok_mbe {f fI : Addr} {fd fdI : FuncData} (F : Fun K "beside" "Matrix.beside" sMBe f fd) (TM : TxM K mg CM) (M : MkM P w K mg base C CM fI fdI) : FnOk P w K mg base CX0 3 f fd ["self", "columns", "count"] (spMBe C CM) := by
  refine F.ok scMBe (fun vs H Q E h => ?_) (fun cdv A outer s H vs Q E hr h => ?_)
  · obtain ⟨p, l, rs, cs, w, c, rfl, _⟩ := h
    rfl
  · obtain ⟨p, l, rs, cs, w, c, rfl, hm, ⟨qs, hl, hQ⟩, hlen, h1, hr1, hc1, k⟩ := h
    obtain ⟨dx, t, hp, ps, ht, hP⟩ := id hm
    refine ⟨_, pss_cons (ps_setLc (i := 3) (own := [("row", 4), ("more", 5)]) (g := gTup K 2 (gCons (gName 4) (gCons (gName 5) gNil))) (tt := tYes) (te := tOp (rCatA K) (tVar 4) (tVar 5)) rfl scMBe.nd rfl rfl rfl (pi_zipM (by rfl) TM.zip (pa_cons (pe_fld (pv 0) rfl) (pa_cons (pv 1) pa_nil))) (blkOk_by (N := nBe) (sc := defScope sMBe) (by decide +kernel))
          (fun _ _ _ _ _ => pg_tup (by rfl) (pgs_cons (pg_name (i := 4) scMBe.nd rfl (Or.inl rfl)) (pgs_cons (pg_name (i := 5) scMBe.nd rfl (Or.inl rfl)) pgs_nil))) (fun _ _ _ _ _ => pts_nil)
          (fun _ _ _ _ _ => pe_op op_catA (pv 4) (pv 5)))
      (pss_one (ps_ret (pe_make M.cm M.fn hr (by rfl) TM.mgM M.b3 .nil pass0 (pa_cons (pv 3) (pa_cons (pe_op op_add (pe_fld (pv 0) rfl) (pv 2)) pa_nil))))), ?_⟩
    refine ⟨_, rfl, p, CM, dx, _, _, rfl, hp, TM.cl, TM.nR, mf_rows _ _, _, rfl, t, l, _, _, rfl, SqT.of ht, SqL.of hl, fun D hD => lc_it (walk_zipM (K := K) (a := t) (b := l) (xs := ps.map V.ref) (ys := qs.map V.ref) (n := rs.length) (by rw [List.length_map, List.length_map, hP.length, hQ.length, hlen, Nat.min_self]))
      (fun i H2 => Col (Tp (RatQ C)) D H H2 (List.zipWith (· ++ ·) (rs.take i) (cs.take i))) (Col.start hD) (fun i H2 _ z => ⟨.of (z.s _ _ ht), z.s.seq (SqL.of hl)⟩) ?_ ?_⟩
    · rintro i x H2 H3 hi z ⟨T', x1, x2, rfl, hT, rfl, e1, e2⟩
      obtain ⟨a, ha, rfl⟩ := item_of e1
      obtain ⟨b, hb, rfl⟩ := item_of e2
      obtain ⟨r, hri, hra⟩ := Paired.at hP ha
      obtain ⟨c2, hci, hcb⟩ := Paired.at hQ hb
      have s3 : Same H2 (upd H2 T' (.tup [.ref a, .ref b])) := same_upd hT
      have sA := z.s.trans s3
      obtain ⟨pa, e3, e4⟩ := (VecR.stb C).same sA hra
      obtain ⟨pb, e5, e6⟩ := (VecR.stb C).same sA hcb
      have small : (List.zipWith (· ++ ·) (rs.take i) (cs.take i)).length ≤ 1000 := by
        rw [List.length_zipWith, List.length_take, List.length_take]
        omega
      refine ⟨T', _, rfl, SqT.of upd_same, rfl, _, _, rfl, _, _, rfl, rfl, rfl, _, rfl, _, rfl, a, b, pa.map V.ref, pb.map V.ref, rfl, rfl, SqT.of e3, SqT.of e5, ?_, fun n1 => ?_, fun n1 n2 => ?_, fun n1 n2 p3 hp3 => ?_⟩
      · rw [List.length_map, List.length_map, e4.length, e6.length]
        have := hr1 r (List.mem_of_getElem? hri)
        have := hc1 c2 (List.mem_of_getElem? hci)
        exact Nat.le_trans (show _ ≤ 200 by omega) (by decide)
      · rw [zipWith_take hri hci]
        refine z.push ((VecR.stb C).x D) hD s3 ⟨pb, e5, ?_⟩ small
        have n3 := refs_nil.mp n1
        subst n3
        cases e4
        exact e6
      · rw [zipWith_take hri hci]
        refine z.push ((VecR.stb C).x D) hD s3 ⟨pa, e3, ?_⟩ small
        have n3 := refs_nil.mp n2
        subst n3
        cases e6
        show Paired _ _ (r ++ [])
        rw [List.append_nil]
        exact e4
      · rw [zipWith_take hri hci]
        refine z.push ((VecR.stb C).x D) hD (s3.trans (same_upd hp3)) ⟨pa ++ pb, ?_, ?_⟩ small
        · rw [upd_same, List.map_append]
        · exact Paired.imp (fun _ _ f => (RatQ.stb C).same (same_upd hp3) f) (Paired.app e4 e6)
    · rintro H2 z
      rw [List.take_of_length_le (Nat.le_refl _), List.take_of_length_le (by omega)] at z
      obtain ⟨la, e1, e2⟩ := z.at_
      refine ⟨_, rfl, _, rfl, p, CM, dx, _, _, rfl, z.s _ _ hp, TM.cl, TM.nW, mf_width _ _, _, rfl, _, _, rfl, rfl, ?_⟩
      refine mkM_ok (rs := List.zipWith (· ++ ·) rs cs) ⟨la, e1, Paired.imp (fun _ _ f => .inr f) e2⟩ ?_ fun x H3 hx s3 _ => k H3 x (z.s.trans s3) hx
      rw [List.length_zipWith]
      omega
end
end Ind

set_option Elab.async false
set_option linter.all false
set_option maxRecDepth 100000
set_option maxHeartbeats 4000000
namespace Ind
open PySem PySem.Spec PyProof.Rows L2 PySem.SeqAt
open AutoSeq1 (wpAny_loadPart')
/-! ### == of two tuples, the second one longer, equal as far as the first one goes -/
section
variable {prog : Program} {w : World} {A : Around} {R : Result → Shared → Prop}
theorem tup_shorter {p q : Addr} {us vs : Array Value} {n n2 : Nat} {dd dd2 : Option Addr} {sl sl2 : Array (Option Value)} (hlt : us.size < vs.size) (J : Nat → Shared → Prop)
    (step : ∀ i (h1 : i < us.size) (h2 : i < vs.size) s, J i s → wpAny (model prog w) A.in1 (eqBool us[i] vs[i]) (fun r s' => r = true ∧ J (i + 1) s') (fun e s' => R (.error e) s') s)
    (last : ∀ s, J us.size s → R (.ok (.ret (.bool false))) s) {s : Shared} (hp : s.heap.get? p = some { cls := .type "tuple", dict := dd, data := .seq us n, slots := sl })
    (hq : s.heap.get? q = some { cls := .type "tuple", dict := dd2, data := .seq vs n2, slots := sl2 }) (h : J 0 s) :
    wpAny (model prog w) A.in1 (Builtin.«tuple.__eq__» ⟨[.ref p, .ref q], []⟩) (GQ.FinOf prog w A R) (fun e s' => R (.error e) s') s := by
  have sub := AutoSeq1.sub_tuple_tuple
  have len : (us.toList.zip vs.toList).length = us.size := by
    rw [List.length_zip, Array.length_toList, Array.length_toList]
    omega
  have at0 := h
  obtain ⟨hpp, g, d, tk, os⟩ := s
  wp_walk using wpAny_loadPart' hp, wpAny_loadPart' hq, wpAny_forIn_list _ (fun rest b s' => b.1 = none ∧ ∃ i, rest = (us.toList.zip vs.toList).drop i ∧ i ≤ us.size ∧ J i s') _
  case turn =>
    rintro ⟨y, x⟩ rest b s' ⟨hb, i, hz, hi, hJ⟩
    have il : i < (us.toList.zip vs.toList).length := by
      refine Nat.lt_of_not_le fun z => ?_
      rw [List.drop_eq_nil_of_le z] at hz
      exact nomatch hz
    have i1 : i < us.size := Nat.lt_of_lt_of_le il (Nat.le_of_eq len)
    have i2 : i < vs.size := Nat.lt_trans i1 hlt
    rw [List.drop_eq_getElem_cons il] at hz
    obtain ⟨ep, er⟩ := List.cons.inj hz
    rw [List.getElem_zip] at ep
    obtain ⟨ey, ex⟩ := Prod.mk.inj ep
    rw [Array.getElem_toList] at ey ex
    subst ey
    subst ex
    refine wpAny_bind (wpAny_mono (step i i1 i2 s' hJ) (fun r s2 z => ?_) fun _ _ z => z)
    obtain ⟨rfl, z⟩ := z
    wp_walk
    exact ⟨rfl, i + 1, er, i1, z⟩
  case fin =>
    rintro ⟨b1, b2⟩ s' ⟨hb, i, hz, hi, hJ⟩
    obtain rfl : b1 = none := hb
    have ge : us.size ≤ i := by
      refine Nat.le_of_not_lt fun z => ?_
      rw [List.drop_eq_getElem_cons (by rw [len]; exact z)] at hz
      exact nomatch hz
    obtain rfl : i = us.size := Nat.le_antisymm hi ge
    have fin := last s' hJ
    have ne : (us.size == vs.size) = false := by
      rw [beq_eq_false_iff_ne]
      omega
    wp_walk
    simpa [Builtin.Tuple.tupleCompareSizes, ne] using fin
  case h =>
    exact ⟨rfl, 0, rfl, Nat.zero_le _, at0⟩
end
/-- the second tuple longer, equal as far as the first one goes -/
def DShort (K : PySem.W.Frag) (D : Eqv) : Eqv := fun x y H => ∃ a b xs ys z zs, x = .ref a ∧ y = .ref b ∧ SqT K H a xs ∧ SqT K H b (ys ++ z :: zs) ∧ Prs D xs ys H
def rShort (K : PySem.W.Frag) (D : Eqv) : R2 := fun x y H Q => DShort K D x y H ∧ ∀ H', Ext H H' → Q (.bl false) H'
theorem op_eqShort {X : Cx} {n : Nat} {D : Eqv} (hD : Mon D) (h : EqG X n D) (hr : Room (n + 1) X.A) : OpR X (compareOp .Eq) (rShort X.K D) := by
  intro pins s σ H x y v u Q I rx ry hq
  obtain ⟨⟨a, b, xs, ys, z, zs, rfl, rfl, ha, hb, pr⟩, q⟩ := hq
  cases rx
  cases ry
  have sb : Sub X (n + 1) X.A := ⟨hr, rfl⟩
  obtain ⟨ia, ra, pa, _⟩ := I.tuple ha
  obtain ⟨ib, rb, pb, _⟩ := I.tuple hb
  have hla := ra.length
  have hlb := rb.length
  rw [List.length_append, List.length_cons] at hlb
  have hlt : ia.toArray.size < ib.toArray.size := by
    rw [List.size_toArray, List.size_toArray, ← hla, ← hlb, pr.1]
    omega
  obtain ⟨ya, yb, eb, r1, r2⟩ : ∃ ya yb, ib = ya ++ yb ∧ Vals ys ya ∧ Vals (z :: zs) yb := by
    refine ⟨ib.take ys.length, ib.drop ys.length, (List.take_append_drop ..).symm, ?_, ?_⟩
    · have := rb.take ys.length
      rwa [List.take_left] at this
    · have := rb.drop ys.length
      rwa [List.drop_left] at this
  show wpAny (model X.prog X.w) X.A (richCompare .Eq (.ref a) (.ref b)) (EP X pins σ Q) X.xe s
  obtain ⟨⟨cls, dd, data, sl⟩, ho, hc, n1, hd⟩ := id pa
  obtain ⟨⟨cls2, dd2, data2, sl2⟩, ho2, hc2, n2, hd2⟩ := id pb
  simp only at hc hd hc2 hd2
  subst hc hd hc2 hd2
  refine wpAny_richCompare_same_room (op := .Eq) ⟨_, ho, rfl⟩ ⟨_, ho2, rfl⟩ F.slot_tuple_eq (GQ.call_here F.slot_tuple_eq ⟨_, ho, rfl⟩ F.entry_tuple_eq (F.args_tuple_eq_2 _ _) ?_) hr.units0
  refine tup_shorter (R := wants (fun v s' => v ≠ .notImplemented ∧ EP X pins σ Q v s') X.xe) hlt (fun _ s' => LoopI X pins σ H s') (fun i h1 h2 s' l => ?_) (fun s' l => ?_) ho ho2 ⟨H, I, Ext.rfl'⟩
  · have k1 : i < ya.length := by
      rw [← r1.length, ← pr.1, hla]
      simpa using h1
    have e : ib.toArray[i] = ya.toArray[i]'(by simpa using k1) := by
      subst eb
      simp [List.getElem_append_left k1]
    rw [e]
    exact turnG hD h sb pr ra r1 i h1 (by simpa using k1) s' l
  · obtain ⟨H1, I1, e1⟩ := l
    exact ⟨(fun x => nomatch x), .bl false, H1, I1, rfl, q H1 e1⟩
end Ind

set_option Elab.async false
set_option linter.all false
set_option maxRecDepth 100000
set_option maxHeartbeats 4000000
namespace Ind
open PySem PySem.Spec PyProof.Rows L2 PySem.SeqAt
open AutoSeq1 (wpAny_loadPart')
section
variable {prog : Program} {w : World} {A : Around} {R : Result → Shared → Prop}
theorem tup_diff {p q : Addr} {us vs : Array Value} {n n2 k : Nat} {dd dd2 : Option Addr} {sl sl2 : Array (Option Value)} (hk1 : k < us.size) (hk2 : k < vs.size) (J : Nat → Shared → Prop)
    (step : ∀ i (h1 : i < us.size) (h2 : i < vs.size) s, i < k → J i s → wpAny (model prog w) A.in1 (eqBool us[i] vs[i]) (fun r s' => r = true ∧ J (i + 1) s') (fun e s' => R (.error e) s') s)
    (stop : ∀ s, J k s → wpAny (model prog w) A.in1 (eqBool us[k] vs[k]) (fun r s' => r = false ∧ R (.ok (.ret (.bool false))) s') (fun e s' => R (.error e) s') s) {s : Shared} (hp : s.heap.get? p = some { cls := .type "tuple", dict := dd, data := .seq us n, slots := sl })
    (hq : s.heap.get? q = some { cls := .type "tuple", dict := dd2, data := .seq vs n2, slots := sl2 }) (h : J 0 s) :
    wpAny (model prog w) A.in1 (Builtin.«tuple.__eq__» ⟨[.ref p, .ref q], []⟩) (GQ.FinOf prog w A R) (fun e s' => R (.error e) s') s := by
  have sub := AutoSeq1.sub_tuple_tuple
  have at0 := h
  obtain ⟨hpp, g, d, tk, os⟩ := s
  wp_walk using wpAny_loadPart' hp, wpAny_loadPart' hq, wpAny_forIn_list _ (fun rest b s' => b.1 = none ∧ ∃ i, rest = (us.toList.zip vs.toList).drop i ∧ i ≤ k ∧ J i s') _
  case turn =>
    rintro ⟨y, x⟩ rest b s' ⟨hb, i, hz, hi, hJ⟩
    have il : i < (us.toList.zip vs.toList).length := by
      refine Nat.lt_of_not_le fun z => ?_
      rw [List.drop_eq_nil_of_le z] at hz
      exact nomatch hz
    have i1 : i < us.size := by omega
    have i2 : i < vs.size := by omega
    rw [List.drop_eq_getElem_cons il] at hz
    obtain ⟨ep, er⟩ := List.cons.inj hz
    rw [List.getElem_zip] at ep
    obtain ⟨ey, ex⟩ := Prod.mk.inj ep
    rw [Array.getElem_toList] at ey ex
    subst ey
    subst ex
    rcases Nat.lt_or_ge i k with c | c
    · refine wpAny_bind (wpAny_mono (step i i1 i2 s' c hJ) (fun r s2 z => ?_) fun _ _ z => z)
      obtain ⟨rfl, z⟩ := z
      wp_walk
      exact ⟨rfl, i + 1, er, c, z⟩
    · have e : i = k := by omega
      subst e
      refine wpAny_bind (wpAny_mono (stop s' hJ) (fun r s2 z => ?_) fun _ _ z => z)
      obtain ⟨rfl, z⟩ := z
      wp_walk
      exact z
  case fin =>
    rintro ⟨b1, b2⟩ s' ⟨hb, i, hz, hi, hJ⟩
    exfalso
    have il : i < (us.toList.zip vs.toList).length := by
      rw [List.length_zip, Array.length_toList, Array.length_toList]
      omega
    rw [List.drop_eq_getElem_cons il] at hz
    exact nomatch hz
  case h =>
    exact ⟨rfl, 0, rfl, Nat.zero_le _, at0⟩
end
theorem ent : entryFor table "list.__eq__.loop" = some Builtin.«list.__eq__.loop» := by rfl
theorem lst_loop {prog : Program} {w : World} {A : Around} {R : Result → Shared → Prop} {p q : Addr} {us vs : Array Value} {k : Nat} (he : us.size = vs.size) (hk : k < us.size) (J : Nat → Shared → Prop)
    (at_ : ∀ i s, J i s → (∃ (n : Nat) (dd : Option Addr) (sl : Array (Option Value)), s.heap.get? p = some { cls := .type "list", dict := dd, data := .seq us n, slots := sl }) ∧ ∃ (n : Nat) (dd : Option Addr) (sl : Array (Option Value)), s.heap.get? q = some { cls := .type "list", dict := dd, data := .seq vs n, slots := sl })
    (step : ∀ i (h1 : i < us.size) (h2 : i < vs.size) s, i < k → J i s → wpAny (model prog w) A.in1 (eqBool us[i] vs[i]) (fun r s' => r = true ∧ J (i + 1) s') (fun e s' => R (.error e) s') s)
    (stop : ∀ (h1 : k < us.size) (h2 : k < vs.size) s, J k s → wpAny (model prog w) A.in1 (eqBool us[k] vs[k]) (fun r s' => r = false ∧ J k s') (fun e s' => R (.error e) s') s)
    (last : ∀ s, J k s → R (.ok (.ret (.bool false))) s) :
    ∀ (m i : Nat) (s : Shared), k - i = m → i ≤ k → J i s → codeAny (model prog w) A (Code.builtin "list.__eq__.loop" ⟨[.ref p, .ref q, rawInt (i : Int), rawInt 2], []⟩) R s := by
  intro m
  induction m with
  | zero =>
    intro i s hm hi hJ
    have e : i = k := by omega
    subst e
    refine codeAny_builtin ent ?_
    obtain ⟨⟨n, dd, sl, hp⟩, n2, dd2, sl2, hq⟩ := at_ _ _ hJ
    obtain ⟨hpp, g, d, tk, os⟩ := s
    have e1 : us[((i : Nat) : Int).toNat]? = some us[i] := by
      rw [Int.toNat_natCast]
      exact Array.getElem?_eq_getElem hk
    have hk2 : i < vs.size := by omega
    have e2 : vs[((i : Nat) : Int).toNat]? = some vs[i] := by
      rw [Int.toNat_natCast]
      exact Array.getElem?_eq_getElem hk2
    have st := stop hk hk2 _ hJ
    wp_walk using wpAny_loadPart' hp, wpAny_loadPart' hq
    rw [e1, e2]
    refine wpAny_bind (wpAny_mono st (fun r s2 z => ?_) fun _ _ z => z)
    obtain ⟨rfl, z⟩ := z
    have fin := last _ z
    obtain ⟨⟨n3, dd3, sl3, hp2⟩, n4, dd4, sl4, hq2⟩ := at_ _ _ z
    obtain ⟨hpp2, g2, d2, tk2, os2⟩ := s2
    wp_walk using wpAny_loadPart' hp2, wpAny_loadPart' hq2
    rw [e1, e2]
    wp_walk
    exact fin
  | succ m ih =>
    intro i s hm hi hJ
    have hik : i < k := by omega
    refine codeAny_builtin ent ?_
    obtain ⟨⟨n, dd, sl, hp⟩, n2, dd2, sl2, hq⟩ := at_ _ _ hJ
    obtain ⟨hpp, g, d, tk, os⟩ := s
    have h1 : i < us.size := by omega
    have h2 : i < vs.size := by omega
    have e1 : us[((i : Nat) : Int).toNat]? = some us[i] := by
      rw [Int.toNat_natCast]
      exact Array.getElem?_eq_getElem h1
    have e2 : vs[((i : Nat) : Int).toNat]? = some vs[i] := by
      rw [Int.toNat_natCast]
      exact Array.getElem?_eq_getElem h2
    have st := step i h1 h2 _ hik hJ
    wp_walk using wpAny_loadPart' hp, wpAny_loadPart' hq
    rw [e1, e2]
    refine wpAny_bind (wpAny_mono st (fun r s2 z => ?_) fun _ _ z => z)
    obtain ⟨rfl, z⟩ := z
    have fin := ih (i + 1) s2 (by omega) (by omega) z
    wp_walk
    exact ⟨Code.quiet_builtin _ (by decide +kernel), by rw [show ((i : Int) + 1) = ((i + 1 : Nat) : Int) by omega]; exact fin⟩

theorem lst_diff {prog : Program} {w : World} {A : Around} {R : Result → Shared → Prop} {p q : Addr} {us vs : Array Value} {k : Nat} (he : us.size = vs.size) (hk : k < us.size) (J : Nat → Shared → Prop)
    (at_ : ∀ i s, J i s → (∃ (n : Nat) (dd : Option Addr) (sl : Array (Option Value)), s.heap.get? p = some { cls := .type "list", dict := dd, data := .seq us n, slots := sl }) ∧ ∃ (n : Nat) (dd : Option Addr) (sl : Array (Option Value)), s.heap.get? q = some { cls := .type "list", dict := dd, data := .seq vs n, slots := sl })
    (step : ∀ i (h1 : i < us.size) (h2 : i < vs.size) s, i < k → J i s → wpAny (model prog w) A.in1 (eqBool us[i] vs[i]) (fun r s' => r = true ∧ J (i + 1) s') (fun e s' => R (.error e) s') s)
    (stop : ∀ (h1 : k < us.size) (h2 : k < vs.size) s, J k s → wpAny (model prog w) A.in1 (eqBool us[k] vs[k]) (fun r s' => r = false ∧ J k s') (fun e s' => R (.error e) s') s)
    (last : ∀ s, J k s → R (.ok (.ret (.bool false))) s) {s : Shared} (h : J 0 s) :
    wpAny (model prog w) A.in1 (Builtin.«list.__eq__» ⟨[.ref p, .ref q], []⟩) (GQ.FinOf prog w A R) (fun e s' => R (.error e) s') s := by
  have sub := AutoSeq1.sub_list_list
  have fin := lst_loop he hk J at_ step stop last k 0 s (Nat.sub_zero k) (Nat.zero_le k) h
  obtain ⟨⟨n, dd, sl, hp⟩, n2, dd2, sl2, hq⟩ := at_ _ _ h
  obtain ⟨hpp, g, d, tk, os⟩ := s
  have ne : (us.size != vs.size) = false := by
    rw [he, bne_self_eq_false]
  wp_walk using wpAny_loadPart' hp, wpAny_loadPart' hq
  exact ⟨Code.quiet_builtin _ (by decide +kernel), fin⟩
/-! ### different, over values -/
def NcG (X : Cx) (n : Nat) (D : Eqv) : Prop := ∀ (A : Around) (pins : List (Addr × Obj)) (s : Shared) (σ : L2.St) (H : Hp) (x y : V) (u v : Value), L2.Sub X n A → L2.Inv X pins σ H s → L2.RelV x u → L2.RelV y v → D x y H → wpAny (model X.prog X.w) A (richCompare .Eq u v) (fun r s' => r = .bool false ∧ ∃ H', L2.Inv X pins σ H' s' ∧ Ext H H') X.xe s
def NeG (X : Cx) (n : Nat) (D : Eqv) : Prop := ∀ (A : Around) (pins : List (Addr × Obj)) (s : Shared) (σ : L2.St) (H : Hp) (x y : V) (u v : Value), L2.Sub X n A → L2.Inv X pins σ H s → L2.RelV x u → L2.RelV y v → D x y H → wpAny (model X.prog X.w) A (eqBool u v) (fun r s' => r = false ∧ ∃ H', L2.Inv X pins σ H' s' ∧ Ext H H') X.xe s
theorem neG_of {X : Cx} {n : Nat} {D : Eqv} (h : NcG X n D) (hd : ∀ x y H, D x y H → ∃ a b, x = .ref a ∧ y = .ref b ∧ a ≠ b) : NeG X n D := by
  intro A pins s σ H x y u v sb I rx ry d
  obtain ⟨a, b, rfl, rfl, ne⟩ := hd _ _ _ d
  cases (show u = Value.ref a from rx)
  cases (show v = Value.ref b from ry)
  refine GQ.eqBool_refG ne (wpAny_mono (h A pins s σ H _ _ _ _ sb I rx ry d) (fun r s' z => ?_) fun _ _ e => e)
  exact ⟨false, z.1, rfl, z.2⟩
def rNeG (D : Eqv) : R2 := fun x y H Q => D x y H ∧ ∀ H', Ext H H' → Q (.bl false) H'
theorem op_neG {X : Cx} {n : Nat} {D : Eqv} (h : NcG X n D) (hr : Room n X.A) : OpR X (compareOp .Eq) (rNeG D) := by
  intro pins s σ H x y v u Q I rx ry hq
  obtain ⟨d, q⟩ := hq
  refine wpAny_mono (h X.A pins s σ H x y v u ⟨hr, rfl⟩ I rx ry d) (fun r s' z => ?_) fun _ _ e => e
  obtain ⟨rfl, H', I', e⟩ := z
  exact ⟨.bl false, H', I', rfl, q H' e⟩
/-- two tuples, alike up to k, different there -/
def DTupN (K : PySem.W.Frag) (D Dn : Eqv) : Eqv := fun x y H => ∃ (a b : Addr) (xs ys : List V) (k : Nat) (x0 y0 : V), x = .ref a ∧ y = .ref b ∧ a ≠ b ∧ SqT K H a xs ∧ SqT K H b ys ∧ xs.length = ys.length ∧ (∀ i x' y', i < k → xs[i]? = some x' → ys[i]? = some y' → D x' y' H) ∧ xs[k]? = some x0 ∧ ys[k]? = some y0 ∧ Dn x0 y0 H
theorem vals_at {xs : List V} {its : List Value} (r : Vals xs its) {i : Nat} (h : i < its.toArray.size) : ∃ x, xs[i]? = some x ∧ L2.RelV x its.toArray[i] := by
  have hl := r.length
  have hx : i < xs.length := by
    rw [hl]
    simpa using h
  obtain ⟨u, hu, ru⟩ := r.get (List.getElem?_eq_getElem hx)
  refine ⟨_, List.getElem?_eq_getElem hx, ?_⟩
  have e : its.toArray[i] = u := by
    have : its[i]? = some its.toArray[i] := by
      rw [List.getElem?_eq_getElem (by simpa using h)]
      simp
    rw [this] at hu
    exact Option.some.inj hu
  rw [e]
  exact ru
theorem turnE {X : Cx} {n : Nat} {D : Eqv} (hD : Mon D) (h : EqG X n D) {A : Around} (sb : L2.Sub X (n + 1) A) {pins : List (Addr × Obj)} {σ : L2.St} {H : Hp} {x y : V} {u v : Value} (rx : L2.RelV x u) (ry : L2.RelV y v) (d : D x y H) (s' : Shared) (l : LoopI X pins σ H s') :
    wpAny (model X.prog X.w) A.in1 (eqBool u v) (fun r s2 => r = true ∧ LoopI X pins σ H s2) X.xe s' := by
  obtain ⟨H1, I1, e1⟩ := l
  refine wpAny_mono (h A.in1 pins s' σ H1 x y u v sb.in1 I1 rx ry (hD _ _ _ _ e1 d)) (fun r s2 z => ?_) fun _ _ e => e
  obtain ⟨er, H2, I2, e2⟩ := z
  exact ⟨er, H2, I2, e1.trans e2⟩
theorem turnN {X : Cx} {n : Nat} {D : Eqv} (hD : Mon D) (h : NeG X n D) {A : Around} (sb : L2.Sub X (n + 1) A) {pins : List (Addr × Obj)} {σ : L2.St} {H : Hp} {x y : V} {u v : Value} (rx : L2.RelV x u) (ry : L2.RelV y v) (d : D x y H) (s' : Shared) (l : LoopI X pins σ H s') :
    wpAny (model X.prog X.w) A.in1 (eqBool u v) (fun r s2 => r = false ∧ LoopI X pins σ H s2) X.xe s' := by
  obtain ⟨H1, I1, e1⟩ := l
  refine wpAny_mono (h A.in1 pins s' σ H1 x y u v sb.in1 I1 rx ry (hD _ _ _ _ e1 d)) (fun r s2 z => ?_) fun _ _ e => e
  obtain ⟨er, H2, I2, e2⟩ := z
  exact ⟨er, H2, I2, e1.trans e2⟩
theorem ncG_tup {X : Cx} {n : Nat} {D Dn : Eqv} (mD : Mon D) (mN : Mon Dn) (hD : EqG X n D) (hN : NeG X n Dn) : NcG X (n + 1) (DTupN X.K D Dn) := by
  intro A pins s σ H x y u v sb I rx ry d
  obtain ⟨a, b, xs, ys, k, x0, y0, rfl, rfl, ne, ha, hb, hl, hlt, hx, hy, hn⟩ := d
  cases (show u = Value.ref a from rx)
  cases (show v = Value.ref b from ry)
  obtain ⟨ia, ra, pa, _⟩ := I.tuple ha
  obtain ⟨ib, rb, pb, _⟩ := I.tuple hb
  have kx := (List.getElem?_eq_some_iff.mp hx).1
  have ky := (List.getElem?_eq_some_iff.mp hy).1
  have k1 : k < ia.toArray.size := by
    have := ra.length
    rw [List.size_toArray]
    omega
  have k2 : k < ib.toArray.size := by
    have := rb.length
    rw [List.size_toArray]
    omega
  obtain ⟨⟨cls, dd, data, sl⟩, ho, hc, n1, hd⟩ := id pa
  obtain ⟨⟨cls2, dd2, data2, sl2⟩, ho2, hc2, n2, hd2⟩ := id pb
  simp only at hc hd hc2 hd2
  subst hc hd hc2 hd2
  have g := wpAny_richCompare_same_room (M := model X.prog X.w) (E := X.xe) (op := .Eq) (Q := fun r s' => r = .bool false ∧ ∃ H', L2.Inv X pins σ H' s' ∧ Ext H H') (a := .ref a) (b := .ref b) ⟨_, ho, rfl⟩ ⟨_, ho2, rfl⟩ F.slot_tuple_eq (GQ.call_here (prog := X.prog) (w := X.w) (A := A) F.slot_tuple_eq ⟨_, ho, rfl⟩ F.entry_tuple_eq (F.args_tuple_eq_2 _ _)
    (tup_diff (A := A) (R := wants (fun v s' => v ≠ .notImplemented ∧ v = .bool false ∧ ∃ H', L2.Inv X pins σ H' s' ∧ Ext H H') X.xe) k1 k2 (fun _ s' => LoopI X pins σ H s') (fun i h1 h2 s' c l => ?_) (fun s' l => ?_) ho ho2 ⟨H, I, Ext.rfl'⟩)) sb.room.units0
  · exact g
  · obtain ⟨x', ex, rx'⟩ := vals_at ra h1
    obtain ⟨y', ey, ry'⟩ := vals_at rb h2
    exact turnE mD hD sb rx' ry' (hlt i x' y' c ex ey) s' l
  · obtain ⟨x', ex, rx'⟩ := vals_at ra k1
    obtain ⟨y', ey, ry'⟩ := vals_at rb k2
    rw [hx] at ex
    rw [hy] at ey
    cases ex
    cases ey
    refine wpAny_mono (turnN mN hN sb rx' ry' hn s' l) (fun r s2 z => ?_) fun _ _ e => e
    exact ⟨z.1, (fun e => nomatch e), rfl, z.2⟩
end Ind

set_option Elab.async false
set_option linter.all false
set_option maxRecDepth 100000
set_option maxHeartbeats 4000000
set_option exponentiation.threshold 9000
namespace Ind
open PySem PySem.Spec PyProof.Rows L2
open Builtin.Int (intBits)
abbrev sMEq : Stmt := inClass (top 17) 2
theorem OpR.or {X : Cx} {f : Value → Value → Sem Value} {r1 r2 : R2} (h1 : OpR X f r1) (h2 : OpR X f r2) : OpR X f (fun x y H Q => r1 x y H Q ∨ r2 x y H Q) := by
  intro pins s σ H x y v u Q I rx ry h
  rcases h with h | h
  · exact h1 pins s σ H x y v u Q I rx ry h
  · exact h2 pins s σ H x y v u Q I rx ry h
/-- two numbers of one value -/
def REq (C : Addr) : Addr → Addr → Hp → Prop := fun a b H => ∃ q, RatQ C H a q ∧ RatQ C H b q
theorem REq.mon (C : Addr) : ∀ a b H H', Ext H H' → REq C a b H → REq C a b H' := fun a b H H' e ⟨q, h1, h2⟩ => ⟨q, h1.same e, h2.same e⟩
abbrev DRat (C : Addr) : Eqv := DIns C (REq C)
abbrev DRow (K : PySem.W.Frag) (C : Addr) : Eqv := DTup K (DRat C)
abbrev DRows (K : PySem.W.Frag) (C : Addr) : Eqv := DTup K (DRow K C)
theorem mon_rat (C : Addr) : Mon (DRat C) := mon_ins (REq.mon C)
theorem prs_of {β : Type} {F : FH β} {D : Eqv} {H : Hp} (hD : ∀ a b x, F H a x → F H b x → D (.ref a) (.ref b) H) : ∀ {ps qs : List Addr} {bs : List β}, Paired (F H) ps bs → Paired (F H) qs bs → Prs D (ps.map V.ref) (qs.map V.ref) H
  | _, _, _, .nil, h2 => by
    cases h2
    exact Prs.nil
  | _, _, _, .cons a t, h2 => by
    cases h2 with
    | cons b u => exact Prs.cons (hD _ _ _ a b) (prs_of hD t u)
theorem d_rat {C : Addr} {H : Hp} {a b : Addr} {q : Q2} (h1 : RatQ C H a q) (h2 : RatQ C H b q) : DRat C (.ref a) (.ref b) H := by
  obtain ⟨dx, e1⟩ := id h1
  obtain ⟨dy, e2⟩ := id h2
  exact ⟨a, b, dx, dy, _, _, rfl, rfl, e1, e2, q, h1, h2⟩
theorem d_row {K : PySem.W.Frag} {C : Addr} {H : Hp} {a b : Addr} {qs : List Q2} (h1 : Tp (RatQ C) H a qs) (h2 : Tp (RatQ C) H b qs) : DRow K C (.ref a) (.ref b) H := by
  obtain ⟨p1, e1, g1⟩ := h1
  obtain ⟨p2, e2, g2⟩ := h2
  exact ⟨a, b, _, _, rfl, rfl, SqT.of e1, SqT.of e2, prs_of (F := RatQ C) (fun a b x h h' => d_rat h h') g1 g2⟩
theorem d_rows {K : PySem.W.Frag} {C : Addr} {H : Hp} {a b : Addr} {rs : List (List Q2)} (h1 : MatT C H a rs) (h2 : MatT C H b rs) : DRows K C (.ref a) (.ref b) H := by
  obtain ⟨p1, e1, g1⟩ := h1
  obtain ⟨p2, e2, g2⟩ := h2
  exact ⟨a, b, _, _, rfl, rfl, SqT.of e1, SqT.of e2, prs_of (F := Tp (RatQ C)) (fun a b x h h' => d_row h h') g1 g2⟩
theorem Paired.split {α β : Type} {F : α → β → Prop} : ∀ {xs : List α} {ys zs : List β}, Paired F xs (ys ++ zs) → ∃ us vs, xs = us ++ vs ∧ Paired F us ys ∧ Paired F vs zs
  | xs, [], zs, h => ⟨[], xs, rfl, .nil, h⟩
  | _, y :: ys, zs, h => by
    cases h with
    | cons a t =>
      obtain ⟨us, vs, e, h1, h2⟩ := Paired.split t
      exact ⟨_ :: us, vs, by rw [e]; rfl, .cons a h1, h2⟩
theorem d_short {K : PySem.W.Frag} {C : Addr} {H : Hp} {a b : Addr} {rs rs' : List (List Q2)} {r : List Q2} (h1 : MatT C H a rs) (h2 : MatT C H b (rs ++ r :: rs')) : DShort K (DRow K C) (.ref a) (.ref b) H := by
  obtain ⟨p1, e1, g1⟩ := h1
  obtain ⟨p2, e2, g2⟩ := h2
  obtain ⟨us, vs, e, q1, q2⟩ := Paired.split g2
  cases q2 with
  | @cons v _ vs' _ x y =>
    refine ⟨a, b, p1.map V.ref, us.map V.ref, .ref v, vs'.map V.ref, rfl, rfl, SqT.of e1, SqT.of ?_, prs_of (F := Tp (RatQ C)) (fun a b x h h' => d_row h h') g1 q1⟩
    rw [e2, e, List.map_append]
    rfl
/-- a matrix beside another one, a longer one, a thing of another class -/
def spMEq (K : PySem.W.Frag) (C CM : Addr) : Sp := fun vs H Q _ =>
  (∃ (p q : Addr) (rs : List (List Q2)) (w : Int), vs = [.ref p, .ref q] ∧ MatAt C CM w H p rs ∧ MatAt C CM w H q rs ∧ ∀ H', Same H H' → Q (.bl true) H') ∨
  (∃ (p q : Addr) (rs rs' : List (List Q2)) (r : List Q2) (w : Int), vs = [.ref p, .ref q] ∧ MatAt C CM w H p rs ∧ MatAt C CM w H q (rs ++ r :: rs') ∧ ∀ H', Same H H' → Q (.bl false) H') ∨
  ∃ (p : Addr) (rs : List (List Q2)) (w : Int) (y : V) (t : Value), vs = [.ref p, y] ∧ MatAt C CM w H p rs ∧ TyX K H y t ∧ PySem.W.kitOne K t (.ref CM) = some false ∧ Q (.bl false) H
section
variable {P : Program} {w : World} {K : PySem.W.Frag} {mg : Str → Option Value} {base : Heap} {C Z CM : Addr}
theorem eqRat {f : Addr} {fd : FuncData} (h : FnOk P w K mg base CX0 1 f fd ["self", "other"] (spEqR K C)) : FnOk P w K mg base CX0 1 f fd ["self", "other"] (spEq (REq C)) :=
  h.imp fun vs H Q E z => by
    obtain ⟨a, b, e, ⟨q, h1, h2⟩, k⟩ := z
    refine .inl ⟨a, b, q.1, q.2, q.1, q.2, e, h1, h2, ?_⟩
    rw [decide_eq_true (show q.1 = q.1 ∧ q.2 = q.2 from ⟨rfl, rfl⟩)]
    exact k H fun _ _ e => e
theorem scMEq : FnScope ["self", "other"] ["self", "other"] (defScope sMEq) := ⟨rfl, rfl, rfl, by decide +kernel, rfl, by decide +kernel, by decide +kernel⟩
theorem ok_meq {f fE : Addr} {fd fdE : FuncData} (F : Fun K "__eq__" "Matrix.__eq__" sMEq f fd) (T : TxL K mg) (TM : TxM K mg CM) (IM : TxI K CM)
    (GE : FnOk P w K mg base CX0 1 fE fdE ["self", "other"] (spEq (REq C))) (aE : PySem.W.findIn K (.ref C) "__eq__" = some (some (.ref fE))) (iE : PySem.W.isFn K (.ref fE) = true) (bE : Binds K fdE ["self", "other"] []) :
    FnOk P w K mg base CX0 4 f fd ["self", "other"] (spMEq K C CM) := by
  refine F.ok (k := 3) scMEq (fun vs H Q E h => ?_) (fun cdv A outer s H vs Q E hr h => ?_)
  · rcases h with ⟨p, q, rs, w, rfl, _⟩ | ⟨p, q, rs, rs', r, w, rfl, _⟩ | ⟨p, rs, w, y, t, rfl, _⟩ <;> rfl
  · generalize hX : (cxOf CX0 P w K mg base ["self", "other"] "Matrix.__eq__" (defScope sMEq) f cdv A outer s H E).nox = X
    have e1 : EqG X 1 (DRat C) := by
      subst hX
      exact eqG_ins (E := E) GE aE iE bE pass0
    have e2 : EqG X 2 (DRow K C) := by
      subst hX
      exact eqG_tup (mon_rat C) e1
    have hr' : Room 3 X.A := by
      subst hX
      exact hr
    have oE : OpR X (compareOp .Eq) (fun x y H Q => rEqG (DRows K C) x y H Q ∨ rShort K (DRow K C) x y H Q) := by
      subst hX
      exact OpR.or (op_eqG (rcG_tup (mon_tup (mon_rat C)) e2) hr') (op_eqShort (mon_tup (mon_rat C)) e2 hr')
    subst hX
    refine ⟨_, pss_one (ps_ret (pe_and (pe_callB call_isi (by rfl) T.isinstance (by decide +kernel) (pa_cons (pv 1) (pa_cons (pe_glob (v := .ref CM) rfl TM.mgM rfl) pa_nil)))
      (pe_and (pe_cmpR op_eq (pe_fld (pv 0) rfl) (pe_fld (pv 1) rfl) (nomark _)) (pe_one (pe_cmpR oE (pe_fld (pv 0) rfl) (pe_fld (pv 1) rfl) (nomark _)))))), ?_⟩
    rcases h with ⟨p, q, rs, w, rfl, ⟨dx, t, hp, ht⟩, ⟨dy, u, hq, hu⟩, k⟩ | ⟨p, q, rs, rs', r, w, rfl, ⟨dx, t, hp, ht⟩, ⟨dy, u, hq, hu⟩, k⟩ | ⟨p, rs, w, y, t, rfl, _, ty, hk, k⟩
    · refine ⟨_, rfl, _, _, _, _, true, rfl, ClsV.own CM, .base (.ins hq TM.cl IM.ha IM.hn IM.ht IM.hm), IM.kC, true, rfl, iteT ?_⟩
      refine ⟨_, rfl, p, CM, dx, _, _, rfl, hp, TM.cl, TM.nW, mf_width _ _, _, rfl, q, CM, dy, _, _, rfl, hq, TM.cl, TM.nW, mf_width _ _, rfl, _, rfl, ?_⟩
      rw [show decide (V.int w = V.int w) = true from decide_eq_true rfl]
      exact iteT ⟨_, rfl, p, CM, dx, _, _, rfl, hp, TM.cl, TM.nR, mf_rows _ _, _, rfl, q, CM, dy, _, _, rfl, hq, TM.cl, TM.nR, mf_rows _ _, .inl ⟨d_rows ht hu, fun H' e => k H' e⟩⟩
    · refine ⟨_, rfl, _, _, _, _, true, rfl, ClsV.own CM, .base (.ins hq TM.cl IM.ha IM.hn IM.ht IM.hm), IM.kC, true, rfl, iteT ?_⟩
      refine ⟨_, rfl, p, CM, dx, _, _, rfl, hp, TM.cl, TM.nW, mf_width _ _, _, rfl, q, CM, dy, _, _, rfl, hq, TM.cl, TM.nW, mf_width _ _, rfl, _, rfl, ?_⟩
      rw [show decide (V.int w = V.int w) = true from decide_eq_true rfl]
      exact iteT ⟨_, rfl, p, CM, dx, _, _, rfl, hp, TM.cl, TM.nR, mf_rows _ _, _, rfl, q, CM, dy, _, _, rfl, hq, TM.cl, TM.nR, mf_rows _ _, .inr ⟨d_short ht hu, fun H' e => k H' e⟩⟩
    · exact ⟨_, rfl, _, _, _, _, false, rfl, ClsV.own CM, ty, hk, false, rfl, iteF k⟩
end
end Ind

set_option Elab.async false
set_option linter.all false
set_option maxRecDepth 100000
set_option maxHeartbeats 4000000
namespace Ind
open PySem PySem.Spec PyProof.Rows L2 PySem.SeqAt
/-- two lists, alike up to k, different there -/
def DLstN (K : PySem.W.Frag) (D Dn : Eqv) : Eqv := fun x y H => ∃ (a b : Addr) (xs ys : List V) (k : Nat) (x0 y0 : V), x = .ref a ∧ y = .ref b ∧ a ≠ b ∧ H a = some (.lst xs) ∧ H b = some (.lst ys) ∧ xs.length = ys.length ∧ (∀ v ∈ xs, ∃ p, v = V.ref p) ∧ (∀ v ∈ ys, ∃ p, v = V.ref p) ∧ (∀ i x' y', i < k → xs[i]? = some x' → ys[i]? = some y' → D x' y' H) ∧ xs[k]? = some x0 ∧ ys[k]? = some y0 ∧ Dn x0 y0 H
theorem vals_refs : ∀ {xs : List V} {us vs : List Value}, (∀ v ∈ xs, ∃ p, v = V.ref p) → Vals xs us → Vals xs vs → us = vs
  | _, _, _, _, .nil, .nil => rfl
  | x :: xs, _, _, h, .cons a t, .cons b u => by
    obtain ⟨p, rfl⟩ := h x (by simp)
    rw [show _ = Value.ref p from a, show _ = Value.ref p from b, vals_refs (fun v hv => h v (List.mem_cons_of_mem _ hv)) t u]
theorem ncG_list {X : Cx} {n : Nat} {D Dn : Eqv} (mD : Mon D) (mN : Mon Dn) (hD : EqG X n D) (hN : NeG X n Dn) : NcG X (n + 1) (DLstN X.K D Dn) := by
  intro A pins s σ H x y u v sb I rx ry d
  obtain ⟨a, b, xs, ys, k, x0, y0, rfl, rfl, ne, ha, hb, hl, fx, fy, hlt, hx, hy, hn⟩ := d
  cases (show u = Value.ref a from rx)
  cases (show v = Value.ref b from ry)
  obtain ⟨ia, ra, pa, _⟩ := I.list (SqL.of ha)
  obtain ⟨ib, rb, pb, _⟩ := I.list (SqL.of hb)
  have kx := (List.getElem?_eq_some_iff.mp hx).1
  have ky := (List.getElem?_eq_some_iff.mp hy).1
  have k1 : k < ia.toArray.size := by
    have := ra.length
    rw [List.size_toArray]
    omega
  have k2 : k < ib.toArray.size := by
    have := rb.length
    rw [List.size_toArray]
    omega
  have he : ia.toArray.size = ib.toArray.size := by
    have := ra.length
    have := rb.length
    rw [List.size_toArray, List.size_toArray]
    omega
  have at_ : ∀ (i : Nat) (s' : Shared), LoopI X pins σ H s' → (∃ (n : Nat) (dd : Option Addr) (sl : Array (Option Value)), s'.heap.get? a = some { cls := .type "list", dict := dd, data := .seq ia.toArray n, slots := sl }) ∧ ∃ (n : Nat) (dd : Option Addr) (sl : Array (Option Value)), s'.heap.get? b = some { cls := .type "list", dict := dd, data := .seq ib.toArray n, slots := sl } := fun i s' l => by
    obtain ⟨H1, I1, e1⟩ := l
    obtain ⟨ja, sa, qa, _⟩ := I1.list (SqL.of (e1 _ _ ha))
    obtain ⟨jb, sb', qb, _⟩ := I1.list (SqL.of (e1 _ _ hb))
    have e1 := vals_refs fx ra sa
    have e2 := vals_refs fy rb sb'
    subst e1
    subst e2
    obtain ⟨⟨cls, dd, data, sl⟩, m, ho, hc, hd, hda⟩ := qa
    obtain ⟨⟨cls2, dd2, data2, sl2⟩, m2, ho2, hc2, hd2, hda2⟩ := qb
    simp only at hc hda hc2 hda2
    subst hc hda hc2 hda2
    exact ⟨⟨m, dd, sl, ho⟩, m2, dd2, sl2, ho2⟩
  obtain ⟨⟨n1, dd, sl, ho⟩, n2, dd2, sl2, ho2⟩ := at_ 0 s ⟨H, I, Ext.rfl'⟩
  have g := wpAny_richCompare_same_room (M := model X.prog X.w) (E := X.xe) (op := .Eq) (Q := fun r s' => r = .bool false ∧ ∃ H', L2.Inv X pins σ H' s' ∧ Ext H H') (a := .ref a) (b := .ref b) ⟨_, ho, rfl⟩ ⟨_, ho2, rfl⟩ F.slot_list_eq (GQ.call_here (prog := X.prog) (w := X.w) (A := A) F.slot_list_eq ⟨_, ho, rfl⟩ F.entry_list_eq (F.args_list_eq_2 _ _)
    (lst_diff (A := A) (R := wants (fun v s' => v ≠ .notImplemented ∧ v = .bool false ∧ ∃ H', L2.Inv X pins σ H' s' ∧ Ext H H') X.xe) he k1 (fun _ s' => LoopI X pins σ H s') at_ (fun i h1 h2 s' c l => ?_) (fun h1 h2 s' l => ?_) (fun s' l => ⟨(fun e => nomatch e), rfl, l⟩) (s := s) ⟨H, I, Ext.rfl'⟩)) sb.room.units0
  · exact g
  · obtain ⟨x', ex, rx'⟩ := vals_at ra h1
    obtain ⟨y', ey, ry'⟩ := vals_at rb h2
    exact turnE mD hD sb rx' ry' (hlt i x' y' c ex ey) s' l
  · obtain ⟨x', ex, rx'⟩ := vals_at ra h1
    obtain ⟨y', ey, ry'⟩ := vals_at rb h2
    rw [hx] at ex
    rw [hy] at ey
    cases ex
    cases ey
    exact turnN mN hN sb rx' ry' hn s' l
/-- two numbers that differ -/
def DRatN (C : Addr) : Eqv := fun x y H => ∃ (a b : Addr) (p q : Q2), x = .ref a ∧ y = .ref b ∧ RatQ C H a p ∧ RatQ C H b q ∧ p ≠ q
theorem ratQ_inj {C : Addr} {H : Hp} {a : Addr} {p q : Q2} (h1 : RatQ C H a p) (h2 : RatQ C H a q) : p = q := by
  obtain ⟨d1, e1⟩ := h1
  obtain ⟨d2, e2⟩ := h2
  have e := HO.ins.inj (Option.some.inj (e1.symm.trans e2))
  have f := e.2.2
  have g1 := congrArg (List.lookup ("n" : Str)) f
  have g2 := congrArg (List.lookup ("d" : Str)) f
  rw [rf_n, rf_n] at g1
  rw [rf_d, rf_d] at g2
  exact Prod.ext (V.int.inj (Option.some.inj g1)) (V.int.inj (Option.some.inj g2))
theorem dratN_ne {C : Addr} : ∀ x y H, DRatN C x y H → ∃ a b, x = .ref a ∧ y = .ref b ∧ a ≠ b := fun x y H ⟨a, b, p, q, e1, e2, h1, h2, ne⟩ => ⟨a, b, e1, e2, fun e => ne (by subst e; exact ratQ_inj h1 h2)⟩
theorem mon_ratN (C : Addr) : Mon (DRatN C) := fun x y H H' e ⟨a, b, p, q, e1, e2, h1, h2, ne⟩ => ⟨a, b, p, q, e1, e2, (RatQ.stb C).same e h1, (RatQ.stb C).same e h2, ne⟩
theorem ncG_rat {X : Cx} {CX : CXT} {C f : Addr} {fd : FuncData} {E : XK} (G : EqC X CX 1 C f fd ["self", "other"] (spEqR X.K C) E) (hc : Cls X.K C) (I0 : TxI X.K C) : NcG X 1 (DRatN C) := by
  intro A pins s σ H x y u v sb I rx ry d
  obtain ⟨a, b, p, q, rfl, rfl, h1, h2, ne⟩ := d
  cases (show u = Value.ref a from rx)
  obtain ⟨dx, ha⟩ := id h1
  obtain ⟨dy, hb⟩ := id h2
  obtain ⟨mA, O, _⟩ := ins_get I.hok ha
  obtain ⟨od, J, _⟩ := O.look
  have ty : TyX X.K H (.ref b) (.ref C) := .base (.ins hb hc I0.ha I0.hn I0.ht I0.hm)
  obtain ⟨P, Z, pz, _⟩ := kit_of I ry ty
  obtain ⟨m, hF⟩ := I.fr
  refine PySem.W.cmp_K (op := .Eq) (tb := .ref C) sb.room.units0 hF I.ok.mod.kin J (Z.ty _ _ I.kIn pz) (by simp [PySem.W.notFirst]) G.eq G.isf ?_
  refine wpAny_mono (run_eqO (R := fun r H' => r = false ∧ H' = H) G sb.room sb.fr I ry (.inl ⟨a, b, p.1, p.2, q.1, q.2, rfl, h1, h2, decide (p.1 = q.1 ∧ p.2 = q.2), rfl, decide_eq_false (fun z => ne (Prod.ext z.1 z.2)), rfl⟩)) (fun w s' z => ?_) fun _ _ e => e
  obtain ⟨r, rfl, H', I', rfl, rfl⟩ := z
  exact ⟨rfl, H', I', Ext.rfl'⟩
end Ind

set_option Elab.async false
set_option linter.all false
set_option maxRecDepth 100000
set_option maxHeartbeats 4000000
set_option exponentiation.threshold 9000
namespace Ind
open PySem PySem.Spec PyProof.Rows L2
open Builtin.Int (intBits)
abbrev sMRed : Stmt := inClass (top 17) 6
abbrev sMRk : Stmt := inClass (top 17) 7
/-- a row of numbers as ints -/
def RPt (b : Nat) (r : List Q2) (ns : List Int) : Prop := ns.length = r.length ∧ (∃ B : Int, 0 < B ∧ ∀ j, fr ns j = ((B : Int) : Rat) * rowF r j) ∧ Bt b ns
theorem rpt_of {b m : Nat} {r : List Q2} {B M : Int} (o : RowOk b m r) (hM : 0 < M) (hMb : intBits M ≤ m) (hB : 0 < B) (hd : ∀ q ∈ r, q.2 ∣ B) (hBM : B ∣ M) : RPt (b + m) r (partsOf B r) := by
  refine ⟨parts_len B r, ⟨B, hB, fr_parts hB fun q hq => ⟨(o.lo q hq).pos, hd q hq⟩⟩, fun n hn => ?_⟩
  obtain ⟨q, hq, rfl⟩ := List.mem_map.mp hn
  have c1 := bits_dvd hM hBM hMb
  have c2 : intBits (B.fdiv q.2) ≤ m := PySem.intBits_fdiv_le c1
  exact PySem.intBits_mul_le (o.bq q hq).1 c2
/-- the rows over their pivots -/
def red2 (cs : List (List Int)) (pv : List Nat) : List (List Q2) := List.zipWith (fun c p => c.map fun n => mkq n (c.getD p 0)) cs pv
theorem rowF_over {c : List Int} {p : Nat} (h : c.getD p 0 ≠ 0) (j : Nat) : rowF (c.map fun n => mkq n (c.getD p 0)) j = fr c j / fr c p := by
  unfold rowF fr
  rw [List.getD_eq_getElem?_getD, List.getElem?_map, List.getD_eq_getElem?_getD (l := c) (i := j)]
  cases e : c[j]? with
  | none =>
    show rv q0 = ((0 : Int) : Rat) / _
    rw [rv_q0]
    grind
  | some n => exact rv_mk h
theorem red2_zip : ∀ {cs : List (List Int)} {pv : List Nat}, pv.length = cs.length → (∀ x ∈ pv.zip (cs.map fr), x.2 x.1 ≠ 0) →
    (∀ y ∈ pv.zip ((red2 cs pv).map rowF), ∃ x ∈ pv.zip (cs.map fr), y.1 = x.1 ∧ ∀ j, y.2 j = x.2 j / x.2 x.1) ∧ (∀ x ∈ pv.zip (cs.map fr), ∃ y ∈ pv.zip ((red2 cs pv).map rowF), y.1 = x.1 ∧ ∀ j, y.2 j = x.2 j / x.2 x.1) ∧ (pv.zip ((red2 cs pv).map rowF)).map (·.1) = (pv.zip (cs.map fr)).map (·.1)
  | [], [], _, _ => ⟨by simp, by simp, rfl⟩
  | [], p :: pv, h, _ => by simp at h
  | c :: cs, [], h, _ => by simp at h
  | c :: cs, p :: pv, h, h0 => by
    obtain ⟨i1, i2, i3⟩ := red2_zip (cs := cs) (pv := pv) (by simpa using h) fun x hx => h0 x (List.mem_cons_of_mem _ hx)
    have hc : c.getD p 0 ≠ 0 := fun z => h0 (p, fr c) (by simp) (by
      show ((c.getD p 0 : Int) : Rat) = 0
      rw [z]
      rfl)
    refine ⟨fun z hz => ?_, fun z hz => ?_, ?_⟩
    · rcases List.mem_cons.mp (show z ∈ (p, rowF (c.map fun n => mkq n (c.getD p 0))) :: pv.zip ((red2 cs pv).map rowF) from hz) with rfl | hz
      · exact ⟨(p, fr c), by simp, rfl, rowF_over hc⟩
      · obtain ⟨u, hu, e1⟩ := i1 z hz
        exact ⟨u, List.mem_cons_of_mem _ hu, e1⟩
    · rcases List.mem_cons.mp (show z ∈ (p, fr c) :: pv.zip (cs.map fr) from hz) with rfl | hz
      · exact ⟨(p, rowF (c.map fun n => mkq n (c.getD p 0))), List.mem_cons_self, rfl, rowF_over hc⟩
      · obtain ⟨u, hu, e1⟩ := i2 z hz
        exact ⟨u, List.mem_cons_of_mem _ hu, e1⟩
    · show p :: (pv.zip ((red2 cs pv).map rowF)).map (·.1) = p :: (pv.zip (cs.map fr)).map (·.1)
      rw [i3]
/-- from the elimination of the rows as ints -/
theorem red_of {w b : Nat} {rs : List (List Q2)} {nss cs T : List (List Int)} {pv : List Nat} (hp : Paired (RPt b) rs nss) (h : Elim w w (nss.map fr) (pv.zip (cs.map fr)) (T.map fr)) (hl : pv.length = cs.length) : Red w (rs.map rowF) (pv.zip ((red2 cs pv).map rowF)) := by
  obtain ⟨i1, i2, i3⟩ := red2_zip hl h.piv
  refine Red.scale (h.red i1 i2 i3) (fun g hg => ?_) (fun g hg => ?_)
  · obtain ⟨ns, hn, rfl⟩ := List.mem_map.mp hg
    obtain ⟨r, hr, _, ⟨B, hB, e⟩, _⟩ := Paired.rt hp ns hn
    exact ⟨rowF r, List.mem_map_of_mem hr, _, cst_ne (by omega), e⟩
  · obtain ⟨r, hr, rfl⟩ := List.mem_map.mp hg
    obtain ⟨ns, hn, _, ⟨B, hB, e⟩, _⟩ := Paired.lf hp r hr
    exact ⟨fr ns, List.mem_map_of_mem hn, _, cst_ne (by omega), e⟩
/-- what the rows of a matrix must be for the elimination -/
structure MatOk (b m w : Nat) (rs : List (List Q2)) : Prop where
  row : ∀ r ∈ rs, r.length = w ∧ RowOk b m r
  len : rs.length ≤ 20
  wid : w ≤ 50
  bb : b ≤ 4000
  mm : m ≤ 4000
  big : grow (b + m) rs.length ≤ 8000
structure RedQ (b w : Nat) (rs rs2 : List (List Q2)) (pv : List Nat) : Prop where
  len : pv.length = rs2.length
  le : rs2.length ≤ rs.length
  row : ∀ r ∈ rs2, r.length = w ∧ ∀ q ∈ r, Lo q ∧ Bq b q
  red : Red w (rs.map rowF) (pv.zip (rs2.map rowF))
def spMRed (C CM : Addr) : Sp := fun vs H Q _ => ∃ (p : Addr) (rs : List (List Q2)) (b m w : Nat), vs = [.ref p] ∧ MatAt C CM w H p rs ∧ MatOk b m w rs ∧
  ∀ (H' : Hp) (t p2 tp : Addr) (rs2 : List (List Q2)) (pv : List Nat), Same H H' → H' t = some (.tup [.ref p2, .ref tp]) → MatAt C CM w H' p2 rs2 → H' tp = some (.tup (pv.map fun k : Nat => V.int (k : Int))) → RedQ (grow (b + m) rs.length) w rs rs2 pv → Q (.ref t) H'
def spMRk (C CM : Addr) : Sp := fun vs H Q _ => ∃ (p : Addr) (rs : List (List Q2)) (b m w : Nat), vs = [.ref p] ∧ MatAt C CM w H p rs ∧ MatOk b m w rs ∧
  ∀ (H' : Hp) (L : List (Nat × Fr)), Same H H' → Red w (rs.map rowF) L → Q (.int (L.length : Int)) H'
/-- the facts of the defs below -/
structure TxEl (P : Program) (w : World) (K : PySem.W.Frag) (mg : Str → Option Value) (base : Heap) (C : Addr) (fC fL : Addr) (fdC fdL : FuncData) : Prop where
  gC : mg "common_form" = some (.ref fC)
  kC : PySem.W.keepIn K (.ref fC) = true
  bC : Binds K fdC ["numbers"] []
  fnC : FnOk P w K mg base CX0 1 fC fdC ["numbers"] (spCF K C)
  gL : mg "eliminated" = some (.ref fL)
  kL : PySem.W.keepIn K (.ref fL) = true
  bL : Binds K fdL ["rows", "width"] []
  fnL : FnOk P w K mg base CX0 4 fL fdL ["rows", "width"] spElim
def FRow : FH (List Int) := fun H l ns => H l = some (.lst (ns.map V.int))
def FRowD (D : Addr) : FH (List Int) := fun H l ns => l ≠ D ∧ FRow H l ns
theorem FRowD.stbx (D : Addr) : StbX D (FRowD D) := fun H H' l ns s f => ⟨f.1, s _ _ f.2 (.inl f.1)⟩
section
variable {P : Program} {w : World} {K : PySem.W.Frag} {mg : Str → Option Value} {base : Heap} {C Z CM : Addr}
abbrev nRk : List Str := ["self", "row"]
abbrev nRed : List Str := ["self", "rows", "pivots", "found", "row", "pivot", "n"]
theorem scMRed : FnScope nRed ["self"] (defScope sMRed) := ⟨rfl, rfl, rfl, by decide +kernel, rfl, by decide +kernel, by decide +kernel⟩
/-- the list of the rows as ints: what its reading asks (the comprehension's name in slot j) -/
theorem parts_read {σ : L2.St} {H : Hp} {p : Addr} {rs : List (List Q2)} {b m wd j : Nat} {Q : VK} (TM : TxM K mg CM) (hs : σ[0]? = some (some (.ref p))) (hj : j < σ.length) (hm : MatAt C CM wd H p rs) (ho : MatOk b m wd rs)
    (k : ∀ (D : Addr) (H' : Hp) (ps : List Addr) (nss : List (List Int)), Same H H' → H' D = some (.lst (ps.map V.ref)) → RowsAt H' ps nss → Paired (RPt (b + m)) rs nss → Q (.ref D) H') :
    tLc (iTup K (tFld K (tVar 0) "rows")) (gName j) tYes (tOp (rIxT K) (fun σ H Q => tCons (tVar j) tNil σ H fun vs H1 => spCF K C vs H1 Q (fun _ _ _ => False)) (fun σ H Q => Q (.int 0) H)) [j] σ H Q := by
  obtain ⟨dx, t, hp, ps, ht, hP⟩ := hm
  refine ⟨_, hs, p, CM, dx, _, _, rfl, hp, TM.cl, TM.nR, mf_rows _ _, t, rfl, ⟨_, SqT.of ht⟩, fun D hD => lc_tup (K := K) (a := t) (xs := ps.map V.ref) (fun i H2 => ∃ nss, Col (FRowD D) D H H2 nss ∧ Paired (RPt (b + m)) (rs.take i) nss) ⟨[], Col.start hD, .nil⟩ (fun i H2 _ z => let ⟨_, z, _⟩ := z; .of (z.s _ _ ht)) ?_ ?_⟩
  · rintro i y H2 hy ⟨nss, z, hq⟩
    obtain ⟨a, ha, rfl⟩ := item_of hy
    obtain ⟨r, hri, hra⟩ := Paired.at hP ha
    have o := (ho.row r (List.mem_of_getElem? hri)).2
    obtain ⟨M, m1, m2, m3⟩ := o.mul
    have e1 : wipe (wipe σ [j] |>.set j (some (V.ref a))) [j] = wipe σ [j] := by
      show ((σ.set j none).set j (some (V.ref a))).set j none = σ.set j none
      rw [List.set_set, List.set_set]
    have e2 : ((wipe σ [j]).set j (some (V.ref a)))[j]? = some (some (V.ref a)) := by
      show ((σ.set j none).set j (some (V.ref a)))[j]? = _
      rw [List.getElem?_set_self]
      rw [List.length_set]
      exact hj
    refine ⟨e1, _, e2, a, r, b, m, M, rfl, (VecR.stb C).same z.s hra, fun q hq => ⟨(o.lo q hq).pos, o.bq q hq⟩, o.len, ho.bb, ho.mm, m1, m2, m3, fun H3 t2 l2 B s3 nl2 ht2 hl2 hB hd hBM => ?_⟩
    have hln := hq.length
    rw [List.length_take] at hln
    have hlen := ho.len
    have hl2D : l2 ≠ D := fun e => by
      obtain ⟨_, e1, _⟩ := z.at_
      rw [e, e1] at nl2
      cases nl2
    obtain ⟨acc, e1, e2, z2⟩ := z.push (FRowD.stbx D) hD s3 (b := partsOf B r) (p := l2) ⟨hl2D, hl2⟩ (by omega)
    refine ⟨t2, _, _, _, rfl, rfl, SqT.of ht2, atI_of (k := 0) rfl, acc, e1, e2, _, z2, ?_⟩
    rw [take_snoc hri]
    exact Paired.snocP hq (rpt_of o m1 m2 hB hd hBM)
  · rintro H2 ⟨nss, z, hq⟩
    rw [List.length_map, hP.length, List.take_length] at hq
    obtain ⟨la, e1, e2⟩ := z.at_
    exact k D H2 la nss z.s e1 (Paired.imp (fun _ _ f => f.2) e2) hq
theorem rows_bt {b : Nat} {rs : List (List Q2)} {nss : List (List Int)} {wd : Nat} (h : Paired (RPt b) rs nss) (hr : ∀ r ∈ rs, r.length = wd) : ∀ ns ∈ nss, ns.length = wd ∧ Bt b ns := fun ns hn => by
  obtain ⟨r, hr', e1, _, e3⟩ := Paired.rt h ns hn
  exact ⟨e1.trans (hr r hr'), e3⟩
end
end Ind

set_option Elab.async false
set_option linter.all false
set_option maxRecDepth 100000
set_option maxHeartbeats 4000000
set_option exponentiation.threshold 9000
namespace Ind
open PySem PySem.Spec PyProof.Rows L2
open Builtin.Int (intBits)
theorem red2_len {cs : List (List Int)} {pv : List Nat} (h : pv.length = cs.length) : (red2 cs pv).length = cs.length := by
  unfold red2
  rw [List.length_zipWith]
  omega
theorem red2_row {cs : List (List Int)} {pv : List Nat} {b w : Nat} (hc : ∀ c ∈ cs, c.length = w ∧ Bt b c) (h0 : ∀ x ∈ pv.zip (cs.map fr), x.2 x.1 ≠ 0) : ∀ r ∈ red2 cs pv, r.length = w ∧ ∀ q ∈ r, Lo q ∧ Bq b q := by
  intro r hr
  unfold red2 at hr
  obtain ⟨i, hi, e⟩ := List.getElem_of_mem hr
  rw [List.getElem_zipWith] at e
  rw [List.length_zipWith] at hi
  have i1 : i < cs.length := by omega
  have i2 : i < pv.length := by omega
  have hm := hc cs[i] (List.getElem_mem i1)
  have hp : (pv[i], fr cs[i]) ∈ pv.zip (cs.map fr) := by
    have : (pv.zip (cs.map fr))[i]? = some (pv[i], fr cs[i]) := by
      rw [List.getElem?_zip_eq_some]
      exact ⟨List.getElem?_eq_getElem i2, by rw [List.getElem?_map, List.getElem?_eq_getElem i1]; rfl⟩
    exact List.mem_of_getElem? this
  have hz := h0 _ hp
  have hd : cs[i].getD pv[i] 0 ≠ 0 := fun z => hz (by
    show ((cs[i].getD pv[i] 0 : Int) : Rat) = 0
    rw [z]
    rfl)
  rw [← e]
  refine ⟨by rw [List.length_map]; exact hm.1, fun q hq => ?_⟩
  obtain ⟨n, hn, rfl⟩ := List.mem_map.mp hq
  exact ⟨lo_mk hd, bq_mk (hm.2 n hn) (bt_get hm.2 _)⟩
theorem rowsLT_made {C CM : Addr} {H1 : Hp} {l x dx : Addr} {rs : List (List Q2)} (hl : RowsLT C H1 l rs) (nx : H1 x = none) (nd : H1 dx = none) (ne : dx ≠ x) : RowsLT C (upd (upd H1 dx (.own x)) x (.ins CM dx [])) l rs := by
  have nx2 : (upd H1 dx (.own x)) x = none := by
    rw [upd_ne (Ne.symm ne)]
    exact nx
  exact hl.same ((same_upd nd).trans (same_upd nx2))
abbrev scRd1 : Scope := { kind := .function, names := [(".0", .local), ("row", .cell), ("pivot", .cell)], isGenerator := false, isCoroutine := false }
abbrev scRd2 : Scope := { kind := .function, names := [(".0", .local), ("n", .local), ("Ratio", .globalImplicit), ("pivot", .free), ("row", .free)], isGenerator := false, isCoroutine := false }
theorem blkRd : BlkOk nRed scRd1 scRd2 [("n", 6)] := blkOk_by (by decide +kernel)
section
variable {P : Program} {w : World} {K : PySem.W.Frag} {mg : Str → Option Value} {base : Heap} {C Z CM : Addr}
theorem ok_mred {f fC fL fI fM : Addr} {fd fdC fdL fdI fdM : FuncData} {ds : List Value} (F : Fun K "reduced" "Matrix.reduced" sMRed f fd) (T : TxL K mg) (R : TxR K mg C Z) (TM : TxM K mg CM) (TE : TxEl P w K mg base C fC fL fdC fdL) (M : MkR P w K mg base C Z fI fdI ds) (MM : MkM P w K mg base C CM fM fdM) :
    FnOk P w K mg base CX0 43 f fd ["self"] (spMRed C CM) := by
  refine F.ok scMRed (fun vs H Q E h => ?_) (fun cdv A outer s H vs Q E hr h => ?_)
  · obtain ⟨p, rs, b, m, w, rfl, _⟩ := h
    rfl
  · obtain ⟨p, rs, b, m, w, rfl, hm, ho, k⟩ := h
    have h1 := hr.mono (show 1 ≤ 42 by decide)
    have h2 := hr.mono (show 2 ≤ 42 by decide)
    have h4 := hr.mono (show 4 ≤ 42 by decide)
    refine ⟨_, pss_cons (ps_asg (pe_call TE.fnL h4 (by rfl) TE.gL TE.kL TE.bL .nil pass0 (pa_cons (pe_lc (own := [("row", 4)]) (g := gName 4) (tt := tYes) (te := tOp (rIxT K) (fun σ H Q => tCons (tVar 4) tNil σ H fun vs H1 => spCF K C vs H1 Q (fun _ _ _ => False)) (fun σ H Q => Q (.int 0) H)) rfl scMRed.nd (pi_tup (pe_fld (pv 0) rfl)) (blkOk_by (N := nRed) (sc := defScope sMRed) (by decide +kernel))
          (fun _ _ _ _ _ => pg_name (i := 4) scMRed.nd rfl (Or.inl rfl)) (fun _ _ _ _ _ => pts_nil) (fun _ _ _ _ _ => pe_ix ix_tup (pe_call TE.fnC h1 (by rfl) TE.gC TE.kC TE.bC .nil pass0 (pa_cons (pv 4) pa_nil)) pe_int fun _ _ => rfl)) (pa_cons (pe_fld (pv 0) rfl) pa_nil)))
          (pg_tup (by rfl) (pgs_cons (pg_name (i := 1) scMRed.nd rfl (Or.inl rfl)) (pgs_cons (pg_name (i := 2) scMRed.nd rfl (Or.inl rfl)) pgs_nil))))
      (pss_cons (ps_setLc (i := 3) (own := [("row", 4), ("pivot", 5)]) (g := gTup K 2 (gCons (gName 4) (gCons (gName 5) gNil))) (tt := tYes) (te := tLc (iList K (tVar 4)) (gName 6) tYes (tMake C (spInit C Z) [] E0 (tCons (tVar 6) (tCons (tOp (rIxL K) (tVar 4) (tVar 5)) tNil))) [6]) rfl scMRed.nd rfl rfl rfl (pi_zip (by rfl) TM.zip (pa_cons (pv 1) (pa_cons (pv 2) pa_nil))) (blkOk_by (N := nRed) (sc := defScope sMRed) (by decide +kernel))
          (fun _ _ _ _ _ => pg_tup (by rfl) (pgs_cons (pg_name (i := 4) scMRed.nd rfl (Or.inr rfl)) (pgs_cons (pg_name (i := 5) scMRed.nd rfl (Or.inr rfl)) pgs_nil))) (fun _ _ _ _ _ => pts_nil)
          (fun _ _ _ _ _ => pe_lc (own := [("n", 6)]) (g := gName 6) (tt := tYes) (te := tMake C (spInit C Z) [] E0 (tCons (tVar 6) (tCons (tOp (rIxL K) (tVar 4) (tVar 5)) tNil))) rfl scMRed.nd (pi_list (pv 4)) blkRd
            (fun _ _ _ _ _ => pg_name (i := 6) scMRed.nd rfl (Or.inl rfl)) (fun _ _ _ _ _ => pts_nil) (fun _ _ _ _ _ => pe_make M.cm M.fn hr (by rfl) R.mgC M.b2 .nil passL (pa_cons (pv 6) (pa_cons (pe_ix ix_list (pv 4) (pv 5) fun _ _ => rfl) pa_nil)))))
      (pss_one (ps_ret (pe_tup (pa_cons (pe_make MM.cm MM.fn h2 (by rfl) TM.mgM MM.b3 .nil pass0 (pa_cons (pv 3) (pa_cons (pe_fld (pv 0) rfl) pa_nil))) (pa_cons (pe_callTy call_tuple_of (by rfl) TM.tuple (by decide +kernel) (pa_cons (pv 2) pa_nil)) pa_nil)))))), ?_⟩
    obtain ⟨dx, t, hp, _⟩ := id hm
    dsimp only [tSeq, tAsg, tCB, tCons, tOp, tCall]
    refine parts_read (σ := [some (V.ref p), none, none, none, none, none, none]) (j := 4) TM rfl (by decide : (4 : Nat) < 7) hm ho fun D H1 ps nss s1 hD hR hq => ?_
    have hb := rows_bt hq fun r hr => (ho.row r hr).1
    have hl := hq.length
    refine ⟨_, rfl, p, CM, dx, _, _, rfl, s1 _ _ hp, TM.cl, TM.nW, mf_width _ _, D, ps, nss, w, b + m, rfl, hD, hR, fun r hr => (hb r hr).1, ho.wid, by rw [← hl]; exact ho.len, fun r hr => (hb r hr).2, by rw [← hl]; exact ho.big, ?_⟩
    intro H2 t2 qc qp pc cs T2 pv s2 ht2 hqc hrc hqp hlen hle hcs hel
    rw [← hl] at hcs hle
    have hz := hel.piv
    have S2 := s1.trans s2
    refine ⟨t2, _, rfl, SqT.of ht2, rfl, _, _, rfl, _, _, rfl, rfl, ?_⟩
    have hlc := hrc.length
    refine ⟨_, rfl, _, rfl, qc, qp, _, _, rfl, SqL.of hqc, SqL.of hqp, fun D2 hD2 => lc_it (walk_zip (K := K) (a := qc) (b := qp) (xs := pc.map V.ref) (ys := pv.map fun k : Nat => V.int (k : Int)) (n := cs.length) (by rw [List.length_map, List.length_map, hlc, hlen, Nat.min_self]))
      (fun i H3 => Col (fun H l b => l ≠ D2 ∧ Ls (RatQ C) H l b) D2 H2 H3 (red2 (cs.take i) (pv.take i))) (Col.start hD2) (fun i H3 _ z => ⟨z.s.seq (SqL.of hqc), z.s.seq (SqL.of hqp)⟩) ?_ ?_⟩
    · rintro i x H3 H4 hi z ⟨T', x1, x2, rfl, hT, rfl, e1, e2⟩
      obtain ⟨a, ha, rfl⟩ := item_of e1
      obtain ⟨c, hci, hca⟩ := hrc.at ha
      obtain ⟨pi, hpi, rfl⟩ : ∃ pi, pv[i]? = some pi ∧ x2 = V.int (pi : Int) := by
        have e2 : (pv.map fun k : Nat => V.int (k : Int))[i]? = some x2 := e2
        rw [List.getElem?_map] at e2
        cases e : pv[i]? with
        | none => rw [e] at e2; cases e2
        | some y => rw [e] at e2; exact ⟨y, rfl, (Option.some.inj e2).symm⟩
      have hcw := hcs c (List.mem_of_getElem? hci)
      have hx : (pi, fr c) ∈ pv.zip (cs.map fr) := by
        have : (pv.zip (cs.map fr))[i]? = some (pi, fr c) := by
          rw [List.getElem?_zip_eq_some]
          exact ⟨hpi, by rw [List.getElem?_map, hci]; rfl⟩
        exact List.mem_of_getElem? this
      have hpw : pi < w := hel.lt _ hx
      have hd0 : c.getD pi 0 ≠ 0 := fun z => hz _ hx (by
        show ((c.getD pi 0 : Int) : Rat) = 0
        rw [z]
        rfl)
      have s3 : Same H3 (upd H3 T' (.tup [.ref a, .int (pi : Int)])) := same_upd hT
      have sA := z.s.trans s3
      have hca' := sA _ _ hca
      obtain ⟨d, hd⟩ : ∃ d, c[pi]? = some d := ⟨_, List.getElem?_eq_getElem (by omega)⟩
      refine ⟨T', _, rfl, SqT.of upd_same, rfl, _, _, rfl, _, _, rfl, rfl, rfl, _, rfl, a, rfl, ⟨_, SqL.of hca'⟩, fun D3 hD3 => lc_list (K := K) (a := a) (xs := c.map V.int) (fun j H5 => Col (RatQ C) D3 (upd H3 T' (.tup [.ref a, .int (pi : Int)])) H5 ((c.take j).map fun n => mkq n (c.getD pi 0))) (Col.start hD3) (fun j H5 _ y => y.s.seq (SqL.of hca')) ?_ ?_⟩
      · rintro j x H5 hx y
        obtain ⟨n, hn, rfl⟩ := int_of hx
        refine ⟨rfl, _, rfl, _, rfl, _, rfl, a, _, _, _, rfl, rfl, SqL.of (y.s _ _ hca'), row_at hd, ?_⟩
        have hd1 : d ≠ 0 := by
          rw [getD_mem hd] at hd0
          exact hd0
        intro u du nu ndu neu
        refine ⟨u, du, n, d, rfl, upd_same, fun z => absurd z hd1, fun _ H6 hu kk => ⟨rfl, ?_⟩⟩
        have s6 := Same.made nu ndu kk
        rw [map_take_snoc hn]
        refine y.push ((RatQ.stb C).x D3) hD3 s6 ?_ ?_
        · show RatQ C H6 u (mkq n (c.getD pi 0))
          rw [getD_mem hd]
          exact hu
        · have := ho.wid
          rw [List.length_map, List.length_take]
          omega
      · rintro H5 y
        rw [List.length_map, List.take_length] at y
        have e3 : red2 (cs.take (i + 1)) (pv.take (i + 1)) = red2 (cs.take i) (pv.take i) ++ [c.map fun n => mkq n (c.getD pi 0)] := zipWith_take (f := fun (c : List Int) (p : Nat) => c.map fun n => mkq n (c.getD p 0)) hci hpi
        rw [e3]
        refine z.push (Ls.stbx (RatQ.stb C) D2) hD2 (s3.trans y.s) ⟨?_, y.at_⟩ ?_
        · intro e
          obtain ⟨_, e1, _⟩ := z.at_
          rw [e, s3 _ _ e1] at hD3
          cases hD3
        · have := ho.len
          unfold red2
          rw [List.length_zipWith, List.length_take, List.length_take]
          omega
    · rintro H3 z
      rw [List.take_of_length_le (Nat.le_refl _), List.take_of_length_le (by omega)] at z
      obtain ⟨la, e1, e2⟩ := z.at_
      have S3 := S2.trans z.s
      have hrl := red2_len hlen
      refine ⟨_, rfl, _, rfl, p, CM, dx, _, _, rfl, S3 _ _ hp, TM.cl, TM.nW, mf_width _ _, ?_⟩
      intro x dx4 nx ndx nex
      refine ⟨x, dx4, D2, red2 cs pv, w, rfl, upd_same, rowsLT_made ⟨la, e1, Paired.imp (fun _ _ f => .inl f.2) e2⟩ nx ndx nex, (by have := ho.len; omega), fun H4 hx kk => ⟨rfl, ?_⟩⟩
      have s4 := Same.made nx ndx kk
      refine ⟨_, rfl, qp, _, rfl, .inl ⟨SqL.of (s4 _ _ (z.s _ _ hqp)), fun tp htp => ?_⟩⟩
      refine ⟨(by show 2 ≤ sizeLine; decide), fun t5 ht5 => ?_⟩
      have s5 : Same H4 (upd H4 tp (.tup (pv.map fun k : Nat => V.int (k : Int)))) := same_upd htp
      have s6 := s5.trans (same_upd (o := .tup [.ref x, .ref tp]) ht5)
      refine k _ t5 x tp (red2 cs pv) pv (S3.trans (s4.trans s6)) upd_same ((MatAt.stb C CM w).same s6 hx) (same_upd ht5 _ _ upd_same) ⟨by omega, by omega, red2_row hcs hz, red_of hq hel hlen⟩
end
end Ind

set_option Elab.async false
set_option linter.all false
set_option maxRecDepth 100000
set_option maxHeartbeats 4000000
set_option exponentiation.threshold 9000
namespace Ind
open PySem PySem.Spec PyProof.Rows L2
open Builtin.Int (intBits)
/-! ### a matrix with one column more; what is read off its reduced form -/
def aug (rs : List (List Q2)) (bs : List Q2) : List (List Q2) := List.zipWith (· ++ ·) rs (bs.map fun q => [q])
theorem aug_len {rs : List (List Q2)} {bs : List Q2} (h : bs.length = rs.length) : (aug rs bs).length = rs.length := by
  unfold aug
  rw [List.length_zipWith, List.length_map]
  omega
theorem aug_at {rs : List (List Q2)} {bs : List Q2} {i : Nat} {r : List Q2} {q : Q2} (h1 : rs[i]? = some r) (h2 : bs[i]? = some q) : (aug rs bs)[i]? = some (r ++ [q]) := by
  unfold aug
  rw [List.getElem?_zipWith, List.getElem?_map, h1, h2]
  rfl
theorem aug_mem {rs : List (List Q2)} {bs : List Q2} {g : List Q2} (h : g ∈ aug rs bs) : ∃ (i : Nat) (r : List Q2) (q : Q2), rs[i]? = some r ∧ bs[i]? = some q ∧ g = r ++ [q] := by
  obtain ⟨i, hi, e⟩ := List.getElem_of_mem h
  unfold aug at hi e
  rw [List.length_zipWith, List.length_map] at hi
  rw [List.getElem_zipWith, List.getElem_map] at e
  exact ⟨i, _, _, List.getElem?_eq_getElem (by omega), List.getElem?_eq_getElem (by omega), e.symm⟩
theorem rowF_in {r : List Q2} {q : Q2} {j : Nat} (h : j < r.length) : rowF (r ++ [q]) j = rowF r j := by
  unfold rowF
  rw [List.getD_eq_getElem?_getD, List.getD_eq_getElem?_getD, List.getElem?_append_left h]
theorem rowF_last {r : List Q2} {q : Q2} : rowF (r ++ [q]) r.length = rv q := by
  unfold rowF
  rw [List.getD_eq_getElem?_getD, List.getElem?_append_right (Nat.le_refl _), Nat.sub_self]
  rfl
theorem dt_sum {w : Nat} {r y : Fr} : dt w r y = sumTo w fun j => r j * y j := rfl
theorem Paired.set {α β : Type} {F : α → β → Prop} : ∀ {xs : List α} {ys : List β} {x : α} {y : β} (j : Nat), Paired F xs ys → F x y → Paired F (xs.set j x) (ys.set j y)
  | _, _, _, _, _, .nil, _ => .nil
  | _, _, _, _, 0, .cons _ t, h => .cons h t
  | _, _, _, _, j + 1, .cons a t, h => .cons a (Paired.set j t h)
theorem Col.put {β : Type} {F : FH β} {D p : Addr} {H H2 H3 : Hp} {bs : List β} {b : β} (x : Col F D H H2 bs) (hF : StbX D F) (hD : H D = none) (s : Same H2 H3) (hf : F H3 p b) :
    ∃ vs, H3 D = some (.lst vs) ∧ vs.length = bs.length ∧ ∀ j, Col F D H (upd H3 D (.lst (vs.set j (V.ref p)))) (bs.set j b) := by
  obtain ⟨ps, e, q⟩ := x.at_
  have e3 := s _ _ e
  refine ⟨ps.map V.ref, e3, by rw [List.length_map, q.length], fun j => ⟨fun c o ec => ?_, ps.set j p, ?_, ?_⟩⟩
  · rw [upd_ne (ne_of_none ec hD)]
    exact s _ _ (x.s c o ec)
  · rw [upd_same, List.map_set]
  · exact Paired.set j (Paired.imp (fun a b f => hF _ _ a b (sx_upd e3) (hF.same s f)) q) (hF _ _ _ _ (sx_upd e3) hf)
theorem ixN_of {n k : Nat} (h : k < n) : ixN n ((k : Nat) : Int) = some k := by
  unfold ixN
  rw [if_pos (by omega), if_pos (by omega)]
  all_goals rfl
theorem atI_m1 {α : Type} {xs : List α} {w : Nat} {v : α} (h : xs.length = w + 1) (hv : xs[w]? = some v) : atI xs (-1) = some v := by
  have e : xs = xs.take w ++ [v] := by
    have := take_snoc hv
    rw [← this, List.take_of_length_le (by omega)]
  rw [e]
  exact atI_last _ _
/-- the list that the loop fills -/
def solL (w : Nat) (L : List (Nat × List Q2)) (acc : List Q2) : List Q2 := L.foldl (fun a x => a.set x.1 (x.2.getD w q0)) acc
theorem solL_snoc (w : Nat) (L : List (Nat × List Q2)) (x : Nat × List Q2) (acc : List Q2) : solL w (L ++ [x]) acc = (solL w L acc).set x.1 (x.2.getD w q0) := by
  unfold solL
  rw [List.foldl_append]
  rfl
theorem solL_len (w : Nat) : ∀ (L : List (Nat × List Q2)) (acc : List Q2), (solL w L acc).length = acc.length
  | [], _ => rfl
  | x :: L, acc => by
    show (solL w L (acc.set x.1 (x.2.getD w q0))).length = _
    rw [solL_len w L, List.length_set]
theorem solL_off (w : Nat) {j : Nat} : ∀ (L : List (Nat × List Q2)) (acc : List Q2), (∀ x ∈ L, x.1 ≠ j) → (solL w L acc).getD j q0 = acc.getD j q0
  | [], _, _ => rfl
  | x :: L, acc, h => by
    show (solL w L (acc.set x.1 (x.2.getD w q0))).getD j q0 = _
    rw [solL_off w L _ fun y hy => h y (List.mem_cons_of_mem _ hy), List.getD_eq_getElem?_getD, List.getElem?_set_ne (h x (by simp)), List.getD_eq_getElem?_getD]
theorem solL_on (w : Nat) : ∀ (L : List (Nat × List Q2)) (acc : List Q2), (L.Pairwise fun x y => x.1 < y.1) → (∀ x ∈ L, x.1 < acc.length) → ∀ x ∈ L, (solL w L acc).getD x.1 q0 = x.2.getD w q0
  | [], _, _, _ => by simp
  | a :: L, acc, inc, lt => by
    obtain ⟨ia, il⟩ := List.pairwise_cons.mp inc
    intro x hx
    show (solL w L (acc.set a.1 (a.2.getD w q0))).getD x.1 q0 = _
    rcases List.mem_cons.mp hx with rfl | h
    · rw [solL_off w L _ fun y hy => Nat.ne_of_gt (ia y hy), List.getD_eq_getElem?_getD, List.getElem?_set_self (lt x (by simp))]
      rfl
    · exact solL_on w L _ il (fun y hy => by rw [List.length_set]; exact lt y (List.mem_cons_of_mem _ hy)) x h
theorem solL_all (w : Nat) {F : Q2 → Prop} : ∀ (L : List (Nat × List Q2)) (acc : List Q2), (∀ q ∈ acc, F q) → (∀ x ∈ L, F (x.2.getD w q0)) → ∀ q ∈ solL w L acc, F q
  | [], _, h, _ => h
  | x :: L, acc, h, hx => by
    refine solL_all w L _ (fun q hq => ?_) fun y hy => hx y (List.mem_cons_of_mem _ hy)
    rcases List.mem_or_eq_of_mem_set hq with z | z
    · exact h q z
    · rw [z]
      exact hx x (by simp)
theorem zip_rowF {pv : List Nat} {rs : List (List Q2)} {x : Nat × List Q2} (h : x ∈ pv.zip rs) : (x.1, rowF x.2) ∈ pv.zip (rs.map rowF) := by
  rw [List.zip_map_right]
  exact List.mem_map.mpr ⟨x, h, rfl⟩
theorem zip_rowF' {pv : List Nat} {rs : List (List Q2)} {y : Nat × Fr} (h : y ∈ pv.zip (rs.map rowF)) : ∃ x ∈ pv.zip rs, y = (x.1, rowF x.2) := by
  rw [List.zip_map_right] at h
  obtain ⟨x, hx, e⟩ := List.mem_map.mp h
  exact ⟨x, hx, e.symm⟩
theorem zip_inc {pv : List Nat} {rs : List (List Q2)} (h : (pv.zip (rs.map rowF)).Pairwise fun x y => x.1 < y.1) : (pv.zip rs).Pairwise fun x y => x.1 < y.1 := by
  rw [List.zip_map_right] at h
  exact (List.pairwise_map.mp h).imp fun z => z
/-- there is a solution -/
def Solv (w : Nat) (rs : List (List Q2)) (bs : List Q2) (y : Fr) : Prop := ∀ (i : Nat) (r : List Q2) (q : Q2), rs[i]? = some r → bs[i]? = some q → dt w (rowF r) y = rv q
theorem solv_aug {w : Nat} {rs : List (List Q2)} {bs : List Q2} {y : Fr} (hw : ∀ r ∈ rs, r.length = w) (h : Solv w rs bs y) : ∀ g ∈ (aug rs bs).map rowF, sumTo w (fun j => g j * y j) = g w := by
  intro g hg
  obtain ⟨a, ha, rfl⟩ := List.mem_map.mp hg
  obtain ⟨i, r, q, h1, h2, rfl⟩ := aug_mem ha
  have hr := hw r (List.mem_of_getElem? h1)
  have e := h i r q h1 h2
  rw [← hr] at e ⊢
  rw [rowF_last, ← e]
  exact sumTo_congr fun j hj => by rw [rowF_in hj]
theorem aug_solv {w : Nat} {rs : List (List Q2)} {bs : List Q2} {y : Fr} (hw : ∀ r ∈ rs, r.length = w) (h : ∀ g ∈ (aug rs bs).map rowF, sumTo w (fun j => g j * y j) = g w) : Solv w rs bs y := by
  intro i r q h1 h2
  have hr := hw r (List.mem_of_getElem? h1)
  have e := h _ (List.mem_map_of_mem (List.mem_of_getElem? (aug_at h1 h2)))
  rw [← hr] at e ⊢
  rw [rowF_last] at e
  rw [← e]
  exact sumTo_congr fun j hj => by rw [rowF_in hj]
/-- no pivot in the last column -/
theorem no_last {w : Nat} {rs rs2 : List (List Q2)} {bs : List Q2} {pv : List Nat} {b : Nat} {y : Fr} (hw : ∀ r ∈ rs, r.length = w) (h : RedQ b (w + 1) (aug rs bs) rs2 pv) (hy : Solv w rs bs y) : ∀ x ∈ pv.zip rs2, x.1 < w := by
  intro x hx
  have h1 := h.red.no_last (solv_aug hw hy) _ (zip_rowF hx)
  have h2 := h.red.lt _ (zip_rowF hx)
  have h1 : x.1 ≠ w := h1
  have h2 : x.1 < w + 1 := h2
  omega
theorem sol_is {w : Nat} {rs rs2 : List (List Q2)} {bs : List Q2} {pv : List Nat} {b : Nat} (hw : ∀ r ∈ rs, r.length = w) (h : RedQ b (w + 1) (aug rs bs) rs2 pv) (hn : ∀ x ∈ pv.zip rs2, x.1 < w) : Solv w rs bs (rowF (solL w (pv.zip rs2) (List.replicate w q0))) := by
  have inc := zip_inc h.red.inc
  have lr : (List.replicate w q0).length = w := List.length_replicate ..
  refine aug_solv hw (h.red.solves (fun y hy => ?_) (fun y hy => ?_) fun j hj hz => ?_)
  · obtain ⟨x, hx, rfl⟩ := zip_rowF' hy
    have : x.1 < w := hn x hx
    show x.1 ≠ w
    omega
  · obtain ⟨x, hx, rfl⟩ := zip_rowF' hy
    show rv _ = rv _
    rw [solL_on w _ _ inc (fun x hx => by rw [lr]; exact hn x hx) x hx]
  · show rv _ = 0
    rw [solL_off w _ _ fun x hx => hz _ (zip_rowF hx), List.getD_eq_getElem?_getD, List.getElem?_replicate, if_pos hj]
    exact rv_q0
theorem sol_low {w b : Nat} {rs rs2 : List (List Q2)} {bs : List Q2} {pv : List Nat} (h : RedQ b (w + 1) (aug rs bs) rs2 pv) (hb : 1 ≤ b) : ∀ q ∈ solL w (pv.zip rs2) (List.replicate w q0), Lo q ∧ Bq b q := by
  refine solL_all w _ _ (fun q hq => ?_) fun x hx => ?_
  · rw [(List.mem_replicate.mp hq).2]
    exact ⟨lo_q0, Nat.le_trans (show intBits 0 ≤ 1 by decide) hb, Nat.le_trans (show intBits 1 ≤ 1 by decide) hb⟩
  · have hm := List.of_mem_zip hx
    have hr := h.row x.2 hm.2
    have : x.2[w]? = some x.2[w] := List.getElem?_eq_getElem (by omega)
    rw [getD_q this]
    exact hr.2 _ (List.getElem_mem _)
end Ind

set_option Elab.async false
set_option linter.all false
set_option maxRecDepth 100000
set_option maxHeartbeats 4000000
set_option exponentiation.threshold 9000
namespace Ind
open PySem PySem.Spec PyProof.Rows L2
open Builtin.Int (intBits)
/-! ### either a solution, or a combination that shows that there is none -/
theorem sumTo_swap (f : Nat → Nat → Rat) : ∀ m n : Nat, sumTo m (fun i => sumTo n fun j => f i j) = sumTo n (fun j => sumTo m fun i => f i j)
  | 0, n => by
    show (0 : Rat) = sumTo n fun j => 0
    rw [sumTo_zero]
  | m + 1, n => by
    show sumTo m (fun i => sumTo n fun j => f i j) + sumTo n (fun j => f m j) = sumTo n fun j => sumTo m (fun i => f i j) + f m j
    rw [sumTo_swap f m n]
    have e := sumTo_lin 1 1 n (fun j => sumTo m fun i => f i j) (fun j => f m j)
    have e2 : sumTo n (fun j => sumTo m (fun i => f i j) + f m j) = sumTo n (fun j => 1 * (fun j => sumTo m fun i => f i j) j + 1 * (fun j => f m j) j) := sumTo_congr fun j _ => by
      show _ = 1 * (sumTo m fun i => f i j) + 1 * f m j
      rw [Rat.one_mul, Rat.one_mul]
    rw [e2, e, Rat.one_mul, Rat.one_mul]
theorem sumTo_mul (c : Rat) (n : Nat) (f : Fr) : sumTo n (fun j => c * f j) = c * sumTo n f := by
  have := sumTo_lin c 0 n f f
  rw [sumTo_congr (g := fun j => c * f j + 0 * f j) fun j _ => by grind, this]
  grind
/-- the columns below w -/
def resF (w : Nat) (f : Fr) : Fr := fun j => if j < w then f j else 0
theorem res_app {w : Nat} {r : List Q2} {q : Q2} (h : r.length = w) : resF w (rowF (r ++ [q])) = rowF r := by
  funext j
  unfold resF
  by_cases c : j < w
  · rw [if_pos c, rowF_in (by omega)]
  · rw [if_neg c, rowF_out (by omega)]
theorem spn_res {w : Nat} {G G' : List Fr} (hg : ∀ g ∈ G, resF w g ∈ G') {f : Fr} (h : Spn G f) : Spn G' (resF w f) := by
  induction h with
  | mem h => exact .mem (hg _ h)
  | zero => exact .lin 0 0 .zero .zero fun j => by unfold resF; split <;> grind
  | lin a b _ _ e i1 i2 => exact .lin a b i1 i2 fun j => by unfold resF; split <;> grind
theorem dt_res {w : Nat} {f z : Fr} : dt w (resF w f) z = dt w f z := dt_congr fun j hj => by unfold resF; rw [if_pos hj]
theorem red_cut {w : Nat} {rs : List (List Q2)} {bs : List Q2} {L : List (Nat × Fr)} (hw : ∀ r ∈ rs, r.length = w) (hl : bs.length = rs.length) (h : Red (w + 1) ((aug rs bs).map rowF) L) (hn : ∀ x ∈ L, x.1 < w) : Red w (rs.map rowF) (L.map fun x => (x.1, resF w x.2)) := by
  have hg : ∀ g ∈ (aug rs bs).map rowF, resF w g ∈ rs.map rowF := fun g hg => by
    obtain ⟨a, ha, rfl⟩ := List.mem_map.mp hg
    obtain ⟨i, r, q, h1, h2, rfl⟩ := aug_mem ha
    have hr := List.mem_of_getElem? h1
    rw [res_app (hw r hr)]
    exact List.mem_map_of_mem hr
  refine ⟨fun z hz g hg' => ?_, fun y hy => ?_, ?_, fun y hy => ?_, fun y hy => ?_, fun y hy y2 hy2 ne => ?_, fun y hy j hj => ?_⟩
  · obtain ⟨r, hr, rfl⟩ := List.mem_map.mp hg'
    obtain ⟨i, hi, e⟩ := List.getElem_of_mem hr
    have e1 : rs[i]? = some r := by rw [List.getElem?_eq_getElem hi, e]
    obtain ⟨q, e2⟩ : ∃ q, bs[i]? = some q := ⟨_, List.getElem?_eq_getElem (by omega)⟩
    have hz2 : Ann (w + 1) (L.map (·.2)) (fun j => if j < w then z j else 0) := fun f hf => by
      obtain ⟨x, hx, rfl⟩ := List.mem_map.mp hf
      have h0 := hz (resF w x.2) (List.mem_map_of_mem (f := (·.2)) (List.mem_map_of_mem (f := fun x : Nat × Fr => (x.1, resF w x.2)) hx))
      rw [dt_res] at h0
      show sumTo w _ + x.2 w * (if w < w then z w else 0) = 0
      rw [if_neg (Nat.lt_irrefl w), sumTo_congr (g := fun j => x.2 j * z j) fun j hj => by show x.2 j * (if j < w then z j else 0) = _; rw [if_pos hj]]
      have h0 : sumTo w (fun j => x.2 j * z j) = 0 := h0
      rw [h0]
      grind
    have h1 := h.ann _ hz2 _ (List.mem_map_of_mem (f := rowF) (List.mem_of_getElem? (aug_at e1 e2)))
    have h1 : sumTo w (fun j => rowF (r ++ [q]) j * (if j < w then z j else 0)) + rowF (r ++ [q]) w * (if w < w then z w else 0) = 0 := h1
    rw [if_neg (Nat.lt_irrefl w), sumTo_congr (g := fun j => rowF r j * z j) fun j hj => by show rowF (r ++ [q]) j * (if j < w then z j else 0) = _; rw [if_pos hj, rowF_in (by rw [hw r hr]; exact hj)]] at h1
    show sumTo w (fun j => rowF r j * z j) = 0
    grind
  · obtain ⟨x, hx, rfl⟩ := List.mem_map.mp hy
    exact spn_res hg (h.spn x hx)
  · exact List.pairwise_map.mpr (h.inc.imp fun z => z)
  · obtain ⟨x, hx, rfl⟩ := List.mem_map.mp hy
    exact hn x hx
  · obtain ⟨x, hx, rfl⟩ := List.mem_map.mp hy
    show resF w x.2 x.1 = 1
    unfold resF
    rw [if_pos (hn x hx)]
    exact h.one x hx
  · obtain ⟨x, hx, rfl⟩ := List.mem_map.mp hy
    obtain ⟨x2, hx2, rfl⟩ := List.mem_map.mp hy2
    show resF w x.2 x2.1 = 0
    unfold resF
    rw [if_pos (hn x2 hx2)]
    exact h.off x hx x2 hx2 ne
  · obtain ⟨x, hx, rfl⟩ := List.mem_map.mp hy
    show resF w x.2 j = 0
    unfold resF
    split
    · exact h.led x hx j hj
    · rfl
/-- the solution is zero in the free columns -/
theorem sol_free {w b b' : Nat} {rs rs2 rs3 : List (List Q2)} {bs : List Q2} {pv pz : List Nat} (hw : ∀ r ∈ rs, r.length = w) (hl : bs.length = rs.length) (h : RedQ b (w + 1) (aug rs bs) rs2 pv) (hn : ∀ x ∈ pv.zip rs2, x.1 < w) (h3 : RedQ b' w rs rs3 pz) {j : Nat} (hj : j < w) (hp : j ∉ pz) :
    (solL w (pv.zip rs2) (List.replicate w q0)).getD j q0 = q0 := by
  have hc := red_cut hw hl h.red fun y hy => by
    obtain ⟨x, hx, rfl⟩ := zip_rowF' hy
    exact hn x hx
  have e := hc.piv_eq h3.red
  rw [List.map_map, List.map_fst_zip (by rw [List.length_map, h3.len]; exact Nat.le_refl _)] at e
  have e2 : (pv.zip (rs2.map rowF)).map ((·.1) ∘ fun x : Nat × Fr => (x.1, resF w x.2)) = (pv.zip (rs2.map rowF)).map (·.1) := List.map_congr_left fun x _ => rfl
  rw [e2, List.map_fst_zip (by rw [List.length_map, h.len]; exact Nat.le_refl _)] at e
  subst e
  rw [solL_off w _ _ fun x hx z => hp (by rw [← z]; exact (List.of_mem_zip hx).1), List.getD_eq_getElem?_getD, List.getElem?_replicate, if_pos hj]
  rfl
end Ind

set_option Elab.async false
set_option linter.all false
set_option maxRecDepth 100000
set_option maxHeartbeats 4000000
set_option exponentiation.threshold 9000
namespace Ind
open PySem PySem.Spec PyProof.Rows L2
open Builtin.Int (intBits)
abbrev sMSol : Stmt := inClass (top 17) 9
theorem walk_zipT {K : PySem.W.Frag} {a b : Addr} {xs ys : List V} {n : Nat} (hn : n = min xs.length ys.length) : Walk (RZ.ItzT K a b) n (fun H => SqT K H a xs ∧ SqT K H b ys) (YPair (fun i => xs[i]?) (fun i => ys[i]?)) := by
  subst hn
  constructor
  · intro i H hi q
    have hm := Nat.lt_min.mp hi
    exact ⟨xs, ys, _, _, q.1, q.2, List.getElem?_eq_getElem hm.1, List.getElem?_eq_getElem hm.2⟩
  · intro H q
    exact ⟨xs, ys, q.1, q.2, by omega⟩
  · rintro i H v H' _ q ⟨T, x, y, e1, e2, e3, e4, e5⟩
    exact ⟨T, x, y, e1, e2, e3, e4 xs q.1, e5 ys q.2⟩
def spMSol (C CM : Addr) : Sp := fun vs H Q _ => ∃ (p r : Addr) (rs : List (List Q2)) (bs : List Q2) (b m w : Nat) (y : Fr), vs = [.ref p, .ref r] ∧ MatAt C CM w H p rs ∧ Tp (RatQ C) H r bs ∧ bs.length = rs.length ∧ (∀ r ∈ rs, r.length = w) ∧ MatOk b m (w + 1) (aug rs bs) ∧ Solv w rs bs y ∧
  ∀ (H' : Hp) (t x : Addr) (xs : List Q2), Same H H' → H' t = some (.tup [.str "solution", .ref x]) → Tp (RatQ C) H' x xs → xs.length = w → (∀ q ∈ xs, Lo q ∧ Bq (grow (b + m) rs.length + 1) q) → Solv w rs bs (rowF xs) → (∀ (b' : Nat) (rs3 : List (List Q2)) (pz : List Nat), RedQ b' w rs rs3 pz → ∀ j, j < w → j ∉ pz → xs.getD j q0 = q0) → Q (.ref t) H'
/-- the facts of the methods that solve calls -/
structure TxSo (P : Program) (w : World) (K : PySem.W.Frag) (mg : Str → Option Value) (base : Heap) (C CM : Addr) (fB fR fZ : Addr) (fdB fdR fdZ : FuncData) : Prop where
  mB : Meth K CM "beside" fB
  bB : Binds K fdB ["self", "columns", "count"] []
  fnB : FnOk P w K mg base CX0 3 fB fdB ["self", "columns", "count"] (spMBe C CM)
  mR : Meth K CM "reduced" fR
  bR : Binds K fdR ["self"] []
  fnR : FnOk P w K mg base CX0 43 fR fdR ["self"] (spMRed C CM)
  gZ : mg "zero" = some (.ref fZ)
  kZ : PySem.W.keepIn K (.ref fZ) = true
  bZ : Binds K fdZ [] []
  fnZ : FnOk P w K mg base CX0 43 fZ fdZ [] (spMk C 0 1)
theorem inV_off {w : Nat} : ∀ {pv : List Nat}, (∀ k ∈ pv, k ≠ w) → inV (.int (w : Int)) (pv.map fun k : Nat => V.int (k : Int)) = false
  | [], _ => rfl
  | k :: pv, h => by
    have h1 := h k (by simp)
    have h2 := inV_off (w := w) (pv := pv) fun x hx => h x (List.mem_cons_of_mem _ hx)
    unfold inV at h2 ⊢
    rw [List.map_cons, List.any_cons, h2, Bool.or_false]
    show decide ((k : Int) = (w : Int)) = false
    exact decide_eq_false (by omega)
theorem all_flat : ∀ (pv : List Nat), (pv.map fun k : Nat => V.int (k : Int)).all flatV = true
  | [] => rfl
  | _ :: pv => by
    rw [List.map_cons, List.all_cons, all_flat pv]
    rfl
section
variable {P : Program} {w : World} {K : PySem.W.Frag} {mg : Str → Option Value} {base : Heap} {C Z CM : Addr}
abbrev nSol : List Str := ["self", "right", "matrix", "pivots", "columns", "found", "row", "pivot", "item", "_"]
end
end Ind

set_option Elab.async false
set_option linter.all false
set_option maxRecDepth 100000
set_option maxHeartbeats 4000000
namespace Ind
open PySem PySem.Spec PyProof.Rows L2
open Builtin.Int (intBits)
abbrev sRat : Stmt := top 29
abbrev sAdd : Stmt := top 30
abbrev sMul : Stmt := top 31
/-- sizes far below the most -/
def Bd (x : Int) : Prop := intBits x ≤ 30000000
theorem bd2 {x y : Int} (h1 : Bd x) (h2 : Bd y) : intBits x + intBits y ≤ 134217728 := by
  unfold Bd at h1 h2
  omega
def PairAt (H : Hp) (p : Addr) (a b : Int) : Prop := H p = some (.tup [.int a, .int b])
theorem PairAt.same {H H' : Hp} {p : Addr} {a b : Int} (x : PairAt H p a b) (s : Same H H') : PairAt H' p a b := s _ _ x
def spRatT : Sp := fun vs H Q _ => ∃ n d : Int, vs = [.int n, .int d] ∧ d ≠ 0 ∧ ∀ (H' : Hp) (t : Addr), Same H H' → PairAt H' t (nN n d) (nD n d) → Q (.ref t) H'
def spAddT : Sp := fun vs H Q _ => ∃ (p q : Addr) (a b c d : Int), vs = [.ref p, .ref q] ∧ PairAt H p a b ∧ PairAt H q c d ∧ b ≠ 0 ∧ d ≠ 0 ∧ Bd a ∧ Bd b ∧ Bd c ∧ Bd d ∧
  ∀ (H' : Hp) (t : Addr), Same H H' → PairAt H' t (nN (a * d + c * b) (b * d)) (nD (a * d + c * b) (b * d)) → Q (.ref t) H'
def spMulT : Sp := fun vs H Q _ => ∃ (p q : Addr) (a b c d : Int), vs = [.ref p, .ref q] ∧ PairAt H p a b ∧ PairAt H q c d ∧ b ≠ 0 ∧ d ≠ 0 ∧ Bd a ∧ Bd b ∧ Bd c ∧ Bd d ∧
  ∀ (H' : Hp) (t : Addr), Same H H' → PairAt H' t (nN (a * c) (b * d)) (nD (a * c) (b * d)) → Q (.ref t) H'
section
variable {P : Program} {w : World} {K : PySem.W.Frag} {mg : Str → Option Value} {base : Heap} {C Z : Addr}
theorem scRat : FnScope ["n", "d", "common"] ["n", "d"] (defScope sRat) := ⟨rfl, rfl, rfl, by decide +kernel, rfl, by decide +kernel, by decide +kernel⟩
theorem ok_rat {f fG : Addr} {fd fdG : FuncData} (hN : base.NoSeer) (hT : P.given.tree = none) (F : Fun K "_law_rat" "_law_rat" sRat f fd) (T : TxL K mg) (FG : Fun K "_law_gcd" "_law_gcd" sGcd fG fdG) (bG : Binds K fdG ["a", "b"] []) (gG : mg "_law_gcd" = some (.ref fG)) :
    FnOk P w K mg base CX0 41 f fd ["n", "d"] spRatT := by
  have GG : FnOk P w K mg base CX0 1 fG fdG ["a", "b"] spGcdI := ok_gcd FG T
  refine F.ok (k := 40) scRat (fun vs H Q E h => ?_) (fun cdv A outer s H vs Q E hr h => ?_)
  · obtain ⟨n, d, rfl, _⟩ := h
    rfl
  · obtain ⟨n, d, rfl, hd, k⟩ := h
    have far : Far (cxOf CX0 P w K mg base ["n", "d", "common"] "_law_rat" (defScope sRat) f cdv A outer s H E).nox := ⟨hN, hT, rfl, rfl, rfl, hr⟩
    refine ⟨_, pss_cons (ps_set (i := 2) scRat.nd rfl (Or.inl rfl) (pe_call GG (hr.mono (by decide)) (by rfl) gG FG.kp bG .nil pass0 (pa_cons (pv 0) (pa_cons (pv 1) pa_nil))))
      (C8.pss_cut (ps_if (pt_cmpR op_lt (pv 1) pe_int (nomark _)) (pss_one (ps_set (i := 2) scRat.nd rfl (Or.inl rfl) (pe_un un_neg (pv 2)))) pss_nil)
      (pss_one (ps_ret (pe_tup (pa_cons (pe_op (op_fdivB far) (pv 0) (pv 2)) (pa_cons (pe_op (op_fdivB far) (pv 1) (pv 2)) pa_nil)))))), ?_⟩
    refine ⟨_, rfl, _, rfl, n, d, rfl, ?_⟩
    refine ⟨fun σ' H' => H' = H ∧ σ' = [some (.int n), some (.int d), some (.int (cg n d))], ?_, ?_⟩
    · refine ⟨_, rfl, _, _, rfl, rfl, _, rfl, ite2 (fun c => ?_) (fun c => ?_)⟩
      · have hneg : d < 0 := of_decide_eq_true c
        refine ⟨_, rfl, _, rfl, rfl, ?_⟩
        unfold cg
        rw [if_pos hneg]
        rfl
      · have hneg : ¬ d < 0 := fun z => c (decide_eq_true z)
        refine ⟨rfl, ?_⟩
        unfold cg
        rw [if_neg hneg]
        rfl
    · rintro σ' H' ⟨rfl, rfl⟩
      exact ⟨_, rfl, _, rfl, _, _, rfl, rfl, cg_ne hd, _, rfl, _, rfl, _, _, rfl, rfl, cg_ne hd, (by show 2 ≤ sizeLine; decide), fun t ht => k _ t (same_upd ht) upd_same⟩
theorem scAdd : FnScope ["a", "b"] ["a", "b"] (defScope sAdd) := ⟨rfl, rfl, rfl, by decide +kernel, rfl, by decide +kernel, by decide +kernel⟩
theorem scMul : FnScope ["a", "b"] ["a", "b"] (defScope sMul) := ⟨rfl, rfl, rfl, by decide +kernel, rfl, by decide +kernel, by decide +kernel⟩
theorem ok_addT {f fR : Addr} {fd fdR : FuncData} (F : Fun K "_law_add" "_law_add" sAdd f fd) (GR : FnOk P w K mg base CX0 41 fR fdR ["n", "d"] spRatT) (kR : PySem.W.keepIn K (.ref fR) = true) (bR : Binds K fdR ["n", "d"] []) (gR : mg "_law_rat" = some (.ref fR)) :
    FnOk P w K mg base CX0 42 f fd ["a", "b"] spAddT := by
  refine F.ok scAdd (fun vs H Q E h => ?_) (fun cdv A outer s H vs Q E hr h => ?_)
  · obtain ⟨p, q, a, b, c, d, rfl, _⟩ := h
    rfl
  · obtain ⟨p, q, a, b, c, d, rfl, hp, hq, h1, h2, ba, bb, bc, bd, k⟩ := h
    refine ⟨_, pss_one (ps_ret (pe_call GR hr (by rfl) gR kR bR .nil pass0 (pa_cons (pe_op op_add (pe_op op_mulB (pe_ix ix_tup (pv 0) pe_int fun _ _ => rfl) (pe_ix ix_tup (pv 1) pe_int fun _ _ => rfl)) (pe_op op_mulB (pe_ix ix_tup (pv 1) pe_int fun _ _ => rfl) (pe_ix ix_tup (pv 0) pe_int fun _ _ => rfl)))
      (pa_cons (pe_op op_mulB (pe_ix ix_tup (pv 0) pe_int fun _ _ => rfl) (pe_ix ix_tup (pv 1) pe_int fun _ _ => rfl)) pa_nil)))), ?_⟩
    refine ⟨_, rfl, p, _, _, _, rfl, rfl, SqT.of hp, atI_of (k := 0) rfl, _, rfl, q, _, _, _, rfl, rfl, SqT.of hq, atI_of (k := 1) rfl, _, _, rfl, rfl, bd2 ba bd, _, rfl, q, _, _, _, rfl, rfl, SqT.of hq, atI_of (k := 0) rfl, _, rfl, p, _, _, _, rfl, rfl, SqT.of hp, atI_of (k := 1) rfl, _, _, rfl, rfl, bd2 bc bb, _, _, rfl, rfl, ?_⟩
    refine ⟨_, rfl, p, _, _, _, rfl, rfl, SqT.of hp, atI_of (k := 1) rfl, _, rfl, q, _, _, _, rfl, rfl, SqT.of hq, atI_of (k := 1) rfl, _, _, rfl, rfl, bd2 bb bd, ?_⟩
    exact ⟨_, _, rfl, Int.mul_ne_zero h1 h2, k⟩
theorem ok_mulT {f fR : Addr} {fd fdR : FuncData} (F : Fun K "_law_mul" "_law_mul" sMul f fd) (GR : FnOk P w K mg base CX0 41 fR fdR ["n", "d"] spRatT) (kR : PySem.W.keepIn K (.ref fR) = true) (bR : Binds K fdR ["n", "d"] []) (gR : mg "_law_rat" = some (.ref fR)) :
    FnOk P w K mg base CX0 42 f fd ["a", "b"] spMulT := by
  refine F.ok scMul (fun vs H Q E h => ?_) (fun cdv A outer s H vs Q E hr h => ?_)
  · obtain ⟨p, q, a, b, c, d, rfl, _⟩ := h
    rfl
  · obtain ⟨p, q, a, b, c, d, rfl, hp, hq, h1, h2, ba, bb, bc, bd, k⟩ := h
    refine ⟨_, pss_one (ps_ret (pe_call GR hr (by rfl) gR kR bR .nil pass0 (pa_cons (pe_op op_mulB (pe_ix ix_tup (pv 0) pe_int fun _ _ => rfl) (pe_ix ix_tup (pv 1) pe_int fun _ _ => rfl))
      (pa_cons (pe_op op_mulB (pe_ix ix_tup (pv 0) pe_int fun _ _ => rfl) (pe_ix ix_tup (pv 1) pe_int fun _ _ => rfl)) pa_nil)))), ?_⟩
    refine ⟨_, rfl, p, _, _, _, rfl, rfl, SqT.of hp, atI_of (k := 0) rfl, _, rfl, q, _, _, _, rfl, rfl, SqT.of hq, atI_of (k := 0) rfl, _, _, rfl, rfl, bd2 ba bc, ?_⟩
    refine ⟨_, rfl, p, _, _, _, rfl, rfl, SqT.of hp, atI_of (k := 1) rfl, _, rfl, q, _, _, _, rfl, rfl, SqT.of hq, atI_of (k := 1) rfl, _, _, rfl, rfl, bd2 bb bd, ?_⟩
    exact ⟨_, _, rfl, Int.mul_ne_zero h1 h2, k⟩
end
end Ind

set_option Elab.async false
set_option linter.all false
set_option maxRecDepth 100000
set_option maxHeartbeats 4000000
set_option exponentiation.threshold 9000
namespace Ind
open PySem PySem.Spec PyProof.Rows L2
open Builtin.Int (intBits)
abbrev sPairs : Stmt := top 34
abbrev sRts : Stmt := top 35
abbrev sSm : Stmt := top 36
/-! ### the law's sums and products over pairs -/
def Bg (q : Q2) : Prop := Bd q.1 ∧ Bd q.2
theorem Bq.bg {m : Nat} {q : Q2} (h : Bq m q) (l : m ≤ 30000000) : Bg q := ⟨Nat.le_trans h.1 l, Nat.le_trans h.2 l⟩
def spRatQ : Sp := fun vs H Q _ => ∃ n d : Int, vs = [.int n, .int d] ∧ d ≠ 0 ∧ ∀ (H' : Hp) (t : Addr), Same H H' → PairQ H' t (mkq n d) → Q (.ref t) H'
def spAddQ : Sp := fun vs H Q _ => ∃ (p r : Addr) (a b : Q2), vs = [.ref p, .ref r] ∧ PairQ H p a ∧ PairQ H r b ∧ a.2 ≠ 0 ∧ b.2 ≠ 0 ∧ Bg a ∧ Bg b ∧ ∀ (H' : Hp) (t : Addr), Same H H' → PairQ H' t (addq a b) → Q (.ref t) H'
def spMulQ : Sp := fun vs H Q _ => ∃ (p r : Addr) (a b : Q2), vs = [.ref p, .ref r] ∧ PairQ H p a ∧ PairQ H r b ∧ a.2 ≠ 0 ∧ b.2 ≠ 0 ∧ Bg a ∧ Bg b ∧ ∀ (H' : Hp) (t : Addr), Same H H' → PairQ H' t (mulq a b) → Q (.ref t) H'
/-- data of pairs -/
def pD (q : Q2) : PyData := .tuple [.int q.1, .int q.2]
theorem dp_pair {K : PySem.W.Frag} {H : Hp} {p : Addr} {q : Q2} (h : PairQ H p q) : Dp K H (.ref p) (pD q) := .tup (SqT.of h) (.cons (.int _) (.cons (.int _) .nil))
theorem dp_all {β : Type} {K : PySem.W.Frag} {H : Hp} {F : FH β} {D : β → PyData} (hF : ∀ p b, F H p b → Dp K H (.ref p) (D b)) : ∀ {ps : List Addr} {bs : List β}, Paired (F H) ps bs → DpAll K H (ps.map V.ref) (bs.map D)
  | _, _, .nil => .nil
  | _, _, .cons a t => .cons (hF _ _ a) (dp_all hF t)
theorem pDs_lay : ∀ qs : List Q2, PyData.canLayAll0 (qs.map pD) = true
  | [] => by simp [PyData.canLayAll0]
  | q :: qs => by simp [PyData.canLayAll0, pDs_lay qs, pD, PyData.canLay0]
theorem pDs_depth : ∀ qs : List Q2, PyData.depthAll (qs.map pD) ≤ 1
  | [] => by simp [PyData.depthAll]
  | q :: qs => by
    have := pDs_depth qs
    simp only [List.map_cons, PyData.depthAll, pD, PyData.depth]
    omega
theorem shape_of {d : PyData} (h1 : d.canLay0 = true) (h2 : d.depth ≤ 64) : SeqAt.shaped d = true := by
  show (d.canLay0 && decide (d.depth ≤ 64)) = true
  rw [Bool.and_eq_true]
  exact ⟨h1, decide_eq_true h2⟩
theorem shape_list (qs : List Q2) : SeqAt.shaped (.list (qs.map pD)) = true := by
  have := pDs_depth qs
  exact shape_of (by simp only [PyData.canLay0]; exact pDs_lay qs) (by simp only [PyData.depth]; omega)
theorem shape_tup (qs : List Q2) : SeqAt.shaped (.tuple (qs.map pD)) = true := by
  have := pDs_depth qs
  exact shape_of (by simp only [PyData.canLay0]; exact pDs_lay qs) (by simp only [PyData.depth]; omega)
theorem shape_pair (q : Q2) : SeqAt.shaped (pD q) = true := shape_of (by simp [pD, PyData.canLay0, PyData.canLayAll0]) (by simp [pD, PyData.depth, PyData.depthAll])
theorem eqv_shape {d : PyData} (h : SeqAt.shaped d = true) : PyData.eqv d d = true := SeqAt.eqv_refl d (SeqAt.canLay_of_shaped h)
theorem none_in : ∀ qs : List Q2, ((qs.map pD).any fun z => PyData.eqv z .none) = false
  | [] => rfl
  | q :: qs => by
    rw [List.map_cons, List.any_cons, none_in qs]
    rfl
def spPairs (C : Addr) : Sp := fun vs H Q _ => ∃ (p : Addr) (qs : List Q2) (n : Nat), vs = [.ref p, .int (n : Int)] ∧ Tp (RatQ C) H p qs ∧ qs.length = n ∧ (∀ q ∈ qs, Lo q) ∧ n ≤ 100 ∧ ∀ (H' : Hp) (t : Addr), Same H H' → Tp PairQ H' t qs → Q (.ref t) H'
/-- a list or a tuple of pairs -/
def PLT : FH (List Q2) := fun H p qs => Ls PairQ H p qs ∨ Tp PairQ H p qs
theorem PLT.same {H H' : Hp} {p : Addr} {qs : List Q2} (s : Same H H') (x : PLT H p qs) : PLT H' p qs := x.imp (Ls.same PairQ.stb s) (VecP.stb.same s)
theorem PI.or {X : Cx} {tg l : Expr} {w1 w2 : TI} (h1 : PI X tg l w1) (h2 : PI X tg l w2) : PI X tg l (fun σ H R => w1 σ H R ∨ w2 σ H R) := by
  constructor
  intro pins s σ H R I h
  rcases h with h | h
  · exact h1.run pins s σ H R I h
  · exact h2.run pins s σ H R I h
def spRts (C : Addr) : Sp := fun vs H Q _ => ∃ (p : Addr) (qs : List Q2), vs = [.ref p] ∧ PLT H p qs ∧ (∀ q ∈ qs, Lo q) ∧ qs.length ≤ 100 ∧ ∀ (H' : Hp) (t : Addr), Same H H' → Tp (RatQ C) H' t qs → Q (.ref t) H'
theorem mkq_lo {q : Q2} (h : Lo q) : mkq q.1 q.2 = q := lo_eq (lo_mk h.ne) h (by rw [rv_mk h.ne]; rfl)
/-- a small number -/
structure Sm (q : Q2) : Prop where
  lo : Lo q
  bq : Bq 4 q
  dv : q.2 ∣ 60
def smq (n d : Int) : Q2 := mkq (n.fmod 19 - 9) (d.fmod 5 + 1)
theorem small_dvd {e : Int} (h : 0 < e) (h2 : e ≤ 5) : e ∣ 60 := by
  rcases (show e = 1 ∨ e = 2 ∨ e = 3 ∨ e = 4 ∨ e = 5 by omega) with rfl | rfl | rfl | rfl | rfl <;> decide
theorem sm_mk (n d : Int) : Sm (smq n d) := by
  have h1 := fmod_in (x := n) (b := 19) (by decide)
  have h2 := fmod_in (x := d) (b := 5) (by decide)
  have hd : d.fmod 5 + 1 ≠ 0 := by omega
  refine ⟨lo_mk hd, bq_mk (PySem.intBits_le_iff.mpr (by omega)) (PySem.intBits_le_iff.mpr (by omega)), ?_⟩
  have h3 := nD_pos (n := n.fmod 19 - 9) hd
  have e := nD_mul (n := n.fmod 19 - 9) hd
  have h4 : nD (n.fmod 19 - 9) (d.fmod 5 + 1) ∣ d.fmod 5 + 1 := ⟨_, e⟩
  have h5 := Int.le_of_dvd (by omega) h4
  exact small_dvd h3 (by show nD _ _ ≤ 5; omega)
def spSm : Sp := fun vs H Q _ => ∃ n d : Int, vs = [.int n, .int d] ∧ ∀ (H' : Hp) (t : Addr), Same H H' → PairQ H' t (smq n d) → Q (.ref t) H'
section
variable {P : Program} {w : World} {K : PySem.W.Frag} {mg : Str → Option Value} {base : Heap} {C Z CM : Addr}
theorem ratQ {f : Addr} {fd : FuncData} (h : FnOk P w K mg base CX0 41 f fd ["n", "d"] spRatT) : FnOk P w K mg base CX0 41 f fd ["n", "d"] spRatQ :=
  h.imp fun vs H Q E ⟨n, d, e, hd, k⟩ => ⟨n, d, e, hd, fun H' t s z => k H' t s z⟩
theorem addQ {f : Addr} {fd : FuncData} (h : FnOk P w K mg base CX0 42 f fd ["a", "b"] spAddT) : FnOk P w K mg base CX0 42 f fd ["a", "b"] spAddQ :=
  h.imp fun vs H Q E ⟨p, r, a, b, e, h1, h2, h3, h4, h5, h6, k⟩ => ⟨p, r, a.1, a.2, b.1, b.2, e, h1, h2, h3, h4, h5.1, h5.2, h6.1, h6.2, fun H' t s z => k H' t s z⟩
theorem mulQ {f : Addr} {fd : FuncData} (h : FnOk P w K mg base CX0 42 f fd ["a", "b"] spMulT) : FnOk P w K mg base CX0 42 f fd ["a", "b"] spMulQ :=
  h.imp fun vs H Q E ⟨p, r, a, b, e, h1, h2, h3, h4, h5, h6, k⟩ => ⟨p, r, a.1, a.2, b.1, b.2, e, h1, h2, h3, h4, h5.1, h5.2, h6.1, h6.2, fun H' t s z => k H' t s z⟩
theorem scSm : FnScope ["n", "d"] ["n", "d"] (defScope sSm) := ⟨rfl, rfl, rfl, by decide +kernel, rfl, by decide +kernel, by decide +kernel⟩
theorem ok_small {f fR : Addr} {fd fdR : FuncData} (F : Fun K "_law_small" "_law_small" sSm f fd) (GR : FnOk P w K mg base CX0 41 fR fdR ["n", "d"] spRatQ) (kR : PySem.W.keepIn K (.ref fR) = true) (bR : Binds K fdR ["n", "d"] []) (gR : mg "_law_rat" = some (.ref fR)) :
    FnOk P w K mg base CX0 42 f fd ["n", "d"] spSm := by
  refine F.ok scSm (fun vs H Q E h => ?_) (fun cdv A outer s H vs Q E hr h => ?_)
  · obtain ⟨n, d, rfl, _⟩ := h
    rfl
  · obtain ⟨n, d, rfl, k⟩ := h
    refine ⟨_, pss_one (ps_ret (pe_call GR hr (by rfl) gR kR bR .nil pass0 (pa_cons (pe_op op_sub (pe_op op_modN (pv 0) pe_int) pe_int) (pa_cons (pe_op op_add (pe_op op_modN (pv 1) pe_int) pe_int) pa_nil)))), ?_⟩
    have h2 := fmod_in (x := d) (b := 5) (by decide)
    exact ⟨_, rfl, _, _, rfl, rfl, (by show (19 : Int) ≠ 0; decide), _, _, rfl, rfl, _, rfl, _, _, rfl, rfl, (by show (5 : Int) ≠ 0; decide), _, _, rfl, rfl, _, _, rfl, (by show d.fmod 5 + 1 ≠ 0; omega), k⟩
theorem scPairs : FnScope ["values", "size", "out", "value"] ["values", "size"] (defScope sPairs) := ⟨rfl, rfl, rfl, by decide +kernel, rfl, by decide +kernel, by decide +kernel⟩
theorem ok_pairs {f fP : Addr} {fd fdP : FuncData} (F : Fun K "_law_pairs" "_law_pairs" sPairs f fd) (T : TxL K mg) (TM : TxM K mg CM) (GP : FnOk P w K mg base CX0 2 fP fdP ["value"] (spPair C)) (kP : PySem.W.keepIn K (.ref fP) = true) (bP : Binds K fdP ["value"] []) (gP : mg "_law_pair" = some (.ref fP)) :
    FnOk P w K mg base CX0 3 f fd ["values", "size"] (spPairs C) := by
  refine F.ok scPairs (fun vs H Q E h => ?_) (fun cdv A outer s H vs Q E hr h => ?_)
  · obtain ⟨p, qs, n, rfl, _⟩ := h
    rfl
  · obtain ⟨p, qs, n, rfl, ⟨ps, hp, hP⟩, hn, hlo, hn1, k⟩ := h
    have hu65 : (A.deeper (envOfC "_law_pairs" (defScope sPairs) s.heap.objs.size f cdv)).units + 65 < cLine := by
      have := hr.in1.units
      have e : (A.deeper (envOfC "_law_pairs" (defScope sPairs) s.heap.objs.size f cdv)).in1.units = (A.deeper (envOfC "_law_pairs" (defScope sPairs) s.heap.objs.size f cdv)).units + 1 := rfl
      omega
    refine ⟨_, pss_cons (ps_if (PW.pt (pw_or (pt_not (pt_val (pe_callB call_isi (by rfl) T.isinstance (by decide +kernel) (pa_cons (pv 0) (pa_cons (pe_bltn (v := .ty "tuple") (by rfl) TM.tuple (by decide +kernel) rfl) pa_nil)))))
          (pw_or1 (pt_cmpR op_ne (pe_callB call_len_seq (by rfl) T.len PySem.boot_len (pa_cons (pv 0) pa_nil)) (pv 1) (nomark _))))) (pss_one (ps_ret pe_non)) pss_nil)
      (pss_cons (ps_setLc (i := 2) (own := [("value", 3)]) (g := gName 3) (tt := tYes) rfl scPairs.nd rfl rfl rfl (pi_tup (pv 0)) (blkOk_by (N := ["values", "size", "out", "value"]) (sc := defScope sPairs) (by decide +kernel))
          (fun _ _ _ _ _ => pg_name (i := 3) scPairs.nd rfl (Or.inl rfl)) (fun _ _ _ _ _ => pts_nil) (fun _ _ _ _ _ => pe_call GP hr (by rfl) gP kP bP .nil pass0 (pa_cons (pv 3) pa_nil)))
      (pss_one (ps_ret (pe_ifExp (pt_cmpR (op_inD hu65) pe_non (pv 2) (by rfl)) pe_non (pe_callTy call_tuple_of (by rfl) TM.tuple (by decide +kernel) (pa_cons (pv 2) pa_nil)))))), ?_⟩
    have hl := hP.length
    refine ⟨_, rfl, _, _, _, _, true, rfl, ClsV.ty "tuple", .base (.tup hp), kit_ty (by decide +kernel), true, rfl, ?_⟩
    refine iteF ⟨_, rfl, p, _, rfl, .inr (SqT.of hp), _, rfl, rfl, _, rfl, ?_⟩
    rw [List.length_map, hl, hn, show decide (V.int (n : Int) = V.int (n : Int)) = true from decide_eq_true rfl]
    refine iteF ?_
    refine ⟨_, rfl, p, rfl, ⟨_, SqT.of hp⟩, fun D hD => lc_tup (K := K) (a := p) (xs := ps.map V.ref) (fun i H2 => Col PairQ D H H2 (qs.take i)) (Col.start hD) (fun i H2 _ z => .of (z.s _ _ hp)) ?_ ?_⟩
    · rintro i x H2 hx z
      obtain ⟨a, ha, rfl⟩ := item_of hx
      obtain ⟨q, hqi, hqa⟩ := Paired.at hP ha
      have lo := hlo q (List.mem_of_getElem? hqi)
      refine ⟨rfl, _, rfl, a, q.1, q.2, rfl, (RatQ.stb C).same z.s hqa, lo.pos, lo.low, fun H3 t s3 _ ht => ?_⟩
      rw [take_snoc hqi]
      refine z.push (PairQ.stb.x D) hD s3 ht ?_
      rw [List.length_take]
      omega
    · rintro H2 z
      rw [List.length_map, hl, List.take_length] at z
      obtain ⟨pa, e1, e2⟩ := z.at_
      refine ⟨_, rfl, .none, qs.map pD, .non, .lst (SqL.of e1) (dp_all (F := PairQ) (fun p b h => dp_pair h) e2), (by rfl), shape_list qs, _, rfl, ?_⟩
      rw [none_in]
      refine iteF ⟨_, rfl, D, _, rfl, .inl ⟨SqL.of e1, fun t ht => k _ t (z.s.trans (same_upd ht)) ⟨pa, upd_same, Paired.imp (fun _ _ f => PairQ.stb.same (same_upd ht) f) e2⟩⟩⟩
theorem scRts : FnScope ["row", "q"] ["row"] (defScope sRts) := ⟨rfl, rfl, rfl, by decide +kernel, rfl, by decide +kernel, by decide +kernel⟩
theorem ok_rts {f fI : Addr} {fd fdI : FuncData} {ds : List Value} (F : Fun K "_law_ratios" "_law_ratios" sRts f fd) (R : TxR K mg C Z) (TM : TxM K mg CM) (M : MkR P w K mg base C Z fI fdI ds) : FnOk P w K mg base CX0 43 f fd ["row"] (spRts C) := by
  refine F.ok scRts (fun vs H Q E h => ?_) (fun cdv A outer s H vs Q E hr h => ?_)
  · obtain ⟨p, qs, rfl, _⟩ := h
    rfl
  · obtain ⟨p, qs, rfl, hPL, hlo, hn1, k⟩ := h
    refine ⟨_, pss_one (ps_ret (pe_callTy call_tuple_of (by rfl) TM.tuple (by decide +kernel) (pa_cons (pe_lc (own := [("q", 1)]) (g := gName 1) (tt := tYes) (te := tMake C (spInit C Z) [] E0 (tCons (tOp (rIxT K) (tVar 1) (tC (.int 0))) (tCons (tOp (rIxT K) (tVar 1) (tC (.int 1))) tNil))) rfl scRts.nd (PI.or (pi_list (pv 0)) (pi_tup (pv 0))) (blkOk_by (N := ["row", "q"]) (sc := defScope sRts) (by decide +kernel))
          (fun _ _ _ _ _ => pg_name (i := 1) scRts.nd rfl (Or.inl rfl)) (fun _ _ _ _ _ => pts_nil) (fun _ _ _ _ _ => pe_make M.cm M.fn hr (by rfl) R.mgC M.b2 .nil passL (pa_cons (pe_ix ix_tup (pv 1) pe_int fun _ _ => rfl) (pa_cons (pe_ix ix_tup (pv 1) pe_int fun _ _ => rfl) pa_nil)))) pa_nil))), ?_⟩
    rcases hPL with ⟨ps, hp, hP⟩ | ⟨ps, hp, hP⟩
    · refine .inl ⟨_, rfl, p, rfl, ⟨_, SqL.of hp⟩, fun D hD => lc_list (K := K) (a := p) (xs := ps.map V.ref) (fun i H2 => Col (RatQ C) D H H2 (qs.take i)) (Col.start hD) (fun i H2 _ z => z.s.seq (SqL.of hp)) ?_ ?_⟩
      · rintro i x H2 hx z
        obtain ⟨a, ha, rfl⟩ := item_of hx
        obtain ⟨q, hqi, hqa⟩ := Paired.at hP ha
        have lo := hlo q (List.mem_of_getElem? hqi)
        have hq2 := z.s _ _ hqa
        refine ⟨rfl, _, rfl, a, _, _, _, rfl, rfl, SqT.of hq2, atI_of (k := 0) rfl, _, rfl, a, _, _, _, rfl, rfl, SqT.of hq2, atI_of (k := 1) rfl, ?_⟩
        intro u du nu ndu neu
        refine ⟨u, du, q.1, q.2, rfl, upd_same, fun z => absurd z lo.ne, fun _ H6 hu kk => ⟨rfl, ?_⟩⟩
        rw [take_snoc hqi]
        refine z.push ((RatQ.stb C).x D) hD (Same.made nu ndu kk) ?_ ?_
        · have e := mkq_lo lo
          have hu : RatQ C H6 u (mkq q.1 q.2) := hu
          rw [e] at hu
          exact hu
        · rw [List.length_take]
          omega
      · rintro H2 z
        rw [List.length_map, hP.length, List.take_length] at z
        obtain ⟨pa, e1, e2⟩ := z.at_
        exact ⟨D, _, rfl, .inl ⟨SqL.of e1, fun t ht => k _ t (z.s.trans (same_upd ht)) ⟨pa, upd_same, Paired.imp (fun _ _ f => (RatQ.stb C).same (same_upd ht) f) e2⟩⟩⟩
    · refine .inr ⟨_, rfl, p, rfl, ⟨_, SqT.of hp⟩, fun D hD => lc_tup (K := K) (a := p) (xs := ps.map V.ref) (fun i H2 => Col (RatQ C) D H H2 (qs.take i)) (Col.start hD) (fun i H2 _ z => .of (z.s _ _ hp)) ?_ ?_⟩
      · rintro i x H2 hx z
        obtain ⟨a, ha, rfl⟩ := item_of hx
        obtain ⟨q, hqi, hqa⟩ := Paired.at hP ha
        have lo := hlo q (List.mem_of_getElem? hqi)
        have hq2 := z.s _ _ hqa
        refine ⟨rfl, _, rfl, a, _, _, _, rfl, rfl, SqT.of hq2, atI_of (k := 0) rfl, _, rfl, a, _, _, _, rfl, rfl, SqT.of hq2, atI_of (k := 1) rfl, ?_⟩
        intro u du nu ndu neu
        refine ⟨u, du, q.1, q.2, rfl, upd_same, fun z => absurd z lo.ne, fun _ H6 hu kk => ⟨rfl, ?_⟩⟩
        rw [take_snoc hqi]
        refine z.push ((RatQ.stb C).x D) hD (Same.made nu ndu kk) ?_ ?_
        · have e := mkq_lo lo
          have hu : RatQ C H6 u (mkq q.1 q.2) := hu
          rw [e] at hu
          exact hu
        · rw [List.length_take]
          omega
      · rintro H2 z
        rw [List.length_map, hP.length, List.take_length] at z
        obtain ⟨pa, e1, e2⟩ := z.at_
        exact ⟨D, _, rfl, .inl ⟨SqL.of e1, fun t ht => k _ t (z.s.trans (same_upd ht)) ⟨pa, upd_same, Paired.imp (fun _ _ f => (RatQ.stb C).same (same_upd ht) f) e2⟩⟩⟩
end
end Ind

set_option Elab.async false
set_option linter.all false
set_option maxRecDepth 100000
set_option maxHeartbeats 4000000
set_option exponentiation.threshold 9000
namespace Ind
open PySem PySem.Spec PyProof.Rows L2
open Builtin.Int (intBits)
abbrev sLDot : Stmt := top 38
abbrev sLCo : Stmt := top 39
abbrev sLPv : Stmt := top 99
abbrev sLLe : Stmt := top 99
abbrev sToM : Stmt := top 40
abbrev MatP : FH (List (List Q2)) := Tp (Tp PairQ)
theorem MatP.stb : Stb MatP := Tp.stb VecP.stb
def LoB (b : Nat) (qs : List Q2) : Prop := ∀ q ∈ qs, Lo q ∧ Bq b q
theorem tp_at {β : Type} {F : FH β} {H : Hp} {t : Addr} {bs : List β} {i : Nat} {b : β} (h : Tp F H t bs) (hb : bs[i]? = some b) : ∃ (ps : List Addr) (p : Addr), H t = some (.tup (ps.map V.ref)) ∧ (ps.map V.ref)[i]? = some (V.ref p) ∧ F H p b := by
  obtain ⟨ps, e, q⟩ := h
  obtain ⟨p, hp, f⟩ := Paired.at2 q hb
  exact ⟨ps, p, e, ref_at hp, f⟩
theorem sumTo_succ (n : Nat) (f : Fr) : sumTo (n + 1) f = sumTo n f + f n := rfl
/-- sizes turn by turn -/
theorem bq_q0 : Bq 1 q0 := ⟨by decide, by decide⟩
def spLDot : Sp := fun vs H Q _ => ∃ (p r : Addr) (as bs : List Q2) (b : Nat), vs = [.ref p, .ref r] ∧ Tp PairQ H p as ∧ Tp PairQ H r bs ∧ bs.length = as.length ∧ as.length ≤ 100 ∧ LoB b as ∧ LoB b bs ∧ b ≤ 100000 ∧
  ∀ (H' : Hp) (t : Addr) (q : Q2), Same H H' → PairQ H' t q → Lo q → Bq (1 + as.length * (2 * b + 1)) q → rv q = dt as.length (rowF as) (rowF bs) → Q (.ref t) H'
theorem ls_at {β : Type} {F : FH β} {H : Hp} {t : Addr} {bs : List β} {i : Nat} {b : β} (h : Ls F H t bs) (hb : bs[i]? = some b) : ∃ (ps : List Addr) (p : Addr), H t = some (.lst (ps.map V.ref)) ∧ (ps.map V.ref)[i]? = some (V.ref p) ∧ F H p b := by
  obtain ⟨ps, e, q⟩ := h
  obtain ⟨p, hp, f⟩ := Paired.at2 q hb
  exact ⟨ps, p, e, ref_at hp, f⟩
def spLDotL : Sp := fun vs H Q _ => ∃ (p r : Addr) (as bs : List Q2) (b : Nat), vs = [.ref p, .ref r] ∧ Tp PairQ H p as ∧ Ls PairQ H r bs ∧ bs.length = as.length ∧ as.length ≤ 100 ∧ LoB b as ∧ LoB b bs ∧ b ≤ 100000 ∧
  ∀ (H' : Hp) (t : Addr) (q : Q2), Same H H' → PairQ H' t q → Lo q → Bq (1 + as.length * (2 * b + 1)) q → rv q = dt as.length (rowF as) (rowF bs) → Q (.ref t) H'
def spLCo : Sp := fun vs H Q _ => ∃ (p y : Addr) (rs : List (List Q2)) (ys : List Q2) (w b : Nat), vs = [.ref p, .int (w : Int), .ref y] ∧ MatP H p rs ∧ Tp PairQ H y ys ∧ ys.length = rs.length ∧ rs.length ≤ 100 ∧ w ≤ 100 ∧ (∀ r ∈ rs, r.length = w ∧ LoB b r) ∧ LoB b ys ∧ b ≤ 100000 ∧
  ∀ (H' : Hp) (t : Addr) (qs : List Q2), Same H H' → Tp PairQ H' t qs → qs.length = w → (∀ q ∈ qs, Lo q) → (∀ j, j < w → rowF qs j = sumTo rs.length fun k => rowF ys k * rowF (rs.getD k []) j) → Q (.ref t) H'
def spLCoL : Sp := fun vs H Q _ => ∃ (p y : Addr) (rs : List (List Q2)) (ys : List Q2) (w b : Nat), vs = [.ref p, .int (w : Int), .ref y] ∧ Ls (Tp PairQ) H p rs ∧ Ls PairQ H y ys ∧ ys.length = rs.length ∧ rs.length ≤ 100 ∧ w ≤ 100 ∧ (∀ r ∈ rs, r.length = w ∧ LoB b r) ∧ LoB b ys ∧ b ≤ 100000 ∧
  ∀ (H' : Hp) (t : Addr) (qs : List Q2), Same H H' → Tp PairQ H' t qs → qs.length = w → (∀ q ∈ qs, Lo q) → (∀ j, j < w → rowF qs j = sumTo rs.length fun k => rowF ys k * rowF (rs.getD k []) j) → Q (.ref t) H'
def spLCoM : Sp := fun vs H Q _ => ∃ (p y : Addr) (rs : List (List Q2)) (ys : List Q2) (w b : Nat), vs = [.ref p, .int (w : Int), .ref y] ∧ MatP H p rs ∧ Ls PairQ H y ys ∧ ys.length = rs.length ∧ rs.length ≤ 100 ∧ w ≤ 100 ∧ (∀ r ∈ rs, r.length = w ∧ LoB b r) ∧ LoB b ys ∧ b ≤ 100000 ∧
  ∀ (H' : Hp) (t : Addr) (qs : List Q2), Same H H' → Tp PairQ H' t qs → qs.length = w → (∀ q ∈ qs, Lo q) → (∀ j, j < w → rowF qs j = sumTo rs.length fun k => rowF ys k * rowF (rs.getD k []) j) → Q (.ref t) H'
def spLPv : Sp := fun vs H Q _ => ∃ (p : Addr) (qs : List Q2) (k : Nat), vs = [.ref p] ∧ Tp PairQ H p qs ∧ k < qs.length ∧ (qs.getD k q0).1 ≠ 0 ∧ (∀ j, j < k → (qs.getD j q0).1 = 0) ∧ Q (.int (k : Int)) H
def spToM (C CM : Addr) : Sp := fun vs H Q _ => ∃ (p : Addr) (rs : List (List Q2)) (w : Int), vs = [.ref p, .int w] ∧ Tp PLT H p rs ∧ (∀ r ∈ rs, (∀ q ∈ r, Lo q) ∧ r.length ≤ 100) ∧ rs.length ≤ 100 ∧ ∀ (H' : Hp) (m : Addr), Same H H' → MatAt C CM w H' m rs → Q (.ref m) H'
section
variable {P : Program} {w : World} {K : PySem.W.Frag} {mg : Str → Option Value} {base : Heap} {C Z CM : Addr}
/-- the facts of the law's sums and products -/
structure TxAM (P : Program) (w : World) (K : PySem.W.Frag) (mg : Str → Option Value) (base : Heap) (fA fM : Addr) (fdA fdM : FuncData) : Prop where
  gA : mg "_law_add" = some (.ref fA)
  kA : PySem.W.keepIn K (.ref fA) = true
  bA : Binds K fdA ["a", "b"] []
  fnA : FnOk P w K mg base CX0 42 fA fdA ["a", "b"] spAddQ
  gM : mg "_law_mul" = some (.ref fM)
  kM : PySem.W.keepIn K (.ref fM) = true
  bM : Binds K fdM ["a", "b"] []
  fnM : FnOk P w K mg base CX0 42 fM fdM ["a", "b"] spMulQ
theorem scLDot : FnScope ["a", "b", "total", "k"] ["a", "b"] (defScope sLDot) := ⟨rfl, rfl, rfl, by decide +kernel, rfl, by decide +kernel, by decide +kernel⟩
theorem ok_ldot {f fA fM : Addr} {fd fdA fdM : FuncData} (F : Fun K "_law_dot" "_law_dot" sLDot f fd) (T : TxL K mg) (TA : TxAM P w K mg base fA fM fdA fdM) : FnOk P w K mg base CX0 43 f fd ["a", "b"] spLDot := by
  refine F.ok scLDot (fun vs H Q E h => ?_) (fun cdv A outer s H vs Q E hr h => ?_)
  · obtain ⟨p, r, as, bs, b, rfl, _⟩ := h
    rfl
  · obtain ⟨p, r, as, bs, b, rfl, hA, hB, hl, hl1, lA, lB, hb, k⟩ := h
    refine ⟨_, pss_cons (ps_set (i := 2) scLDot.nd rfl (Or.inl rfl) (pe_tup (pa_cons pe_int (pa_cons pe_int pa_nil))))
      (pss_cons (ps_for PassesOwn.never rfl (pi_range1 (by rfl) T.range (pa_cons (pe_callB call_len_seq (by rfl) T.len PySem.boot_len (pa_cons (pv 0) pa_nil)) pa_nil)) (pg_name (i := 3) scLDot.nd rfl (Or.inl rfl))
        (pss_one (ps_set (i := 2) scLDot.nd rfl (Or.inl rfl) (pe_call TA.fnA hr (by rfl) TA.gA TA.kA TA.bA .nil pass0 (pa_cons (pv 2) (pa_cons (pe_call TA.fnM hr (by rfl) TA.gM TA.kM TA.bM .nil pass0 (pa_cons (pe_ix ix_tup (pv 0) (pv 3) fun _ _ => rfl) (pa_cons (pe_ix ix_tup (pv 1) (pv 3) fun _ _ => rfl) pa_nil))) pa_nil))))))
      (pss_one (ps_ret (pv 2)))), ?_⟩
    obtain ⟨pa, ea, qa⟩ := id hA
    have la := qa.length
    refine ⟨(by show 2 ≤ sizeLine; decide), fun t0 ht0 => ?_⟩
    refine ⟨_, rfl, p, _, rfl, .inr (SqT.of (same_upd ht0 _ _ ea)), (((pa.map V.ref).length : Nat) : Int), rfl, by omega, by rw [List.length_map]; omega, ?_⟩
    rw [List.length_map, la]
    refine for_range (lo := 0) (n := as.length) (fun i σ H' => Same H H' ∧ ∃ (t : Addr) (q : Q2) (v : Option V), σ = [some (.ref p), some (.ref r), some (.ref t), v] ∧ PairQ H' t q ∧ Lo q ∧ Bq (1 + i * (2 * b + 1)) q ∧ rv q = sumTo i fun j => rowF as j * rowF bs j)
      ⟨same_upd ht0, t0, q0, none, rfl, upd_same, lo_q0, by rw [Nat.zero_mul]; exact bq_q0, rv_q0⟩ ?_ ?_
    · rintro i σ H' hi ⟨s1, t, q, v, rfl, ht, lo, bq, hv⟩
      rw [Int.zero_add]
      obtain ⟨x, hx⟩ : ∃ x, as[i]? = some x := ⟨_, List.getElem?_eq_getElem hi⟩
      obtain ⟨y, hy⟩ : ∃ y, bs[i]? = some y := ⟨_, List.getElem?_eq_getElem (by omega)⟩
      obtain ⟨p1, u, e1, g1, f1⟩ := tp_at (VecP.stb.same s1 hA) hx
      obtain ⟨p2, z, e2, g2, f2⟩ := tp_at (VecP.stb.same s1 hB) hy
      have lx := lA x (List.mem_of_getElem? hx)
      have ly := lB y (List.mem_of_getElem? hy)
      have hi2 : i * (2 * b + 1) ≤ 100 * (2 * b + 1) := Nat.mul_le_mul_right _ (by omega)
      refine ⟨_, rfl, _, rfl, _, rfl, p, _, _, _, rfl, rfl, SqT.of e1, atI_of g1, _, rfl, _, rfl, r, _, _, _, rfl, rfl, SqT.of e2, atI_of g2, ?_⟩
      refine ⟨u, z, x, y, rfl, f1, f2, lx.1.ne, ly.1.ne, lx.2.bg (by omega), ly.2.bg (by omega), fun H2 t2 s2 ht2 => ?_⟩
      have bm := bq_mul lx.2 ly.2
      have lm := lo_mul lx.1.ne ly.1.ne
      refine ⟨t, t2, q, mulq x y, rfl, PairQ.stb.same s2 ht, ht2, lo.ne, lm.ne, bq.bg (by omega), bm.bg (by omega), fun H3 t3 s3 ht3 => ?_⟩
      refine ⟨s1.trans (s2.trans s3), t3, _, _, rfl, ht3, lo_add lo.ne lm.ne, (bq_add bq bm).mono ?_, ?_⟩
      · rw [Nat.add_mul, Nat.one_mul]
        omega
      · rw [rv_add lo.ne lm.ne, rv_mul lx.1.ne ly.1.ne, hv, sumTo_succ]
        unfold rowF
        rw [getD_q hx, getD_q hy]
    · rintro σ H' ⟨s1, t, q, v, rfl, ht, lo, bq, hv⟩
      exact ⟨_, rfl, k H' t q s1 ht lo bq hv⟩
theorem ok_ldotL {f fA fM : Addr} {fd fdA fdM : FuncData} (F : Fun K "_law_dot" "_law_dot" sLDot f fd) (T : TxL K mg) (TA : TxAM P w K mg base fA fM fdA fdM) : FnOk P w K mg base CX0 43 f fd ["a", "b"] spLDotL := by
  refine F.ok scLDot (fun vs H Q E h => ?_) (fun cdv A outer s H vs Q E hr h => ?_)
  · obtain ⟨p, r, as, bs, b, rfl, _⟩ := h
    rfl
  · obtain ⟨p, r, as, bs, b, rfl, hA, hB, hl, hl1, lA, lB, hb, k⟩ := h
    refine ⟨_, pss_cons (ps_set (i := 2) scLDot.nd rfl (Or.inl rfl) (pe_tup (pa_cons pe_int (pa_cons pe_int pa_nil))))
      (pss_cons (ps_for PassesOwn.never rfl (pi_range1 (by rfl) T.range (pa_cons (pe_callB call_len_seq (by rfl) T.len PySem.boot_len (pa_cons (pv 0) pa_nil)) pa_nil)) (pg_name (i := 3) scLDot.nd rfl (Or.inl rfl))
        (pss_one (ps_set (i := 2) scLDot.nd rfl (Or.inl rfl) (pe_call TA.fnA hr (by rfl) TA.gA TA.kA TA.bA .nil pass0 (pa_cons (pv 2) (pa_cons (pe_call TA.fnM hr (by rfl) TA.gM TA.kM TA.bM .nil pass0 (pa_cons (pe_ix ix_tup (pv 0) (pv 3) fun _ _ => rfl) (pa_cons (pe_ix ix_list (pv 1) (pv 3) fun _ _ => rfl) pa_nil))) pa_nil))))))
      (pss_one (ps_ret (pv 2)))), ?_⟩
    obtain ⟨pa, ea, qa⟩ := id hA
    have la := qa.length
    refine ⟨(by show 2 ≤ sizeLine; decide), fun t0 ht0 => ?_⟩
    refine ⟨_, rfl, p, _, rfl, .inr (SqT.of (same_upd ht0 _ _ ea)), (((pa.map V.ref).length : Nat) : Int), rfl, by omega, by rw [List.length_map]; omega, ?_⟩
    rw [List.length_map, la]
    refine for_range (lo := 0) (n := as.length) (fun i σ H' => Same H H' ∧ ∃ (t : Addr) (q : Q2) (v : Option V), σ = [some (.ref p), some (.ref r), some (.ref t), v] ∧ PairQ H' t q ∧ Lo q ∧ Bq (1 + i * (2 * b + 1)) q ∧ rv q = sumTo i fun j => rowF as j * rowF bs j)
      ⟨same_upd ht0, t0, q0, none, rfl, upd_same, lo_q0, by rw [Nat.zero_mul]; exact bq_q0, rv_q0⟩ ?_ ?_
    · rintro i σ H' hi ⟨s1, t, q, v, rfl, ht, lo, bq, hv⟩
      rw [Int.zero_add]
      obtain ⟨x, hx⟩ : ∃ x, as[i]? = some x := ⟨_, List.getElem?_eq_getElem hi⟩
      obtain ⟨y, hy⟩ : ∃ y, bs[i]? = some y := ⟨_, List.getElem?_eq_getElem (by omega)⟩
      obtain ⟨p1, u, e1, g1, f1⟩ := tp_at (VecP.stb.same s1 hA) hx
      obtain ⟨p2, z, e2, g2, f2⟩ := ls_at (Ls.same PairQ.stb s1 hB) hy
      have lx := lA x (List.mem_of_getElem? hx)
      have ly := lB y (List.mem_of_getElem? hy)
      have hi2 : i * (2 * b + 1) ≤ 100 * (2 * b + 1) := Nat.mul_le_mul_right _ (by omega)
      refine ⟨_, rfl, _, rfl, _, rfl, p, _, _, _, rfl, rfl, SqT.of e1, atI_of g1, _, rfl, _, rfl, r, _, _, _, rfl, rfl, SqL.of e2, atI_of g2, ?_⟩
      refine ⟨u, z, x, y, rfl, f1, f2, lx.1.ne, ly.1.ne, lx.2.bg (by omega), ly.2.bg (by omega), fun H2 t2 s2 ht2 => ?_⟩
      have bm := bq_mul lx.2 ly.2
      have lm := lo_mul lx.1.ne ly.1.ne
      refine ⟨t, t2, q, mulq x y, rfl, PairQ.stb.same s2 ht, ht2, lo.ne, lm.ne, bq.bg (by omega), bm.bg (by omega), fun H3 t3 s3 ht3 => ?_⟩
      refine ⟨s1.trans (s2.trans s3), t3, _, _, rfl, ht3, lo_add lo.ne lm.ne, (bq_add bq bm).mono ?_, ?_⟩
      · rw [Nat.add_mul, Nat.one_mul]
        omega
      · rw [rv_add lo.ne lm.ne, rv_mul lx.1.ne ly.1.ne, hv, sumTo_succ]
        unfold rowF
        rw [getD_q hx, getD_q hy]
    · rintro σ H' ⟨s1, t, q, v, rfl, ht, lo, bq, hv⟩
      exact ⟨_, rfl, k H' t q s1 ht lo bq hv⟩
theorem scToM : FnScope ["rows", "width", "row"] ["rows", "width"] (defScope sToM) := ⟨rfl, rfl, rfl, by decide +kernel, rfl, by decide +kernel, by decide +kernel⟩
theorem ok_tom {f fR fI : Addr} {fd fdR fdI : FuncData} (F : Fun K "_law_to_matrix" "_law_to_matrix" sToM f fd) (TM : TxM K mg CM) (MM : MkM P w K mg base C CM fI fdI) (GR : FnOk P w K mg base CX0 43 fR fdR ["row"] (spRts C)) (kR : PySem.W.keepIn K (.ref fR) = true) (bR : Binds K fdR ["row"] []) (gR : mg "_law_ratios" = some (.ref fR)) :
    FnOk P w K mg base CX0 44 f fd ["rows", "width"] (spToM C CM) := by
  refine F.ok scToM (fun vs H Q E h => ?_) (fun cdv A outer s H vs Q E hr h => ?_)
  · obtain ⟨p, rs, w, rfl, _⟩ := h
    rfl
  · obtain ⟨p, rs, w, rfl, ⟨ps, hp, hP⟩, hrs, hl, k⟩ := h
    refine ⟨_, pss_one (ps_ret (pe_make MM.cm MM.fn (hr.mono (show 2 ≤ 43 by decide)) (by rfl) TM.mgM MM.b3 .nil pass0 (pa_cons (pe_lc (own := [("row", 2)]) (g := gName 2) (tt := tYes) rfl scToM.nd (pi_tup (pv 0)) (blkOk_by (N := ["rows", "width", "row"]) (sc := defScope sToM) (by decide +kernel))
          (fun _ _ _ _ _ => pg_name (i := 2) scToM.nd rfl (Or.inl rfl)) (fun _ _ _ _ _ => pts_nil) (fun _ _ _ _ _ => pe_call GR hr (by rfl) gR kR bR .nil pass0 (pa_cons (pv 2) pa_nil))) (pa_cons (pv 1) pa_nil)))), ?_⟩
    refine ⟨_, rfl, p, rfl, ⟨_, SqT.of hp⟩, fun D hD => lc_tup (K := K) (a := p) (xs := ps.map V.ref) (fun i H2 => Col (Tp (RatQ C)) D H H2 (rs.take i)) (Col.start hD) (fun i H2 _ z => .of (z.s _ _ hp)) ?_ ?_⟩
    · rintro i x H2 hx z
      obtain ⟨a, ha, rfl⟩ := item_of hx
      obtain ⟨r, hri, hra⟩ := Paired.at hP ha
      have o := hrs r (List.mem_of_getElem? hri)
      refine ⟨rfl, _, rfl, a, r, rfl, hra.same z.s, o.1, o.2, fun H3 t s3 ht => ?_⟩
      rw [take_snoc hri]
      refine z.push ((VecR.stb C).x D) hD s3 ht ?_
      rw [List.length_take]
      omega
    · rintro H2 z
      rw [List.length_map, hP.length, List.take_length] at z
      obtain ⟨la, e1, e2⟩ := z.at_
      refine ⟨_, rfl, ?_⟩
      intro x dx4 nx ndx nex
      exact ⟨x, dx4, D, rs, w, rfl, upd_same, rowsLT_made ⟨la, e1, Paired.imp (fun _ _ f => .inr f) e2⟩ nx ndx nex, hl, fun H4 hx kk => ⟨rfl, k H4 x (z.s.trans (Same.made nx ndx kk)) hx⟩⟩
end
end Ind

set_option Elab.async false
set_option linter.all false
set_option maxRecDepth 100000
set_option maxHeartbeats 4000000
set_option exponentiation.threshold 9000
namespace Ind
open PySem PySem.Spec PyProof.Rows L2
open Builtin.Int (intBits)
theorem rowF_map {n : Nat} {g : Nat → Q2} {j : Nat} (h : j < n) : rowF ((List.range n).map g) j = rv (g j) := by
  unfold rowF
  rw [List.getD_eq_getElem?_getD, List.getElem?_map, List.getElem?_range h]
  rfl
/-- one row taken off -/
def offF (x : Nat × Fr) (g : Fr) : Fr := fun j => g j - g x.1 * x.2 j
def redF (L : List (Nat × Fr)) (g : Fr) : Fr := L.foldl (fun g x => offF x g) g
theorem redF_snoc (L : List (Nat × Fr)) (x : Nat × Fr) (g : Fr) : redF (L ++ [x]) g = offF x (redF L g) := by
  unfold redF
  rw [List.foldl_append]
  rfl
theorem redF_comb : ∀ {L : List (Nat × Fr)} {g : Fr}, (L.Pairwise fun x y => x.1 < y.1) → (∀ x ∈ L, ∀ y ∈ L, x.1 ≠ y.1 → x.2 y.1 = 0) → ∀ j, redF L g j = g j - comb L g j
  | [], g, _, _ => fun j => by
    show g j = g j - 0
    grind
  | x :: L, g, inc, off => fun j => by
    obtain ⟨ia, il⟩ := List.pairwise_cons.mp inc
    have h := redF_comb (g := offF x g) il (fun y hy z hz => off y (List.mem_cons_of_mem _ hy) z (List.mem_cons_of_mem _ hz)) j
    have e : comb L (offF x g) j = comb L g j := by
      have : ∀ {M : List (Nat × Fr)}, (∀ y ∈ M, y ∈ L) → comb M (offF x g) j = comb M g j := by
        intro M
        induction M with
        | nil => intro _; rfl
        | cons a M ih =>
          intro hm
          have ha := hm a (by simp)
          have h0 := off x (by simp) a (List.mem_cons_of_mem _ ha) (Nat.ne_of_lt (ia a ha))
          show offF x g a.1 * a.2 j + comb M (offF x g) j = g a.1 * a.2 j + comb M g j
          rw [ih fun y hy => hm y (List.mem_cons_of_mem _ hy)]
          unfold offF
          rw [h0]
          grind
      exact this fun y hy => hy
    show redF L (offF x g) j = g j - (g x.1 * x.2 j + comb L g j)
    rw [h, e]
    unfold offF
    grind
/-- sizes -/
def lftB (b : Nat) : Nat → Nat
  | 0 => b
  | i + 1 => 2 * lftB b i + b + 1
theorem lftB_le (b : Nat) : ∀ i, lftB b i + b + 1 ≤ (2 * b + 1) * 2 ^ i
  | 0 => by
    show b + b + 1 ≤ (2 * b + 1) * 1
    omega
  | i + 1 => by
    have := lftB_le b i
    have e : (2 * b + 1) * 2 ^ (i + 1) = 2 * ((2 * b + 1) * 2 ^ i) := by
      rw [Nat.pow_succ]
      ac_rfl
    show 2 * lftB b i + b + 1 + b + 1 ≤ _
    omega
theorem lft_small {b i : Nat} (hb : b ≤ 1000) (hi : i ≤ 10) : lftB b i ≤ 3000000 := by
  have h1 := lftB_le b i
  have h2 : (2 * b + 1) * 2 ^ i ≤ 2001 * 2 ^ 10 := Nat.mul_le_mul (by omega) (Nat.pow_le_pow_right (by decide) hi)
  have h3 : 2001 * 2 ^ 10 ≤ 3000000 := by decide
  omega
def spLLe : Sp := fun vs H Q _ => ∃ (p v : Addr) (rs : List (List Q2)) (pv : List Nat) (vq : List Q2) (w b : Nat), vs = [.ref p, .ref v] ∧ Ls (Tp PairQ) H p rs ∧ Tp PairQ H v vq ∧ pv.length = rs.length ∧ rs.length ≤ 10 ∧ vq.length = w ∧ w ≤ 100 ∧ LoB b vq ∧ b ≤ 1000 ∧ (∀ r ∈ rs, r.length = w ∧ LoB b r) ∧
  (∀ x ∈ pv.zip rs, x.1 < w ∧ (x.2.getD x.1 q0).1 ≠ 0 ∧ ∀ j, j < x.1 → (x.2.getD j q0).1 = 0) ∧
  ∀ (H' : Hp) (t : Addr) (qs : List Q2), Same H H' → Tp PairQ H' t qs → qs.length = w → (∀ q ∈ qs, Lo q) → (∀ j, j < w → rowF qs j = redF (pv.zip (rs.map rowF)) (rowF vq) j) → Q (.ref t) H'
section
variable {P : Program} {w : World} {K : PySem.W.Frag} {mg : Str → Option Value} {base : Heap} {C Z CM : Addr}
abbrev nCo : List Str := ["rows", "width", "y", "out", "k", "j"]
theorem scLCo : FnScope nCo ["rows", "width", "y"] (defScope sLCo) := ⟨rfl, rfl, rfl, by decide +kernel, rfl, by decide +kernel, by decide +kernel⟩
abbrev teMul (a b : TE) : TE := tCall spMulQ [] E0 (tCons a (tCons b tNil))
abbrev teAdd (a b : TE) : TE := tCall spAddQ [] E0 (tCons a (tCons b tNil))
theorem ok_lco {f fA fM : Addr} {fd fdA fdM : FuncData} (F : Fun K "_law_combine" "_law_combine" sLCo f fd) (T : TxL K mg) (TM : TxM K mg CM) (TA : TxAM P w K mg base fA fM fdA fdM) : FnOk P w K mg base CX0 43 f fd ["rows", "width", "y"] spLCo := by
  refine F.ok scLCo (fun vs H Q E h => ?_) (fun cdv A outer s H vs Q E hr h => ?_)
  · obtain ⟨p, y, rs, ys, w, b, rfl, _⟩ := h
    rfl
  · obtain ⟨p, y, rs, ys, w, b, rfl, hP, hY, hl, hl1, hw1, hrs, hys, hb, k⟩ := h
    refine ⟨_, pss_cons (ps_set (i := 3) scLCo.nd rfl (Or.inr rfl) (pe_lc (own := [("k", 4)]) (g := gName 4) (tt := tYes) (te := tTup (tCons (tC (.int 0)) (tCons (tC (.int 1)) tNil))) rfl scLCo.nd (pi_range1 (by rfl) T.range (pa_cons (pv 1) pa_nil)) (blkOk_by (N := nCo) (sc := defScope sLCo) (by decide +kernel))
          (fun _ _ _ _ _ => pg_name (i := 4) scLCo.nd rfl (Or.inl rfl)) (fun _ _ _ _ _ => pts_nil) (fun _ _ _ _ _ => pe_tup (pa_cons pe_int (pa_cons pe_int pa_nil)))))
      (pss_cons (ps_for PassesOwn.never rfl (pi_range1 (by rfl) T.range (pa_cons (pe_callB call_len_seq (by rfl) T.len PySem.boot_len (pa_cons (pv 0) pa_nil)) pa_nil)) (pg_name (i := 4) scLCo.nd rfl (Or.inr rfl))
        (pss_one (ps_set (i := 3) scLCo.nd rfl (Or.inr rfl) (pe_lc (own := [("j", 5)]) (g := gName 5) (tt := tYes) (te := teAdd (tOp (rIxL K) (tVar 3) (tVar 5)) (teMul (tOp (rIxT K) (tVar 2) (tVar 4)) (tOp (rIxT K) (tOp (rIxT K) (tVar 0) (tVar 4)) (tVar 5)))) rfl scLCo.nd (pi_range1 (by rfl) T.range (pa_cons (pv 1) pa_nil)) (blkOk_by (N := nCo) (sc := defScope sLCo) (by decide +kernel))
          (fun _ _ _ _ _ => pg_name (i := 5) scLCo.nd rfl (Or.inl rfl)) (fun _ _ _ _ _ => pts_nil)
          (fun _ _ _ _ _ => pe_call TA.fnA hr (by rfl) TA.gA TA.kA TA.bA .nil pass0 (pa_cons (pe_ix ix_list (pv 3) (pv 5) fun _ _ => rfl) (pa_cons (pe_call TA.fnM hr (by rfl) TA.gM TA.kM TA.bM .nil pass0 (pa_cons (pe_ix ix_tup (pv 2) (pv 4) fun _ _ => rfl) (pa_cons (pe_ix ix_tup (pe_ix ix_tup (pv 0) (pv 4) fun _ _ => rfl) (pv 5) fun _ _ => rfl) pa_nil))) pa_nil)))))))
      (pss_one (ps_ret (pe_callTy call_tuple_of (by rfl) TM.tuple (by decide +kernel) (pa_cons (pv 3) pa_nil))))), ?_⟩
    obtain ⟨pa, ea, qa⟩ := id hP
    have la := qa.length
    refine ⟨_, rfl, (w : Int), rfl, by omega, by omega, fun D hD => ?_⟩
    refine lc_range (lo := 0) (n := w) (fun i H2 => Col PairQ D H H2 (List.replicate i q0)) (Col.start hD) ?_ ?_
    · intro i H2 hi z
      refine ⟨rfl, (by show 2 ≤ sizeLine; decide), fun t ht => ?_⟩
      rw [List.replicate_succ']
      refine z.push (PairQ.stb.x D) hD (same_upd ht) upd_same ?_
      rw [List.length_replicate]
      omega
    rintro H2 z
    refine ⟨_, rfl, p, _, rfl, .inr (SqT.of (z.s _ _ ea)), (((pa.map V.ref).length : Nat) : Int), rfl, by omega, by rw [List.length_map]; omega, ?_⟩
    rw [List.length_map, la]
    refine for_range (lo := 0) (n := rs.length) (fun i σ H' => Same H H' ∧ ∃ (D : Addr) (qs : List Q2) (v : Option V), σ = [some (.ref p), some (.int (w : Int)), some (.ref y), some (.ref D), v, none] ∧ Ls PairQ H' D qs ∧ qs.length = w ∧ LoB (1 + i * (2 * b + 1)) qs ∧ ∀ j, j < w → rowF qs j = sumTo i fun k => rowF ys k * rowF (rs.getD k []) j)
      ⟨z.s, D, List.replicate w q0, none, rfl, z.at_, List.length_replicate .., fun q hq => ?_, fun j hj => ?_⟩ ?_ ?_
    · rw [(List.mem_replicate.mp hq).2, Nat.zero_mul]
      exact ⟨lo_q0, bq_q0⟩
    · unfold rowF
      rw [List.getD_eq_getElem?_getD, List.getElem?_replicate, if_pos hj]
      exact rv_q0
    · rintro i σ H' hi ⟨s1, D1, qs, v, rfl, hD1, hql, hqb, hqv⟩
      rw [Int.zero_add]
      obtain ⟨r, hr1⟩ : ∃ r, rs[i]? = some r := ⟨_, List.getElem?_eq_getElem hi⟩
      obtain ⟨yq, hy1⟩ : ∃ yq, ys[i]? = some yq := ⟨_, List.getElem?_eq_getElem (by omega)⟩
      have hrm := hrs r (List.mem_of_getElem? hr1)
      have lyq := hys yq (List.mem_of_getElem? hy1)
      have hi2 : i * (2 * b + 1) ≤ 100 * (2 * b + 1) := Nat.mul_le_mul_right _ (by omega)
      refine ⟨_, rfl, (w : Int), rfl, by omega, by omega, fun D2 hD2 => ?_⟩
      refine lc_range (lo := 0) (n := w) (fun j H3 => ∃ zs, Col PairQ D2 H' H3 zs ∧ zs.length = j ∧ LoB (1 + (i + 1) * (2 * b + 1)) zs ∧ ∀ j', j' < j → rowF zs j' = sumTo (i + 1) fun k => rowF ys k * rowF (rs.getD k []) j') ⟨[], Col.start hD2, rfl, fun q hq => (nomatch hq), fun j hj => absurd hj (Nat.not_lt_zero _)⟩ ?_ ?_
      · rintro j H3 hj ⟨zs, z3, hzl, hzb, hzv⟩
        rw [Int.zero_add]
        obtain ⟨q, hq1⟩ : ∃ q, qs[j]? = some q := ⟨_, List.getElem?_eq_getElem (by omega)⟩
        obtain ⟨c, hc1⟩ : ∃ c, r[j]? = some c := ⟨_, List.getElem?_eq_getElem (by omega)⟩
        obtain ⟨pd, ed, qd⟩ := Ls.same PairQ.stb z3.s hD1
        obtain ⟨a0, ha0, hqa⟩ := Paired.at2 qd hq1
        have S3 := s1.trans z3.s
        obtain ⟨p1, u1, e1, g1, f1⟩ := tp_at (VecP.stb.same S3 hY) hy1
        obtain ⟨p2, u2, e2, g2, f2⟩ := tp_at (MatP.stb.same S3 hP) hr1
        obtain ⟨p3, u3, e3, g3, f3⟩ := tp_at f2 hc1
        have lq := hqb q (List.mem_of_getElem? hq1)
        have lc := hrm.2 c (List.mem_of_getElem? hc1)
        refine ⟨rfl, _, rfl, _, rfl, D1, _, _, _, rfl, rfl, SqL.of ed, atI_of (ref_at ha0), ?_⟩
        refine ⟨_, rfl, _, rfl, y, _, _, _, rfl, rfl, SqT.of e1, atI_of g1, ?_⟩
        refine ⟨_, rfl, _, rfl, p, _, _, _, rfl, rfl, SqT.of e2, atI_of g2, _, rfl, u2, _, _, _, rfl, rfl, SqT.of e3, atI_of g3, ?_⟩
        refine ⟨u1, u3, yq, c, rfl, f1, f3, lyq.1.ne, lc.1.ne, lyq.2.bg (by omega), lc.2.bg (by omega), fun H4 t4 s4 ht4 => ?_⟩
        have bm := bq_mul lyq.2 lc.2
        have lm := lo_mul lyq.1.ne lc.1.ne
        refine ⟨a0, t4, q, mulq yq c, rfl, PairQ.stb.same s4 hqa, ht4, lq.1.ne, lm.ne, lq.2.bg (by omega), bm.bg (by omega), fun H5 t5 s5 ht5 => ?_⟩
        obtain ⟨acc, k1, k2, k3⟩ := z3.push (PairQ.stb.x D2) hD2 (s4.trans s5) ht5 (by omega)
        refine ⟨acc, k1, k2, _, k3, by rw [List.length_append, hzl]; rfl, fun x hx => ?_, fun j' hj' => ?_⟩
        · rcases List.mem_append.mp hx with h | h
          · exact hzb x h
          · rw [List.mem_singleton.mp h]
            refine ⟨lo_add lq.1.ne lm.ne, (bq_add lq.2 bm).mono ?_⟩
            rw [Nat.add_mul, Nat.one_mul]
            omega
        · by_cases e : j' = j
          · subst e
            rw [← hzl, rowF_last, rv_add lq.1.ne lm.ne, rv_mul lyq.1.ne lc.1.ne, sumTo_succ, hzl]
            have h1 := hqv j' hj
            unfold rowF at h1 ⊢
            rw [getD_q hq1] at h1
            rw [h1, getD_q hy1]
            have e4 : rs.getD i [] = r := by
              rw [List.getD_eq_getElem?_getD, hr1]
              rfl
            rw [e4, getD_q hc1]
          · rw [rowF_in (by omega)]
            exact hzv j' (by omega)
      · rintro H3 ⟨zs, z3, hzl, hzb, hzv⟩
        exact ⟨s1.trans z3.s, D2, zs, _, rfl, z3.at_, hzl, hzb, hzv⟩
    · rintro σ H' ⟨s1, D1, qs, v, rfl, ⟨pd, ed, qd⟩, hql, hqb, hqv⟩
      exact ⟨_, rfl, D1, _, rfl, .inl ⟨SqL.of ed, fun t ht => k _ t qs (s1.trans (same_upd ht)) ⟨pd, upd_same, Paired.imp (fun _ _ f => PairQ.stb.same (same_upd ht) f) qd⟩ hql (fun q hq => (hqb q hq).1) hqv⟩⟩
theorem ok_lcoL {f fA fM : Addr} {fd fdA fdM : FuncData} (F : Fun K "_law_combine" "_law_combine" sLCo f fd) (T : TxL K mg) (TM : TxM K mg CM) (TA : TxAM P w K mg base fA fM fdA fdM) : FnOk P w K mg base CX0 43 f fd ["rows", "width", "y"] spLCoL := by
  refine F.ok scLCo (fun vs H Q E h => ?_) (fun cdv A outer s H vs Q E hr h => ?_)
  · obtain ⟨p, y, rs, ys, w, b, rfl, _⟩ := h
    rfl
  · obtain ⟨p, y, rs, ys, w, b, rfl, hP, hY, hl, hl1, hw1, hrs, hys, hb, k⟩ := h
    refine ⟨_, pss_cons (ps_set (i := 3) scLCo.nd rfl (Or.inr rfl) (pe_lc (own := [("k", 4)]) (g := gName 4) (tt := tYes) (te := tTup (tCons (tC (.int 0)) (tCons (tC (.int 1)) tNil))) rfl scLCo.nd (pi_range1 (by rfl) T.range (pa_cons (pv 1) pa_nil)) (blkOk_by (N := nCo) (sc := defScope sLCo) (by decide +kernel))
          (fun _ _ _ _ _ => pg_name (i := 4) scLCo.nd rfl (Or.inl rfl)) (fun _ _ _ _ _ => pts_nil) (fun _ _ _ _ _ => pe_tup (pa_cons pe_int (pa_cons pe_int pa_nil)))))
      (pss_cons (ps_for PassesOwn.never rfl (pi_range1 (by rfl) T.range (pa_cons (pe_callB call_len_seq (by rfl) T.len PySem.boot_len (pa_cons (pv 0) pa_nil)) pa_nil)) (pg_name (i := 4) scLCo.nd rfl (Or.inr rfl))
        (pss_one (ps_set (i := 3) scLCo.nd rfl (Or.inr rfl) (pe_lc (own := [("j", 5)]) (g := gName 5) (tt := tYes) (te := teAdd (tOp (rIxL K) (tVar 3) (tVar 5)) (teMul (tOp (rIxL K) (tVar 2) (tVar 4)) (tOp (rIxT K) (tOp (rIxL K) (tVar 0) (tVar 4)) (tVar 5)))) rfl scLCo.nd (pi_range1 (by rfl) T.range (pa_cons (pv 1) pa_nil)) (blkOk_by (N := nCo) (sc := defScope sLCo) (by decide +kernel))
          (fun _ _ _ _ _ => pg_name (i := 5) scLCo.nd rfl (Or.inl rfl)) (fun _ _ _ _ _ => pts_nil)
          (fun _ _ _ _ _ => pe_call TA.fnA hr (by rfl) TA.gA TA.kA TA.bA .nil pass0 (pa_cons (pe_ix ix_list (pv 3) (pv 5) fun _ _ => rfl) (pa_cons (pe_call TA.fnM hr (by rfl) TA.gM TA.kM TA.bM .nil pass0 (pa_cons (pe_ix ix_list (pv 2) (pv 4) fun _ _ => rfl) (pa_cons (pe_ix ix_tup (pe_ix ix_list (pv 0) (pv 4) fun _ _ => rfl) (pv 5) fun _ _ => rfl) pa_nil))) pa_nil)))))))
      (pss_one (ps_ret (pe_callTy call_tuple_of (by rfl) TM.tuple (by decide +kernel) (pa_cons (pv 3) pa_nil))))), ?_⟩
    obtain ⟨pa, ea, qa⟩ := id hP
    have la := qa.length
    refine ⟨_, rfl, (w : Int), rfl, by omega, by omega, fun D hD => ?_⟩
    refine lc_range (lo := 0) (n := w) (fun i H2 => Col PairQ D H H2 (List.replicate i q0)) (Col.start hD) ?_ ?_
    · intro i H2 hi z
      refine ⟨rfl, (by show 2 ≤ sizeLine; decide), fun t ht => ?_⟩
      rw [List.replicate_succ']
      refine z.push (PairQ.stb.x D) hD (same_upd ht) upd_same ?_
      rw [List.length_replicate]
      omega
    rintro H2 z
    refine ⟨_, rfl, p, _, rfl, .inl (SqL.of (z.s _ _ ea)), (((pa.map V.ref).length : Nat) : Int), rfl, by omega, by rw [List.length_map]; omega, ?_⟩
    rw [List.length_map, la]
    refine for_range (lo := 0) (n := rs.length) (fun i σ H' => Same H H' ∧ ∃ (D : Addr) (qs : List Q2) (v : Option V), σ = [some (.ref p), some (.int (w : Int)), some (.ref y), some (.ref D), v, none] ∧ Ls PairQ H' D qs ∧ qs.length = w ∧ LoB (1 + i * (2 * b + 1)) qs ∧ ∀ j, j < w → rowF qs j = sumTo i fun k => rowF ys k * rowF (rs.getD k []) j)
      ⟨z.s, D, List.replicate w q0, none, rfl, z.at_, List.length_replicate .., fun q hq => ?_, fun j hj => ?_⟩ ?_ ?_
    · rw [(List.mem_replicate.mp hq).2, Nat.zero_mul]
      exact ⟨lo_q0, bq_q0⟩
    · unfold rowF
      rw [List.getD_eq_getElem?_getD, List.getElem?_replicate, if_pos hj]
      exact rv_q0
    · rintro i σ H' hi ⟨s1, D1, qs, v, rfl, hD1, hql, hqb, hqv⟩
      rw [Int.zero_add]
      obtain ⟨r, hr1⟩ : ∃ r, rs[i]? = some r := ⟨_, List.getElem?_eq_getElem hi⟩
      obtain ⟨yq, hy1⟩ : ∃ yq, ys[i]? = some yq := ⟨_, List.getElem?_eq_getElem (by omega)⟩
      have hrm := hrs r (List.mem_of_getElem? hr1)
      have lyq := hys yq (List.mem_of_getElem? hy1)
      have hi2 : i * (2 * b + 1) ≤ 100 * (2 * b + 1) := Nat.mul_le_mul_right _ (by omega)
      refine ⟨_, rfl, (w : Int), rfl, by omega, by omega, fun D2 hD2 => ?_⟩
      refine lc_range (lo := 0) (n := w) (fun j H3 => ∃ zs, Col PairQ D2 H' H3 zs ∧ zs.length = j ∧ LoB (1 + (i + 1) * (2 * b + 1)) zs ∧ ∀ j', j' < j → rowF zs j' = sumTo (i + 1) fun k => rowF ys k * rowF (rs.getD k []) j') ⟨[], Col.start hD2, rfl, fun q hq => (nomatch hq), fun j hj => absurd hj (Nat.not_lt_zero _)⟩ ?_ ?_
      · rintro j H3 hj ⟨zs, z3, hzl, hzb, hzv⟩
        rw [Int.zero_add]
        obtain ⟨q, hq1⟩ : ∃ q, qs[j]? = some q := ⟨_, List.getElem?_eq_getElem (by omega)⟩
        obtain ⟨c, hc1⟩ : ∃ c, r[j]? = some c := ⟨_, List.getElem?_eq_getElem (by omega)⟩
        obtain ⟨pd, ed, qd⟩ := Ls.same PairQ.stb z3.s hD1
        obtain ⟨a0, ha0, hqa⟩ := Paired.at2 qd hq1
        have S3 := s1.trans z3.s
        obtain ⟨p1, u1, e1, g1, f1⟩ := ls_at (Ls.same PairQ.stb S3 hY) hy1
        obtain ⟨p2, u2, e2, g2, f2⟩ := ls_at (Ls.same VecP.stb S3 hP) hr1
        obtain ⟨p3, u3, e3, g3, f3⟩ := tp_at f2 hc1
        have lq := hqb q (List.mem_of_getElem? hq1)
        have lc := hrm.2 c (List.mem_of_getElem? hc1)
        refine ⟨rfl, _, rfl, _, rfl, D1, _, _, _, rfl, rfl, SqL.of ed, atI_of (ref_at ha0), ?_⟩
        refine ⟨_, rfl, _, rfl, y, _, _, _, rfl, rfl, SqL.of e1, atI_of g1, ?_⟩
        refine ⟨_, rfl, _, rfl, p, _, _, _, rfl, rfl, SqL.of e2, atI_of g2, _, rfl, u2, _, _, _, rfl, rfl, SqT.of e3, atI_of g3, ?_⟩
        refine ⟨u1, u3, yq, c, rfl, f1, f3, lyq.1.ne, lc.1.ne, lyq.2.bg (by omega), lc.2.bg (by omega), fun H4 t4 s4 ht4 => ?_⟩
        have bm := bq_mul lyq.2 lc.2
        have lm := lo_mul lyq.1.ne lc.1.ne
        refine ⟨a0, t4, q, mulq yq c, rfl, PairQ.stb.same s4 hqa, ht4, lq.1.ne, lm.ne, lq.2.bg (by omega), bm.bg (by omega), fun H5 t5 s5 ht5 => ?_⟩
        obtain ⟨acc, k1, k2, k3⟩ := z3.push (PairQ.stb.x D2) hD2 (s4.trans s5) ht5 (by omega)
        refine ⟨acc, k1, k2, _, k3, by rw [List.length_append, hzl]; rfl, fun x hx => ?_, fun j' hj' => ?_⟩
        · rcases List.mem_append.mp hx with h | h
          · exact hzb x h
          · rw [List.mem_singleton.mp h]
            refine ⟨lo_add lq.1.ne lm.ne, (bq_add lq.2 bm).mono ?_⟩
            rw [Nat.add_mul, Nat.one_mul]
            omega
        · by_cases e : j' = j
          · subst e
            rw [← hzl, rowF_last, rv_add lq.1.ne lm.ne, rv_mul lyq.1.ne lc.1.ne, sumTo_succ, hzl]
            have h1 := hqv j' hj
            unfold rowF at h1 ⊢
            rw [getD_q hq1] at h1
            rw [h1, getD_q hy1]
            have e4 : rs.getD i [] = r := by
              rw [List.getD_eq_getElem?_getD, hr1]
              rfl
            rw [e4, getD_q hc1]
          · rw [rowF_in (by omega)]
            exact hzv j' (by omega)
      · rintro H3 ⟨zs, z3, hzl, hzb, hzv⟩
        exact ⟨s1.trans z3.s, D2, zs, _, rfl, z3.at_, hzl, hzb, hzv⟩
    · rintro σ H' ⟨s1, D1, qs, v, rfl, ⟨pd, ed, qd⟩, hql, hqb, hqv⟩
      exact ⟨_, rfl, D1, _, rfl, .inl ⟨SqL.of ed, fun t ht => k _ t qs (s1.trans (same_upd ht)) ⟨pd, upd_same, Paired.imp (fun _ _ f => PairQ.stb.same (same_upd ht) f) qd⟩ hql (fun q hq => (hqb q hq).1) hqv⟩⟩
theorem ok_lcoM {f fA fM : Addr} {fd fdA fdM : FuncData} (F : Fun K "_law_combine" "_law_combine" sLCo f fd) (T : TxL K mg) (TM : TxM K mg CM) (TA : TxAM P w K mg base fA fM fdA fdM) : FnOk P w K mg base CX0 43 f fd ["rows", "width", "y"] spLCoM := by
  refine F.ok scLCo (fun vs H Q E h => ?_) (fun cdv A outer s H vs Q E hr h => ?_)
  · obtain ⟨p, y, rs, ys, w, b, rfl, _⟩ := h
    rfl
  · obtain ⟨p, y, rs, ys, w, b, rfl, hP, hY, hl, hl1, hw1, hrs, hys, hb, k⟩ := h
    refine ⟨_, pss_cons (ps_set (i := 3) scLCo.nd rfl (Or.inr rfl) (pe_lc (own := [("k", 4)]) (g := gName 4) (tt := tYes) (te := tTup (tCons (tC (.int 0)) (tCons (tC (.int 1)) tNil))) rfl scLCo.nd (pi_range1 (by rfl) T.range (pa_cons (pv 1) pa_nil)) (blkOk_by (N := nCo) (sc := defScope sLCo) (by decide +kernel))
          (fun _ _ _ _ _ => pg_name (i := 4) scLCo.nd rfl (Or.inl rfl)) (fun _ _ _ _ _ => pts_nil) (fun _ _ _ _ _ => pe_tup (pa_cons pe_int (pa_cons pe_int pa_nil)))))
      (pss_cons (ps_for PassesOwn.never rfl (pi_range1 (by rfl) T.range (pa_cons (pe_callB call_len_seq (by rfl) T.len PySem.boot_len (pa_cons (pv 0) pa_nil)) pa_nil)) (pg_name (i := 4) scLCo.nd rfl (Or.inr rfl))
        (pss_one (ps_set (i := 3) scLCo.nd rfl (Or.inr rfl) (pe_lc (own := [("j", 5)]) (g := gName 5) (tt := tYes) (te := teAdd (tOp (rIxL K) (tVar 3) (tVar 5)) (teMul (tOp (rIxL K) (tVar 2) (tVar 4)) (tOp (rIxT K) (tOp (rIxT K) (tVar 0) (tVar 4)) (tVar 5)))) rfl scLCo.nd (pi_range1 (by rfl) T.range (pa_cons (pv 1) pa_nil)) (blkOk_by (N := nCo) (sc := defScope sLCo) (by decide +kernel))
          (fun _ _ _ _ _ => pg_name (i := 5) scLCo.nd rfl (Or.inl rfl)) (fun _ _ _ _ _ => pts_nil)
          (fun _ _ _ _ _ => pe_call TA.fnA hr (by rfl) TA.gA TA.kA TA.bA .nil pass0 (pa_cons (pe_ix ix_list (pv 3) (pv 5) fun _ _ => rfl) (pa_cons (pe_call TA.fnM hr (by rfl) TA.gM TA.kM TA.bM .nil pass0 (pa_cons (pe_ix ix_list (pv 2) (pv 4) fun _ _ => rfl) (pa_cons (pe_ix ix_tup (pe_ix ix_tup (pv 0) (pv 4) fun _ _ => rfl) (pv 5) fun _ _ => rfl) pa_nil))) pa_nil)))))))
      (pss_one (ps_ret (pe_callTy call_tuple_of (by rfl) TM.tuple (by decide +kernel) (pa_cons (pv 3) pa_nil))))), ?_⟩
    obtain ⟨pa, ea, qa⟩ := id hP
    have la := qa.length
    refine ⟨_, rfl, (w : Int), rfl, by omega, by omega, fun D hD => ?_⟩
    refine lc_range (lo := 0) (n := w) (fun i H2 => Col PairQ D H H2 (List.replicate i q0)) (Col.start hD) ?_ ?_
    · intro i H2 hi z
      refine ⟨rfl, (by show 2 ≤ sizeLine; decide), fun t ht => ?_⟩
      rw [List.replicate_succ']
      refine z.push (PairQ.stb.x D) hD (same_upd ht) upd_same ?_
      rw [List.length_replicate]
      omega
    rintro H2 z
    refine ⟨_, rfl, p, _, rfl, .inr (SqT.of (z.s _ _ ea)), (((pa.map V.ref).length : Nat) : Int), rfl, by omega, by rw [List.length_map]; omega, ?_⟩
    rw [List.length_map, la]
    refine for_range (lo := 0) (n := rs.length) (fun i σ H' => Same H H' ∧ ∃ (D : Addr) (qs : List Q2) (v : Option V), σ = [some (.ref p), some (.int (w : Int)), some (.ref y), some (.ref D), v, none] ∧ Ls PairQ H' D qs ∧ qs.length = w ∧ LoB (1 + i * (2 * b + 1)) qs ∧ ∀ j, j < w → rowF qs j = sumTo i fun k => rowF ys k * rowF (rs.getD k []) j)
      ⟨z.s, D, List.replicate w q0, none, rfl, z.at_, List.length_replicate .., fun q hq => ?_, fun j hj => ?_⟩ ?_ ?_
    · rw [(List.mem_replicate.mp hq).2, Nat.zero_mul]
      exact ⟨lo_q0, bq_q0⟩
    · unfold rowF
      rw [List.getD_eq_getElem?_getD, List.getElem?_replicate, if_pos hj]
      exact rv_q0
    · rintro i σ H' hi ⟨s1, D1, qs, v, rfl, hD1, hql, hqb, hqv⟩
      rw [Int.zero_add]
      obtain ⟨r, hr1⟩ : ∃ r, rs[i]? = some r := ⟨_, List.getElem?_eq_getElem hi⟩
      obtain ⟨yq, hy1⟩ : ∃ yq, ys[i]? = some yq := ⟨_, List.getElem?_eq_getElem (by omega)⟩
      have hrm := hrs r (List.mem_of_getElem? hr1)
      have lyq := hys yq (List.mem_of_getElem? hy1)
      have hi2 : i * (2 * b + 1) ≤ 100 * (2 * b + 1) := Nat.mul_le_mul_right _ (by omega)
      refine ⟨_, rfl, (w : Int), rfl, by omega, by omega, fun D2 hD2 => ?_⟩
      refine lc_range (lo := 0) (n := w) (fun j H3 => ∃ zs, Col PairQ D2 H' H3 zs ∧ zs.length = j ∧ LoB (1 + (i + 1) * (2 * b + 1)) zs ∧ ∀ j', j' < j → rowF zs j' = sumTo (i + 1) fun k => rowF ys k * rowF (rs.getD k []) j') ⟨[], Col.start hD2, rfl, fun q hq => (nomatch hq), fun j hj => absurd hj (Nat.not_lt_zero _)⟩ ?_ ?_
      · rintro j H3 hj ⟨zs, z3, hzl, hzb, hzv⟩
        rw [Int.zero_add]
        obtain ⟨q, hq1⟩ : ∃ q, qs[j]? = some q := ⟨_, List.getElem?_eq_getElem (by omega)⟩
        obtain ⟨c, hc1⟩ : ∃ c, r[j]? = some c := ⟨_, List.getElem?_eq_getElem (by omega)⟩
        obtain ⟨pd, ed, qd⟩ := Ls.same PairQ.stb z3.s hD1
        obtain ⟨a0, ha0, hqa⟩ := Paired.at2 qd hq1
        have S3 := s1.trans z3.s
        obtain ⟨p1, u1, e1, g1, f1⟩ := ls_at (Ls.same PairQ.stb S3 hY) hy1
        obtain ⟨p2, u2, e2, g2, f2⟩ := tp_at (MatP.stb.same S3 hP) hr1
        obtain ⟨p3, u3, e3, g3, f3⟩ := tp_at f2 hc1
        have lq := hqb q (List.mem_of_getElem? hq1)
        have lc := hrm.2 c (List.mem_of_getElem? hc1)
        refine ⟨rfl, _, rfl, _, rfl, D1, _, _, _, rfl, rfl, SqL.of ed, atI_of (ref_at ha0), ?_⟩
        refine ⟨_, rfl, _, rfl, y, _, _, _, rfl, rfl, SqL.of e1, atI_of g1, ?_⟩
        refine ⟨_, rfl, _, rfl, p, _, _, _, rfl, rfl, SqT.of e2, atI_of g2, _, rfl, u2, _, _, _, rfl, rfl, SqT.of e3, atI_of g3, ?_⟩
        refine ⟨u1, u3, yq, c, rfl, f1, f3, lyq.1.ne, lc.1.ne, lyq.2.bg (by omega), lc.2.bg (by omega), fun H4 t4 s4 ht4 => ?_⟩
        have bm := bq_mul lyq.2 lc.2
        have lm := lo_mul lyq.1.ne lc.1.ne
        refine ⟨a0, t4, q, mulq yq c, rfl, PairQ.stb.same s4 hqa, ht4, lq.1.ne, lm.ne, lq.2.bg (by omega), bm.bg (by omega), fun H5 t5 s5 ht5 => ?_⟩
        obtain ⟨acc, k1, k2, k3⟩ := z3.push (PairQ.stb.x D2) hD2 (s4.trans s5) ht5 (by omega)
        refine ⟨acc, k1, k2, _, k3, by rw [List.length_append, hzl]; rfl, fun x hx => ?_, fun j' hj' => ?_⟩
        · rcases List.mem_append.mp hx with h | h
          · exact hzb x h
          · rw [List.mem_singleton.mp h]
            refine ⟨lo_add lq.1.ne lm.ne, (bq_add lq.2 bm).mono ?_⟩
            rw [Nat.add_mul, Nat.one_mul]
            omega
        · by_cases e : j' = j
          · subst e
            rw [← hzl, rowF_last, rv_add lq.1.ne lm.ne, rv_mul lyq.1.ne lc.1.ne, sumTo_succ, hzl]
            have h1 := hqv j' hj
            unfold rowF at h1 ⊢
            rw [getD_q hq1] at h1
            rw [h1, getD_q hy1]
            have e4 : rs.getD i [] = r := by
              rw [List.getD_eq_getElem?_getD, hr1]
              rfl
            rw [e4, getD_q hc1]
          · rw [rowF_in (by omega)]
            exact hzv j' (by omega)
      · rintro H3 ⟨zs, z3, hzl, hzb, hzv⟩
        exact ⟨s1.trans z3.s, D2, zs, _, rfl, z3.at_, hzl, hzb, hzv⟩
    · rintro σ H' ⟨s1, D1, qs, v, rfl, ⟨pd, ed, qd⟩, hql, hqb, hqv⟩
      exact ⟨_, rfl, D1, _, rfl, .inl ⟨SqL.of ed, fun t ht => k _ t qs (s1.trans (same_upd ht)) ⟨pd, upd_same, Paired.imp (fun _ _ f => PairQ.stb.same (same_upd ht) f) qd⟩ hql (fun q hq => (hqb q hq).1) hqv⟩⟩
end
end Ind

set_option Elab.async false
set_option linter.all false
set_option maxRecDepth 100000
set_option maxHeartbeats 4000000
set_option exponentiation.threshold 9000
namespace Ind
open PySem PySem.Spec PyProof.Rows L2
open Builtin.Int (intBits)
theorem rv_negq {n d : Int} : rv (-n, d) = -rv (n, d) := by
  unfold rv
  show ((-n : Int) : Rat) / ((d : Int) : Rat) = -(((n : Int) : Rat) / ((d : Int) : Rat))
  rw [Rat.intCast_neg]
  grind
section
variable {P : Program} {w : World} {K : PySem.W.Frag} {mg : Str → Option Value} {base : Heap} {C Z CM : Addr}
abbrev nLe : List Str := ["rows", "v", "rest", "row", "factor", "minus", "k"]
end
end Ind

set_option Elab.async false
set_option linter.all false
set_option maxRecDepth 100000
set_option maxHeartbeats 4000000
set_option exponentiation.threshold 9000
namespace Ind
open PySem PySem.Spec PyProof.Rows L2
open Builtin.Int (intBits)
abbrev sIsR : Stmt := top 99
structure IsRed (w : Nat) (rs : List (List Q2)) (pz : List Nat) : Prop where
  len : pz.length = rs.length
  row : ∀ r ∈ rs, r.length = w ∧ ∀ q ∈ r, Lo q
  piv : ∀ (i k : Nat) (r : List Q2), pz[i]? = some k → rs[i]? = some r → k < w ∧ r.getD k q0 = (1, 1) ∧ ∀ j, j < k → (r.getD j q0).1 = 0
  off : ∀ (i k i' : Nat) (r' : List Q2), pz[i]? = some k → rs[i']? = some r' → i' ≠ i → (r'.getD k q0).1 = 0
  inc : ∀ (i k k' : Nat), pz[i]? = some k → pz[i + 1]? = some k' → k < k'
def spIsR : Sp := fun vs H Q _ => ∃ (p tp : Addr) (rs : List (List Q2)) (pz : List Nat) (w : Nat), vs = [.ref p, .ref tp, .int (w : Int)] ∧ Ls (Tp PairQ) H p rs ∧ H tp = some (.tup (pz.map fun k : Nat => V.int (k : Int))) ∧ IsRed w rs pz ∧ rs.length ≤ 100 ∧ ∀ H', Same H H' → Q (.bl true) H'
theorem nats_at {pz : List Nat} {i k : Nat} (h : pz[i]? = some k) : (pz.map fun k : Nat => V.int (k : Int))[i]? = some (V.int (k : Int)) := by
  rw [List.getElem?_map, h]
  rfl
theorem Ls.sameF {β : Type} {F : FH β} (h : Stb F) {H H' : Hp} {l : Addr} {bs : List β} (s : Same H H') (f : Ls F H l bs) : Ls F H' l bs := Ls.same h s f
section
variable {P : Program} {w : World} {K : PySem.W.Frag} {mg : Str → Option Value} {base : Heap} {C Z CM : Addr}
abbrev nIs : List Str := ["rows", "pivots", "width", "before", "k", "at", "j"]
end
end Ind

set_option Elab.async false
set_option linter.all false
set_option maxRecDepth 100000
set_option maxHeartbeats 4000000
set_option exponentiation.threshold 9000
namespace Ind
open PySem PySem.Spec PyProof.Rows L2
open Builtin.Int (intBits)
abbrev sLMx : Stmt := top 37
def SmR (w : Nat) (rs : List (List Q2)) : Prop := ∀ r ∈ rs, r.length = w ∧ ∀ q ∈ r, Sm q
def spLMx (K : PySem.W.Frag) : Sp := fun vs H Q _ => ∃ (a : Addr) (ns : List Int) (k h w : Nat), vs = [.ref a, .int (k : Int), .int (h : Int), .int (w : Int)] ∧ SqL K H a (ns.map V.int) ∧ k ≤ 1000 ∧ h ≤ 5 ∧ w ≤ 5 ∧
  ∀ (H' : Hp) (t : Addr) (rs : List (List Q2)), Same H H' → MatP H' t rs → rs.length = h → SmR w rs → Q (.ref t) H'
theorem Col.same {β : Type} {F : FH β} {D : Addr} {H H2 H3 : Hp} {bs : List β} (x : Col F D H H2 bs) (hF : Stb F) (s : Same H2 H3) : Col F D H H3 bs := ⟨x.s.trans s, Ls.same hF s x.at_⟩
theorem ix_lt {i j h w : Nat} (hi : i < h) (hj : j < w) : i * w + j < h * w := by
  have h1 : (i + 1) * w ≤ h * w := Nat.mul_le_mul_right _ hi
  rw [Nat.add_mul, Nat.one_mul] at h1
  omega
section
variable {P : Program} {w : World} {K : PySem.W.Frag} {mg : Str → Option Value} {base : Heap} {C Z CM : Addr}
abbrev nMx : List Str := ["script", "at", "rows", "width", "row", "out", "k", "line", "j", "n", "d"]
theorem scLMx : FnScope nMx ["script", "at", "rows", "width"] (defScope sLMx) := ⟨rfl, rfl, rfl, by decide +kernel, rfl, by decide +kernel, by decide +kernel⟩
theorem ok_lmx {f fC fD fS : Addr} {fd fdC fdD fdS : FuncData} (F : Fun K "_law_matrix" "_law_matrix" sLMx f fd) (T : TxL K mg) (TM : TxM K mg CM) (FC : Fun K "_law_cell" "_law_cell" sCell fC fdC) (bC : Binds K fdC ["script", "k"] []) (gC : mg "_law_cell" = some (.ref fC))
    (FD : Fun K "_law_draws" "_law_draws" sDraws fD fdD) (bD : Binds K fdD ["script", "at", "count", "bound"] []) (gD : mg "_law_draws" = some (.ref fD))
    (GS : FnOk P w K mg base CX0 42 fS fdS ["n", "d"] spSm) (kS : PySem.W.keepIn K (.ref fS) = true) (bS : Binds K fdS ["n", "d"] []) (gS : mg "_law_small" = some (.ref fS)) : FnOk P w K mg base CX0 43 f fd ["script", "at", "rows", "width"] (spLMx K) := by
  have GD : FnOk P w K mg base CX0 2 fD fdD ["script", "at", "count", "bound"] (spDraws K) := ok_draws FD T FC bC gC
  refine F.ok scLMx (fun vs H Q E h => ?_) (fun cdv A outer s H vs Q E hr h => ?_)
  · obtain ⟨a, ns, k, h, w, rfl, _⟩ := h
    rfl
  · obtain ⟨a, ns, kk, h, w, rfl, hS, hk, hh, hw, k⟩ := h
    have h2 := hr.mono (show 2 ≤ 42 by decide)
    refine ⟨_, pss_cons (ps_set (i := 4) scLMx.nd rfl (Or.inl rfl) (pe_call GD h2 (by rfl) gD FD.kp bD .nil pass0 (pa_cons (pv 0) (pa_cons (pv 1) (pa_cons (pe_op op_add (pe_op op_mul (pe_op op_mul pe_int (pv 2)) (pv 3)) pe_int) (pa_cons pe_int pa_nil))))))
      (pss_cons (ps_set (i := 5) scLMx.nd rfl (Or.inl rfl) (pe_lst pa_nil))
      (pss_cons (ps_for PassesOwn.never rfl (pi_range1 (by rfl) T.range (pa_cons (pv 2) pa_nil)) (pg_name (i := 6) scLMx.nd rfl (Or.inl rfl))
        (pss_cons (ps_set (i := 7) scLMx.nd rfl (Or.inl rfl) (pe_lst pa_nil))
        (pss_cons (ps_for PassesOwn.never rfl (pi_range1 (by rfl) T.range (pa_cons (pv 3) pa_nil)) (pg_name (i := 8) scLMx.nd rfl (Or.inl rfl))
          (pss_cons (ps_set (i := 9) scLMx.nd rfl (Or.inl rfl) (pe_ix ix_list (pv 4) (pe_op op_add pe_int (pe_op op_mul pe_int (pe_op op_add (pe_op op_mul (pv 6) (pv 3)) (pv 8)))) fun _ _ => rfl))
          (pss_cons (ps_set (i := 10) scLMx.nd rfl (Or.inl rfl) (pe_ix ix_list (pv 4) (pe_op op_add pe_int (pe_op op_mul pe_int (pe_op op_add (pe_op op_mul (pv 6) (pv 3)) (pv 8)))) fun _ _ => rfl))
          (C8.pss_cut (ps_if (pt_cmpR op_eq (pe_op op_modN (pe_op op_add (pv 9) (pe_ix ix_list (pv 4) pe_int fun _ _ => rfl)) pe_int) pe_int (nomark _)) (pss_one (ps_set (i := 9) scLMx.nd rfl (Or.inl rfl) pe_int)) pss_nil)
          (pss_one (ps_expr (pe_bm PySem.F.plainAttrs_list PySem.F.slot_list_append PySem.F.type_list_append mt_append (pv 7) (pa_cons (pe_call GS hr (by rfl) gS kS bS .nil pass0 (pa_cons (pv 9) (pa_cons (pv 10) pa_nil))) pa_nil))))))))
        (pss_one (ps_expr (pe_bm PySem.F.plainAttrs_list PySem.F.slot_list_append PySem.F.type_list_append mt_append (pv 5) (pa_cons (pe_callTy call_tuple_of (by rfl) TM.tuple (by decide +kernel) (pa_cons (pv 7) pa_nil)) pa_nil)))))))
      (C8.pss_cut (ps_if (PW.pt (pw_and (pt_cmpR op_gt (pv 2) pe_int (nomark _)) (pw_and1 (pt_cmpR op_eq (pe_op op_modN (pe_ix ix_list (pv 4) pe_int fun _ _ => rfl) pe_int) pe_int (nomark _))))) (pss_one (ps_asg (pe_ix ix_list (pv 5) pe_int fun _ _ => rfl) (pg_sub (pv 5) (pe_op op_sub (pv 2) pe_int) set_list))) pss_nil)
      (pss_one (ps_ret (pe_callTy call_tuple_of (by rfl) TM.tuple (by decide +kernel) (pa_cons (pv 5) pa_nil))))))), ?_⟩
    have hhw : 2 * h * w + 2 ≤ 52 := by
      have : 2 * h * w ≤ 10 * 5 := Nat.mul_le_mul (by omega) hw
      omega
    refine ⟨_, rfl, _, rfl, _, rfl, _, _, rfl, rfl, .inl ⟨by decide, by decide⟩, _, rfl, _, _, rfl, rfl, .inl ⟨by omega, by omega⟩, _, _, rfl, rfl, a, ns, kk, 2 * h * w + 2, 95, rfl, hS, hk, by omega, by decide, by decide, fun ds H1 l hR s1 hln hl => ?_⟩
    have dat : ∀ i, i < 2 * h * w + 2 → ∃ x, ds[i]? = some x := fun i hi => ⟨_, List.getElem?_eq_getElem (by rw [hR.1]; exact hi)⟩
    refine ⟨Nat.zero_le _, fun O hO => ?_⟩
    refine ⟨_, rfl, (h : Int), rfl, by omega, by omega, for_range (lo := 0) (n := h) (fun i σ H' => ∃ (rs : List (List Q2)) (v6 v7 v8 v9 v10 : Option V), σ = [some (.ref a), some (.int (kk : Int)), some (.int (h : Int)), some (.int (w : Int)), some (.ref l), some (.ref O), v6, v7, v8, v9, v10] ∧ Col (Tp PairQ) O H1 H' rs ∧ rs.length = i ∧ SmR w rs)
      ⟨[], none, none, none, none, none, rfl, Col.start hO, rfl, fun r hr => nomatch hr⟩ ?_ ?_⟩
    · rintro i σ H' hi ⟨rs, v6, v7, v8, v9, v10, rfl, z, hrl, hsm⟩
      rw [Int.zero_add]
      refine ⟨Nat.zero_le _, fun Ln hLn => ?_⟩
      refine ⟨_, rfl, (w : Int), rfl, by omega, by omega, for_range (lo := 0) (n := w) (fun j σ H3 => ∃ (qs : List Q2) (v8 v9 v10 : Option V), σ = [some (.ref a), some (.int (kk : Int)), some (.int (h : Int)), some (.int (w : Int)), some (.ref l), some (.ref O), some (.int (i : Int)), some (.ref Ln), v8, v9, v10] ∧ Col PairQ Ln H' H3 qs ∧ qs.length = j ∧ ∀ q ∈ qs, Sm q)
        ⟨[], v8, v9, v10, rfl, Col.start hLn, rfl, fun q hq => nomatch hq⟩ ?_ ?_⟩
      · rintro j σ H3 hj ⟨qs, v8, v9, v10, rfl, y, hql, hqs⟩
        rw [Int.zero_add]
        have hix := ix_lt hi hj
        have e2 : 2 * h * w = 2 * (h * w) := Nat.mul_assoc ..
        obtain ⟨x1, hx1⟩ := dat (2 + 2 * (i * w + j)) (by omega)
        obtain ⟨x2, hx2⟩ := dat (3 + 2 * (i * w + j)) (by omega)
        obtain ⟨x0, hx0⟩ := dat 0 (by omega)
        have hl3 := y.s _ _ (z.s _ _ hl)
        refine ⟨_, rfl, _, rfl, _, rfl, _, _, rfl, rfl, .inl ⟨by omega, by omega⟩, _, rfl, _, _, rfl, rfl, _, _, rfl, rfl, .inl ⟨by decide, by decide⟩, _, _, rfl, rfl, l, _, _, _, rfl, rfl, SqL.of hl3, row_at (k := 2 + 2 * (i * w + j)) hx1, ?_⟩
        refine ⟨_, rfl, _, rfl, _, rfl, _, _, rfl, rfl, .inl ⟨by omega, by omega⟩, _, rfl, _, _, rfl, rfl, _, _, rfl, rfl, .inl ⟨by decide, by decide⟩, _, _, rfl, rfl, l, _, _, _, rfl, rfl, SqL.of hl3, row_at (k := 3 + 2 * (i * w + j)) hx2, ?_⟩
        refine ⟨fun σ' H4 => H4 = H3 ∧ ∃ n : Int, σ' = [some (.ref a), some (.int (kk : Int)), some (.int (h : Int)), some (.int (w : Int)), some (.ref l), some (.ref O), some (.int (i : Int)), some (.ref Ln), some (.int (j : Int)), some (.int n), some (.int x2)], ?_, ?_⟩
        · refine ⟨_, rfl, _, rfl, l, _, _, _, rfl, rfl, SqL.of hl3, row_at (k := 0) hx0, _, _, rfl, rfl, _, _, rfl, rfl, (by show (3 : Int) ≠ 0; decide), rfl, _, rfl, ite2 (fun _ => ?_) (fun _ => ?_)⟩
          · exact ⟨rfl, _, rfl⟩
          · exact ⟨rfl, _, rfl⟩
        · rintro σ' H4 ⟨rfl, n, rfl⟩
          refine ⟨_, rfl, .inl ⟨rfl, _, SqL.of y.at_.choose_spec.1⟩, _, rfl, _, rfl, n, x2, rfl, fun H5 t s5 ht => ?_⟩
          obtain ⟨acc, k1, k2, k3⟩ := y.push (PairQ.stb.x Ln) hLn s5 ht (by omega)
          refine ⟨Ln, _, _, rfl, rfl, k1, k2, qs ++ [smq n x2], _, _, _, rfl, k3, by rw [List.length_append, hql]; rfl, fun q hq => ?_⟩
          rcases List.mem_append.mp hq with h | h
          · exact hqs q h
          · rw [List.mem_singleton.mp h]
            exact sm_mk n x2
      · rintro σ H3 ⟨qs, v8, v9, v10, rfl, y, hql, hqs⟩
        obtain ⟨pq, e1, e2⟩ := y.at_
        have z3 := z.same VecP.stb y.s
        refine ⟨_, rfl, .inl ⟨rfl, _, SqL.of z3.at_.choose_spec.1⟩, _, rfl, Ln, _, rfl, .inl ⟨SqL.of e1, fun t ht => ?_⟩⟩
        obtain ⟨acc, k1, k2, k3⟩ := z3.push (VecP.stb.x O) hO (same_upd ht) ⟨pq, upd_same, Paired.imp (fun _ _ f => PairQ.stb.same (same_upd ht) f) e2⟩ (by omega)
        refine ⟨O, _, _, rfl, rfl, k1, k2, rs ++ [qs], _, _, _, _, _, rfl, k3, by rw [List.length_append, hrl]; rfl, fun r hr => ?_⟩
        rcases List.mem_append.mp hr with h | h
        · exact hsm r h
        · rw [List.mem_singleton.mp h]
          exact ⟨hql, hqs⟩
    · rintro σ H' ⟨rs, v6, v7, v8, v9, v10, rfl, z, hrl, hsm⟩
      obtain ⟨x1, hx1⟩ := dat 1 (by omega)
      refine ⟨fun σ' H2 => ∃ rs2 : List (List Q2), σ' = [some (.ref a), some (.int (kk : Int)), some (.int (h : Int)), some (.int (w : Int)), some (.ref l), some (.ref O), v6, v7, v8, v9, v10] ∧ Col (Tp PairQ) O H1 H2 rs2 ∧ rs2.length = h ∧ SmR w rs2, ?_, ?_⟩
      · refine ⟨_, rfl, _, _, rfl, rfl, _, rfl, ite2 (fun c => ?_) (fun _ => ⟨rs, rfl, z, hrl, hsm⟩)⟩
        have hh1 : (1 : Int) < (h : Int) := of_decide_eq_true c
        refine ⟨_, rfl, l, _, _, _, rfl, rfl, SqL.of (z.s _ _ hl), row_at (k := 1) hx1, _, _, rfl, rfl, (by show (3 : Int) ≠ 0; decide), rfl, _, rfl, ite2 (fun _ => ?_) (fun _ => ⟨rs, rfl, z, hrl, hsm⟩)⟩
        obtain ⟨r0, hr0⟩ : ∃ r0, rs[0]? = some r0 := ⟨_, List.getElem?_eq_getElem (by omega)⟩
        obtain ⟨p0, u0, e0, g0, f0⟩ := ls_at z.at_ hr0
        obtain ⟨vs, k1, k2, k3⟩ := z.put (VecP.stb.x O) hO same_rfl f0
        refine ⟨_, rfl, O, _, _, _, rfl, rfl, SqL.of e0, atI_of (k := 0) g0, ?_⟩
        refine ⟨_, rfl, _, rfl, _, _, rfl, rfl, O, vs, (h : Int) - 1, h - 1, rfl, rfl, k1, ?_, rs.set (h - 1) r0, rfl, k3 (h - 1), by rw [List.length_set, hrl], fun r hr => ?_⟩
        · have := ixN_of (n := vs.length) (k := h - 1) (by omega)
          rw [← this]
          congr 1
          omega
        · rcases List.mem_or_eq_of_mem_set hr with z1 | z1
          · exact hsm r z1
          · rw [z1]
            exact hsm r0 (List.mem_of_getElem? hr0)
      · rintro σ' H2 ⟨rs2, rfl, z2, hl2, hs2⟩
        obtain ⟨pq, e1, e2⟩ := z2.at_
        exact ⟨_, rfl, O, _, rfl, .inl ⟨SqL.of e1, fun t ht => k _ t rs2 (s1.trans (z2.s.trans (same_upd ht))) ⟨pq, upd_same, Paired.imp (fun _ _ f => VecP.stb.same (same_upd ht) f) e2⟩ hl2 hs2⟩⟩
end
end Ind

set_option Elab.async false
set_option linter.all false
set_option maxRecDepth 100000
set_option maxHeartbeats 4000000
set_option exponentiation.threshold 9000
namespace Ind
open PySem PySem.Spec PyProof.Rows L2
open Builtin.Int (intBits)
/-! ### what the law asks, over rows of numbers -/
theorem sm_row {r : List Q2} (h : ∀ q ∈ r, Sm q) (hl : r.length ≤ 100) : RowOk 4 6 r := ⟨fun q hq => (h q hq).lo, fun q hq => (h q hq).bq, hl, 60, by decide, by decide, fun q hq => (h q hq).dv⟩
theorem grow_le {b c k l : Nat} (h1 : b ≤ c) (h2 : k ≤ l) : grow b k ≤ grow c l := by
  refine Nat.le_trans (grow_mono b h2) ?_
  unfold grow
  have : (b + 1) * 2 ^ l ≤ (c + 1) * 2 ^ l := Nat.mul_le_mul_right _ (by omega)
  omega
theorem sm_mat {w : Nat} {rs : List (List Q2)} (h : SmR w rs) (hl : rs.length ≤ 4) (hw : w ≤ 4) : MatOk 4 6 w rs := by
  refine ⟨fun r hr => ⟨(h r hr).1, sm_row (h r hr).2 (by rw [(h r hr).1]; omega)⟩, by omega, by omega, by decide, by decide, ?_⟩
  exact Nat.le_trans (grow_le (Nat.le_refl _) hl) (show grow 10 4 ≤ 8000 by decide)
theorem lo_getD {qs : List Q2} (h : ∀ q ∈ qs, Lo q) (j : Nat) : Lo (qs.getD j q0) := by
  cases e : qs[j]? with
  | none =>
    rw [List.getD_eq_getElem?_getD, e]
    exact lo_q0
  | some q =>
    rw [getD_q e]
    exact h q (List.mem_of_getElem? e)
theorem rv_zero {q : Q2} (h : Lo q) (e : rv q = 0) : q = q0 := lo_eq h lo_q0 (by rw [e, rv_q0])
theorem vec_eq {w : Nat} {as bs : List Q2} (h1 : as.length = w) (h2 : bs.length = w) (l1 : ∀ q ∈ as, Lo q) (l2 : ∀ q ∈ bs, Lo q) (e : ∀ j, j < w → rowF as j = rowF bs j) : as = bs := by
  refine List.ext_getElem (by omega) fun j i1 i2 => ?_
  have := e j (by omega)
  unfold rowF at this
  rw [getD_q (List.getElem?_eq_getElem i1), getD_q (List.getElem?_eq_getElem i2)] at this
  exact lo_eq (l1 _ (List.getElem_mem i1)) (l2 _ (List.getElem_mem i2)) this
theorem zip_at {pz : List Nat} {rs : List (List Q2)} {i k : Nat} {r : List Q2} (h1 : pz[i]? = some k) (h2 : rs[i]? = some r) : (pz.zip (rs.map rowF))[i]? = some (k, rowF r) := by
  rw [List.getElem?_zip_eq_some]
  exact ⟨h1, by rw [List.getElem?_map, h2]; rfl⟩
theorem pw_lt {L : List (Nat × Fr)} (h : L.Pairwise fun x y => x.1 < y.1) {i j : Nat} {x y : Nat × Fr} (hx : L[i]? = some x) (hy : L[j]? = some y) (hij : i < j) : x.1 < y.1 := by
  have hi := (List.getElem?_eq_some_iff.mp hx)
  have hj := (List.getElem?_eq_some_iff.mp hy)
  obtain ⟨i1, ex⟩ := hi
  obtain ⟨j1, ey⟩ := hj
  have := List.pairwise_iff_getElem.mp h i j i1 j1 hij
  rw [ex, ey] at this
  exact this
theorem red_is {b w : Nat} {rs rs2 : List (List Q2)} {pz : List Nat} (h : RedQ b w rs rs2 pz) : IsRed w rs2 pz := by
  have lo : ∀ r ∈ rs2, ∀ q ∈ r, Lo q := fun r hr q hq => ((h.row r hr).2 q hq).1
  have some_row : ∀ {i k : Nat}, pz[i]? = some k → ∃ r, rs2[i]? = some r := fun {i k} e => by
    have := (List.getElem?_eq_some_iff.mp e).1
    exact ⟨_, List.getElem?_eq_getElem (by rw [← h.len]; exact this)⟩
  have some_piv : ∀ {i : Nat} {r : List Q2}, rs2[i]? = some r → ∃ k, pz[i]? = some k := fun {i r} e => by
    have := (List.getElem?_eq_some_iff.mp e).1
    exact ⟨_, List.getElem?_eq_getElem (by rw [h.len]; exact this)⟩
  refine ⟨h.len, fun r hr => ⟨(h.row r hr).1, lo r hr⟩, fun i k r hk hr => ?_, fun i k i' r' hk hr' ne => ?_, fun i k k' hk hk' => ?_⟩
  · have hz := List.mem_of_getElem? (zip_at hk hr)
    have hm := List.mem_of_getElem? hr
    refine ⟨h.red.lt _ hz, ?_, fun j hj => ?_⟩
    · have : rowF r k = 1 := h.red.one _ hz
      exact lo_eq (lo_getD (lo r hm) k) ⟨by decide, by decide⟩ (by rw [rv_q1]; exact this)
    · have : rowF r j = 0 := h.red.led _ hz j hj
      rw [rv_zero (lo_getD (lo r hm) j) this]
  · obtain ⟨k', hk'⟩ := some_piv hr'
    obtain ⟨r, hr⟩ := some_row hk
    have z1 := zip_at hk' hr'
    have z2 := zip_at hk hr
    have hkk : k' ≠ k := by
      rcases Nat.lt_or_gt_of_ne ne with c | c
      · exact Nat.ne_of_lt (pw_lt h.red.inc z1 z2 c)
      · exact Nat.ne_of_gt (pw_lt h.red.inc z2 z1 c)
    have : rowF r' k = 0 := h.red.off _ (List.mem_of_getElem? z1) _ (List.mem_of_getElem? z2) hkk
    rw [rv_zero (lo_getD (lo r' (List.mem_of_getElem? hr')) k) this]
  · obtain ⟨r, hr⟩ := some_row hk
    obtain ⟨r', hr'⟩ := some_row hk'
    exact pw_lt h.red.inc (zip_at hk hr) (zip_at hk' hr') (Nat.lt_succ_self i)
theorem left_zero {b w : Nat} {rs rs2 : List (List Q2)} {pz : List Nat} (h : RedQ b w rs rs2 pz) {r qs : List Q2} (hr : r ∈ rs) (hl : qs.length = w) (hlo : ∀ q ∈ qs, Lo q) (e : ∀ j, j < w → rowF qs j = redF (pz.zip (rs2.map rowF)) (rowF r) j) : qs = List.replicate w q0 := by
  refine vec_eq hl (List.length_replicate ..) hlo (fun q hq => by rw [(List.mem_replicate.mp hq).2]; exact lo_q0) fun j hj => ?_
  have h1 := Red.comb h.red (List.mem_map_of_mem (f := rowF) hr) hj
  rw [e j hj, redF_comb h.red.inc h.red.off, ← h1]
  have h2 : rowF (List.replicate w q0) j = 0 := by
    unfold rowF
    rw [List.getD_eq_getElem?_getD, List.getElem?_replicate, if_pos hj]
    exact rv_q0
  rw [h2]
  grind
theorem trans_len (rs : List (List Q2)) (w : Nat) : (transQ rs w).length = w := by
  unfold transQ
  rw [List.length_map, List.length_range]
theorem trans_at {rs : List (List Q2)} {w i : Nat} (h : i < w) : (transQ rs w)[i]? = some (rs.map fun r => r.getD i q0) := by
  unfold transQ
  rw [List.getElem?_map, List.getElem?_range h]
  rfl
theorem trans_row {rs : List (List Q2)} {w : Nat} : ∀ c ∈ transQ rs w, c.length = rs.length := fun c hc => by
  obtain ⟨i, _, rfl⟩ := List.mem_map.mp hc
  rw [List.length_map]
theorem trans_trans {rs : List (List Q2)} {w : Nat} (h : ∀ r ∈ rs, r.length = w) : transQ (transQ rs w) rs.length = rs := by
  refine List.ext_getElem? fun i => ?_
  by_cases hi : i < rs.length
  · rw [trans_at hi, List.getElem?_eq_getElem hi]
    congr 1
    refine List.ext_getElem? fun j => ?_
    have hr := h rs[i] (List.getElem_mem hi)
    rw [List.getElem?_map]
    by_cases hj : j < w
    · rw [trans_at hj, List.getElem?_eq_getElem (by omega : j < rs[i].length)]
      show some ((rs.map fun r => r.getD j q0).getD i q0) = _
      rw [List.getD_eq_getElem?_getD, List.getElem?_map, List.getElem?_eq_getElem hi]
      show some (rs[i].getD j q0) = _
      rw [List.getD_eq_getElem?_getD, List.getElem?_eq_getElem (by omega : j < rs[i].length)]
      rfl
    · rw [List.getElem?_eq_none (by rw [trans_len]; omega), List.getElem?_eq_none (by omega)]
      rfl
  · rw [List.getElem?_eq_none (by rw [trans_len]; omega), List.getElem?_eq_none (by omega)]
theorem col_rowF {rs : List (List Q2)} {i k : Nat} (h : k < rs.length) : rowF (rs.map fun r => r.getD i q0) k = rowF (rs.getD k []) i := by
  unfold rowF
  rw [List.getD_eq_getElem?_getD, List.getElem?_map, List.getD_eq_getElem?_getD (l := rs) (i := k), List.getElem?_eq_getElem h]
  rfl
theorem sm_trans {rs : List (List Q2)} {w : Nat} (h : SmR w rs) : SmR rs.length (transQ rs w) := by
  intro c hc
  refine ⟨trans_row c hc, fun q hq => ?_⟩
  unfold transQ at hc
  obtain ⟨i, hi, rfl⟩ := List.mem_map.mp hc
  obtain ⟨r, hr, rfl⟩ := List.mem_map.mp hq
  have hr2 := h r hr
  have : i < r.length := by
    rw [hr2.1]
    exact List.mem_range.mp hi
  rw [getD_q (List.getElem?_eq_getElem this)]
  exact hr2.2 _ (List.getElem_mem this)
/-- a line of the reduced rows is a combination of the given ones -/
theorem line_solv {b w : Nat} {rs rs2 : List (List Q2)} {pz : List Nat} (h : RedQ b w rs rs2 pz) {line : List Q2} (hm : line ∈ rs2) : ∃ u : Fr, Solv rs.length (transQ rs w) line u := by
  obtain ⟨i, hi, e⟩ := List.getElem_of_mem hm
  obtain ⟨k, hk⟩ : ∃ k, pz[i]? = some k := ⟨_, List.getElem?_eq_getElem (by rw [h.len]; exact hi)⟩
  have hz := List.mem_of_getElem? (zip_at hk (show rs2[i]? = some line by rw [List.getElem?_eq_getElem hi, e]))
  obtain ⟨u, hu⟩ := (h.red.spn _ hz).weights
  refine ⟨u, fun j c q hc hq => ?_⟩
  have hj : j < w := by
    have := (List.getElem?_eq_some_iff.mp hc).1
    rw [trans_len] at this
    exact this
  rw [trans_at hj] at hc
  have hc := Option.some.inj hc
  have h1 := hu j
  have h2 : rowF line j = rv q := by
    unfold rowF
    rw [getD_q hq]
  rw [← h2]
  have h1 : rowF line j = sumTo (rs.map rowF).length fun i => u i * ((rs.map rowF).getD i fun _ => 0) j := h1
  rw [h1, List.length_map]
  refine sumTo_congr fun i hi => ?_
  rw [← hc, col_rowF hi]
  have : (rs.map rowF).getD i (fun _ => 0) = rowF (rs.getD i []) := by
    rw [List.getD_eq_getElem?_getD, List.getElem?_map, List.getD_eq_getElem?_getD, List.getElem?_eq_getElem hi]
    rfl
  rw [this]
  grind
theorem line_comb {w : Nat} {rs : List (List Q2)} {line xs qs : List Q2} (hw : line.length = w) (hq : qs.length = w) (hs : Solv rs.length (transQ rs w) line (rowF xs)) (l1 : ∀ q ∈ line, Lo q) (l2 : ∀ q ∈ qs, Lo q)
    (e : ∀ j, j < w → rowF qs j = sumTo rs.length fun k => rowF xs k * rowF (rs.getD k []) j) : qs = line := by
  refine vec_eq hq hw l2 l1 fun j hj => ?_
  have := hs j _ line[j] (trans_at hj) (List.getElem?_eq_getElem (by omega))
  rw [e j hj]
  have h2 : rowF line j = rv line[j] := by
    unfold rowF
    rw [getD_q (List.getElem?_eq_getElem (by omega))]
  rw [h2, ← this]
  refine sumTo_congr fun k hk => ?_
  rw [col_rowF hk]
  grind
/-- the columns beside a line -/
theorem aug_ok {b w : Nat} {rs : List (List Q2)} {line : List Q2} (h : SmR w rs) (hl : rs.length ≤ 4) (hw : w ≤ 4) (hlw : line.length = w) (lo : ∀ q ∈ line, Lo q ∧ Bq b q) (h4 : 4 ≤ b) (hb : b ≤ 175) : MatOk b (6 + b) (rs.length + 1) (aug (transQ rs w) line) := by
  have ht := sm_trans h
  have la : (aug (transQ rs w) line).length = w := by rw [aug_len (by rw [trans_len, hlw]), trans_len]
  refine ⟨fun g hg => ?_, by omega, by omega, by omega, by omega, ?_⟩
  · obtain ⟨i, c, q, hc, hq, rfl⟩ := aug_mem hg
    have hcm := ht c (List.mem_of_getElem? hc)
    have hql := lo q (List.mem_of_getElem? hq)
    refine ⟨by rw [List.length_append, hcm.1]; rfl, fun x hx => ?_, fun x hx => ?_, ?_, 60 * q.2, ?_, PySem.intBits_mul_le (by decide) hql.2.2, fun x hx => ?_⟩
    · rcases List.mem_append.mp hx with z | z
      · exact (hcm.2 x z).lo
      · rw [List.mem_singleton.mp z]
        exact hql.1
    · rcases List.mem_append.mp hx with z | z
      · exact (hcm.2 x z).bq.mono h4
      · rw [List.mem_singleton.mp z]
        exact hql.2
    · rw [List.length_append, hcm.1]
      show rs.length + 1 ≤ 100
      omega
    · have := hql.1.pos
      omega
    · rcases List.mem_append.mp hx with z | z
      · exact Int.dvd_trans (hcm.2 x z).dv ⟨q.2, rfl⟩
      · rw [List.mem_singleton.mp z]
        exact ⟨60, Int.mul_comm _ _⟩
  · rw [la]
    exact Nat.le_trans (grow_le (show b + (6 + b) ≤ 356 by omega) hw) (show grow 356 4 ≤ 8000 by decide)
theorem paired_eq {g : List Q2 → Rat} : ∀ {rs : List (List Q2)} {as bs : List Q2}, Paired (fun r q => Lo q ∧ rv q = g r) rs as → Paired (fun r q => Lo q ∧ rv q = g r) rs bs → as = bs
  | _, _, _, .nil, .nil => rfl
  | _, _, _, .cons a t, .cons b u => by rw [lo_eq a.1 b.1 (a.2.trans b.2.symm), paired_eq t u]
/-- a drawn vector -/
def drq (x1 x2 : Int) (i : Nat) : List Q2 := (List.range i).map fun j : Nat => smq (x1 + 2 * (j : Int)) (x2 + (j : Int))
theorem drq_succ (x1 x2 : Int) (i : Nat) : drq x1 x2 (i + 1) = drq x1 x2 i ++ [smq (x1 + 2 * (i : Int)) (x2 + (i : Int))] := by
  unfold drq
  rw [List.range_succ, List.map_append]
  rfl
theorem drq_len (x1 x2 : Int) (i : Nat) : (drq x1 x2 i).length = i := by
  unfold drq
  rw [List.length_map, List.length_range]
theorem drq_sm (x1 x2 : Int) (i : Nat) : ∀ q ∈ drq x1 x2 i, Sm q := fun q hq => by
  obtain ⟨j, _, rfl⟩ := List.mem_map.mp hq
  exact sm_mk _ _
/-- tuple + tuple, both tracked -/
def rCatX : R2 := fun x y H Q => ∃ a b xs ys, x = .ref a ∧ y = .ref b ∧ H a = some (.tup xs) ∧ H b = some (.tup ys) ∧ xs.length + ys.length ≤ sizeLine ∧ ∀ p H', H' p = some (.tup (xs ++ ys)) → Same H H' → Q (.ref p) H'
theorem op_catX {X : Cx} : OpR X (binaryOp .Add) rCatX := by
  intro pins s σ H x y v u Q I rx ry h
  obtain ⟨a, b, xs, ys, rfl, rfl, ha, hb, hl, q⟩ := h
  refine op_catA pins s σ H _ _ v u Q I rx ry ⟨a, b, xs, ys, rfl, rfl, SqT.of ha, SqT.of hb, hl, fun e => ?_, fun _ e => ?_, fun _ _ p hp => ?_⟩
  · subst e
    exact q b H hb same_rfl
  · subst e
    exact q a H (by rw [List.append_nil]; exact ha) same_rfl
  · exact q p _ upd_same (same_upd hp)
end Ind

set_option Elab.async false
set_option linter.all false
set_option maxRecDepth 100000
set_option maxHeartbeats 4000000
set_option exponentiation.threshold 9000
namespace Ind
open PySem PySem.Spec PyProof.Rows L2
open Builtin.Int (intBits)
def unitQ (c n : Nat) : List Q2 := (List.range n).map fun k => if k = c then (1, 1) else q0
theorem unit_len (c n : Nat) : (unitQ c n).length = n := by
  unfold unitQ
  rw [List.length_map, List.length_range]
theorem unit_get {c n j : Nat} (h : j < n) : (unitQ c n)[j]? = some (if j = c then (1, 1) else q0) := by
  unfold unitQ
  rw [List.getElem?_map, List.getElem?_range h]
  rfl
theorem unit_all {F : Q2 → Prop} (h1 : F (1, 1)) (h0 : F q0) (c n : Nat) : ∀ q ∈ unitQ c n, F q := fun q hq => by
  unfold unitQ at hq
  obtain ⟨k, _, rfl⟩ := List.mem_map.mp hq
  show F (if k = c then (1, 1) else q0)
  split
  · exact h1
  · exact h0
/-- the columns and the right side, as rows -/
def colsQ (w : Nat) (rs : List (List Q2)) (bs : List Q2) : List (List Q2) := transQ rs w ++ [bs]
theorem cols_len (w : Nat) (rs : List (List Q2)) (bs : List Q2) : (colsQ w rs bs).length = w + 1 := by
  unfold colsQ
  rw [List.length_append, trans_len]
  rfl
theorem cols_in {w : Nat} {rs : List (List Q2)} {bs : List Q2} {j : Nat} (h : j < w) : (colsQ w rs bs)[j]? = some (rs.map fun r => r.getD j q0) := by
  unfold colsQ
  rw [List.getElem?_append_left (by rw [trans_len]; exact h), trans_at h]
theorem cols_last {w : Nat} {rs : List (List Q2)} {bs : List Q2} : (colsQ w rs bs)[w]? = some bs := by
  unfold colsQ
  rw [List.getElem?_append_right (by rw [trans_len]; exact Nat.le_refl _), trans_len, Nat.sub_self]
  rfl
theorem cols_row {w : Nat} {rs : List (List Q2)} {bs : List Q2} (h : bs.length = rs.length) : ∀ r ∈ colsQ w rs bs, r.length = rs.length := fun r hr => by
  rcases List.mem_append.mp hr with z | z
  · exact trans_row r z
  · rw [List.mem_singleton.mp z, h]
/-- what the combination is -/
structure NoneBy (w : Nat) (rs : List (List Q2)) (bs : List Q2) (u : Fr) : Prop where
  row : ∀ j, j < w → sumTo rs.length (fun k => u k * rowF (rs.getD k []) j) = 0
  rgt : sumTo rs.length (fun k => u k * rowF bs k) = 1
theorem none_cols {w : Nat} {rs : List (List Q2)} {bs : List Q2} {u : Fr} : NoneBy w rs bs u ↔ Solv rs.length (colsQ w rs bs) (unitQ w (w + 1)) u := by
  constructor
  · intro h j c q hc hq
    have hj : j < w + 1 := by
      have := (List.getElem?_eq_some_iff.mp hc).1
      rw [cols_len] at this
      exact this
    rw [unit_get hj] at hq
    have hq := Option.some.inj hq
    by_cases e : j = w
    · subst e
      rw [cols_last] at hc
      have hc := Option.some.inj hc
      rw [← hc, ← hq, if_pos rfl, rv_q1, ← h.rgt]
      exact sumTo_congr fun k _ => by grind
    · rw [cols_in (by omega)] at hc
      have hc := Option.some.inj hc
      rw [← hc, ← hq, if_neg e, rv_q0, ← h.row j (by omega)]
      exact sumTo_congr fun k hk => by rw [col_rowF hk]; grind
  · intro h
    refine ⟨fun j hj => ?_, ?_⟩
    · have := h j _ _ (cols_in hj) (unit_get (by omega))
      rw [if_neg (by omega), rv_q0] at this
      rw [← this]
      exact sumTo_congr fun k hk => by rw [col_rowF hk]; grind
    · have := h w _ _ cols_last (unit_get (by omega))
      rw [if_pos rfl, rv_q1] at this
      rw [← this]
      exact sumTo_congr fun k _ => by grind
/-- from a pivot in the last column -/
theorem none_of {w b : Nat} {rs rs2 : List (List Q2)} {bs : List Q2} {pv : List Nat} (hw : ∀ r ∈ rs, r.length = w) (hl : bs.length = rs.length) (h : RedQ b (w + 1) (aug rs bs) rs2 pv) {x : Nat × List Q2} (hx : x ∈ pv.zip rs2) (e : x.1 = w) : ∃ u, NoneBy w rs bs u := by
  have hz := zip_rowF hx
  obtain ⟨u, hu⟩ := (h.red.spn _ hz).weights
  have la : ((aug rs bs).map rowF).length = rs.length := by rw [List.length_map, aug_len hl]
  have key : ∀ {k : Nat}, k < rs.length → ∀ j, j ≤ w → (((aug rs bs).map rowF).getD k fun _ => 0) j = if j < w then rowF (rs.getD k []) j else rowF bs k := fun {k} hk j hj => by
    have e1 : rs[k]? = some rs[k] := List.getElem?_eq_getElem hk
    have e2 : bs[k]? = some bs[k] := List.getElem?_eq_getElem (by omega)
    have hr := hw rs[k] (List.getElem_mem hk)
    rw [List.getD_eq_getElem?_getD, List.getElem?_map, aug_at e1 e2, List.getD_eq_getElem?_getD, e1]
    show rowF (rs[k] ++ [bs[k]]) j = if j < w then rowF rs[k] j else rowF bs k
    by_cases c : j < w
    · rw [if_pos c, rowF_in (by omega)]
    · rw [if_neg c, show j = rs[k].length by omega, rowF_last]
      unfold rowF
      rw [getD_q e2]
  refine ⟨u, fun j hj => ?_, ?_⟩
  · have h0 : rowF x.2 j = 0 := h.red.led _ hz j (by show j < x.1; omega)
    have h1 := hu j
    have h1 : rowF x.2 j = _ := h1
    rw [h0, la] at h1
    rw [h1]
    exact sumTo_congr fun k hk => by rw [key hk j (by omega), if_pos hj]
  · have h0 : rowF x.2 x.1 = 1 := h.red.one _ hz
    have h1 := hu w
    have h1 : rowF x.2 w = _ := h1
    rw [← e, h0, e, la] at h1
    rw [h1]
    exact sumTo_congr fun k hk => by rw [key hk w (Nat.le_refl _), if_neg (Nat.lt_irrefl w)]
/-- not both -/
theorem not_both {w : Nat} {rs : List (List Q2)} {bs : List Q2} {x u : Fr} (hl : bs.length = rs.length) (h : Solv w rs bs x) (n : NoneBy w rs bs u) : False := by
  have e1 : sumTo rs.length (fun k => u k * rowF bs k) = sumTo rs.length fun k => sumTo w fun j => u k * (rowF (rs.getD k []) j * x j) := sumTo_congr fun k hk => by
    have a : rs[k]? = some rs[k] := List.getElem?_eq_getElem hk
    have b : bs[k]? = some bs[k] := List.getElem?_eq_getElem (by omega)
    have := h k _ _ a b
    rw [sumTo_mul]
    congr 1
    rw [List.getD_eq_getElem?_getD, a]
    show rowF bs k = dt w (rowF rs[k]) x
    rw [this]
    unfold rowF
    rw [getD_q b]
  have e2 : sumTo w (fun j => sumTo rs.length fun k => u k * (rowF (rs.getD k []) j * x j)) = sumTo w fun j => 0 := sumTo_congr fun j hj => by
    rw [sumTo_congr (g := fun k => x j * (u k * rowF (rs.getD k []) j)) fun k _ => by grind, sumTo_mul, n.row j hj]
    grind
  have := n.rgt
  rw [e1, sumTo_swap, e2, sumTo_zero] at this
  grind
end Ind

set_option Elab.async false
set_option linter.all false
set_option maxRecDepth 100000
set_option maxHeartbeats 4000000
namespace Ind
open PySem PySem.Spec PyProof.Rows L2
/-! ### zip(l, t), l a list, t a tuple -/
def ItzL (K : PySem.W.Frag) (a b : Addr) : It where
  go := fun i H => ∃ (xs ys : List V) (x y : V), SqL K H a xs ∧ SqT K H b ys ∧ xs[i]? = some x ∧ ys[i]? = some y
  yld := fun i H v H' => ∃ T x y, v = .ref T ∧ H T = none ∧ H' = upd H T (.tup [x, y]) ∧ (∀ xs, SqL K H a xs → xs[i]? = some x) ∧ ∀ ys, SqT K H b ys → ys[i]? = some y
  stop := fun i H => ∃ xs ys : List V, SqL K H a xs ∧ SqT K H b ys ∧ i = min xs.length ys.length
/-- how its cells stand at turn i -/
structure ZlAt (z TI TO i1 i2 a b : Addr) (i : Nat) (h : Heap) : Prop where
  hz : IsZip h z TI TO .none
  hI : IsTupOf2 h TI (.ref i1) (.ref i2)
  hO : ∃ x y, IsTupOf2 h TO x y
  s1 : h.IsListIter i1 a i
  s2 : h.IsTupleIter i2 b i
theorem ZlAt.mem {z TI TO i1 i2 a b : Addr} {i : Nat} {h : Heap} (st : ZlAt z TI TO i1 i2 a b i h) (c : Addr) (hc : c ∈ [z, TI, TO, i1, i2]) : ∃ o, h.get? c = some o ∧ ∀ v, o.data ≠ .cell v := by
  obtain ⟨hz, hI, ⟨x, y, hO⟩, ⟨o1, e1, _, d1⟩, ⟨o2, e2, _, d2⟩⟩ := st
  simp only [List.mem_cons, List.not_mem_nil, or_false] at hc
  rcases hc with rfl | rfl | rfl | rfl | rfl
  · exact ⟨_, hz, fun v q => (nomatch q)⟩
  · exact ⟨_, hI, fun v q => (nomatch q)⟩
  · exact ⟨_, hO, fun v q => (nomatch q)⟩
  · exact ⟨o1, e1, fun v q => by rw [d1] at q; exact nomatch q⟩
  · exact ⟨o2, e2, fun v q => by rw [d2] at q; exact nomatch q⟩
theorem turn_zipL {P : Program} {w : World} {K : PySem.W.Frag} {elts : List Expr} {kk : Nat} {tpos : Pos} {a b z TI TO i1 i2 : Addr} (D : ZipApart z TI TO i1 i2 a b) :
    Turn P w K (.Tuple elts kk tpos) (ItzL K a b) [z, TI, TO, i1, i2] z (ZlAt z TI TO i1 i2 a b) := by
  refine { mem := by simp, obj := fun i h st c hc => st.mem c hc, keep := ?keep, item := ?item, done := ?done, self := fun A i s Q E st h => wpAny_pyIter_zip st.hz h }
  case keep =>
    rintro i h h' ⟨hz, hI, ⟨x, y, hO⟩, h1, h2⟩ k
    refine ⟨k z (by simp) _ hz, k TI (by simp) _ hI, ⟨x, y, k TO (by simp) _ hO⟩, ?_, ?_⟩
    · exact h1.at fun o q => k i1 (by simp) o q
    · exact h2.at fun o q => k i2 (by simp) o q
  case item =>
    rintro X rfl rfl rfl hc i pins s σ H E I hf st hg
    obtain ⟨hz, hI, ⟨x0, y0, hO⟩, h1, h2⟩ := id st
    obtain ⟨xs, ys, x, y, hqx, hqy, hx, hy⟩ := hg
    obtain ⟨ia, ra, pa, _⟩ := I.list hqx
    obtain ⟨ib, rb, pb, _⟩ := I.tuple hqy
    obtain ⟨u, hu, ru⟩ := ra.get hx
    obtain ⟨v, hv, rw'⟩ := rb.get hy
    have hh : X.A.in1.handled = none := I.ok.hd hc
    have la : i < ia.toArray.size := by
      have := (List.getElem?_eq_some_iff.mp hu).1
      simpa using this
    have lb : i < ib.toArray.size := by
      have := (List.getElem?_eq_some_iff.mp hv).1
      simpa using this
    refine wpAny_pyNext_zipD2_item (zm_sep D) (Draws.list hh i1 a D.l1i1 ia.toArray) (Draws.tuple hh i2 b D.l2i2 ib.toArray) hz hI hO ⟨h1, pa.isList⟩ ⟨h2, pb⟩ la lb ?_
    intro u' v' h' tk e1 e2 z' O' s1' s2' hT hsz hk
    have eu : u' = u := by
      have e1 : ia.toArray[i]? = some u' := e1
      rw [List.getElem?_toArray, hu] at e1
      exact (Option.some.inj e1).symm
    have ev : v' = v := by
      have e2 : ib.toArray[i]? = some v' := e2
      rw [List.getElem?_toArray, hv] at e2
      exact (Option.some.inj e2).symm
    subst eu
    subst ev
    refine ⟨_, rfl, wpAny_letOwnedTupleGo_zip (s := { s with heap := h', toks := tk }) z' fun h2' z2 sb => ?_⟩
    have hzl : z < s.heap.objs.size := Heap.lt_size hz
    have hT2 : IsTupOf2 h2' s.heap.objs.size u' v' := (sb.2 _ (Nat.ne_of_gt hzl)).trans hT
    have new : ObjOk X.prog X.w (upd H s.heap.objs.size (.tup [x, y])) h2' s.heap.objs.size (.tup [x, y]) :=
      ⟨show 2 ≤ sizeLine by decide, [u', v'], .cons ru (.cons rw' .nil), _, hT2, rfl, _, rfl⟩
    have I1 : Inv X pins σ (upd H s.heap.objs.size (.tup [x, y])) { s with heap := h2', toks := tk } := by
      refine I.turnedNew (ch := [z, TI, TO, i1, i2]) (fun c o hb q => ?_) hf (Nat.le_refl _) new
      simp only [List.mem_cons, List.not_mem_nil, or_false, not_or] at hb
      exact (sb.2 c hb.1).trans (hk c o hb.1 hb.2.2.1 hb.2.2.2.1 hb.2.2.2.2 q)
    refine ⟨.ref s.heap.objs.size, _, I1, rfl, ⟨_, x, y, rfl, I.hok.fresh (Nat.le_refl _), rfl, fun l hl => ?_, fun l hl => ?_⟩, ⟨z2, ?_, ⟨u', v', ?_⟩, ?_, ?_⟩, fun c hcm => ?_⟩
    · rw [I.list_inj hl hqx]
      exact hx
    · rw [I.tuple_inj hl hqy]
      exact hy
    · exact (sb.2 _ D.TIz).trans (hk _ _ D.TIz D.TITO D.TIi1 D.TIi2 hI)
    · exact (sb.2 _ D.TOz).trans O'
    · exact s1'.1.at fun o q => (sb.2 _ D.i1z).trans q
    · exact s2'.1.at fun o q => (sb.2 _ D.i2z).trans q
    · obtain ⟨o, ho, _⟩ := st.mem c hcm
      rw [upd_ne (Nat.ne_of_lt (Heap.lt_size ho))]
      exact (hf c hcm).1
  case done =>
    rintro X rfl rfl rfl hc i pins s σ H E I hf st hg
    obtain ⟨hz, hI, ⟨x0, y0, hO⟩, h1, h2⟩ := st
    obtain ⟨xs, ys, hqx, hqy, hend⟩ := hg
    obtain ⟨ia, ra, pa, _⟩ := I.list hqx
    obtain ⟨ib, rb, pb, _⟩ := I.tuple hqy
    have hh : X.A.in1.handled = none := I.ok.hd hc
    have la : ia.toArray.size = xs.length := by rw [List.size_toArray, ← ra.length]
    have lb : ib.toArray.size = ys.length := by rw [List.size_toArray, ← rb.length]
    refine wpAny_pyNext_zipD2_end (zm_sep D) (Draws.list hh i1 a D.l1i1 ia.toArray) (Draws.tuple hh i2 b D.l2i2 ib.toArray) hz hI hO ⟨h1, pa.isList⟩ ⟨h2, pb⟩ (by omega) (by omega) (by omega) ?_
    intro h' tk hk
    refine ⟨rfl, I.turnedL (ch := [z, TI, TO, i1, i2]) (fun c o hb q => ?_) hf⟩
    simp only [List.mem_cons, List.not_mem_nil, or_false, not_or] at hb
    exact hk c o hb.1 hb.2.2.1 hb.2.2.2.1 hb.2.2.2.2 q
def iZipL (K : PySem.W.Frag) (ta : TA) : TI := fun σ H R => ta σ H fun vs H1 => ∃ a b xs ys, vs = [.ref a, .ref b] ∧ SqL K H1 a xs ∧ SqT K H1 b ys ∧ R (ItzL K a b) H1
theorem pi_zipL {X : Cx} {e e2 : Expr} {ta : TA} {p pos tpos : Pos} {elts : List Expr} {kk : Nat} (hg : Gl X "zip") (hm : X.mg "zip" = none) (ha : PA X [e, e2] ta)
    (hs : starEach [e, e2] X.env = (false, eval e X.env) :: starEach [e2] X.env := by rfl) (hpl : (backTo pos (starEach [e2] X.env)).any (·.1) = false := by rfl) :
    PI X (.Tuple elts kk tpos) (.Call (.Name "zip" p) [e, e2] [] pos) (iZipL X.K ta) := by
  constructor
  intro pins s σ H R I h
  refine Call_ (ld_blt I hg hm PyProof.Rows.boot_zip (PyProof.Rows.callWith_type1 (thn (ha.run pos pins s σ H _ I h) ?_) hs hpl))
  rintro us s1 ⟨vs, H1, I1, r1, a, b, xs, ys, rfl, hqx, hqy, q⟩
  rcases r1 with _ | ⟨r, _ | ⟨r', rr⟩⟩
  cases rr
  cases r
  cases r'
  obtain ⟨ia, ra, pa, _⟩ := I1.list hqx
  obtain ⟨ib, rb, pb, _⟩ := I1.tuple hqy
  have tb' : s1.heap.IsTuple b ib.toArray := pb
  obtain ⟨ob, hob, _⟩ := id tb'
  refine zip_begins2 (begins_list a ia.toArray) (begins_tuple b ib.toArray) pa.isList tb' ?_
  intro h' hz hI hO g1 g2 hsz hk
  refine wpAny_pyIter_zip hz ⟨_, [_, _, _, _, _], _, _, H1, rfl, I1.kept (t' := s1.toks) hk, turn_zipL (PySem.W.ktu_apart s1.heap.objs.size a b pa.lt (Heap.lt_size hob)), ⟨hz, hI, ⟨_, _, hO⟩, ⟨_, g1, rfl, rfl⟩, ⟨_, g2, rfl, rfl⟩⟩, ?_, q⟩
  intro c hcm
  have hle : s1.heap.objs.size ≤ c := by
    simp only [List.mem_cons, List.not_mem_nil, or_false] at hcm
    rcases hcm with e | e | e | e | e <;> (rw [e]; first | exact Nat.le_refl _ | exact Nat.le_add_right _ _)
  exact I1.fpOk hle (I1.hok.fresh hle)
theorem walk_zipL {K : PySem.W.Frag} {a b : Addr} {xs ys : List V} {n : Nat} (hn : n = min xs.length ys.length) : Walk (ItzL K a b) n (fun H => SqL K H a xs ∧ SqT K H b ys) (YPair (fun i => xs[i]?) (fun i => ys[i]?)) := by
  subst hn
  refine ⟨fun i _ hi q => ?_, fun _ q => ⟨xs, ys, q.1, q.2, rfl⟩, fun i H v H' _ q y => ?_⟩
  · have hm := Nat.lt_min.mp hi
    exact ⟨xs, ys, _, _, q.1, q.2, List.getElem?_eq_getElem hm.1, List.getElem?_eq_getElem hm.2⟩
  · obtain ⟨T, x, y', e1, e2, e3, e4, e5⟩ := y
    exact ⟨T, x, y', e1, e2, e3, (e4 xs q.1), (e5 ys q.2)⟩
end Ind

set_option Elab.async false
set_option linter.all false
set_option maxRecDepth 100000
set_option maxHeartbeats 4000000
namespace Ind
open PySem PySem.Spec PyProof.Rows L2
section
variable {X : Cx} {CX : CXT} {n : Nat} {C f : Addr} {fd : FuncData} {ps : List Str} {sp : Sp} {E : XK}
/-- an own def that stands for an operator -/
structure OwnOp (X : Cx) (CX : CXT) (n : Nat) (C f : Addr) (m : Str) (fd : FuncData) (ps : List Str) (sp : Sp) (E : XK) : Prop where
  fn : FnOk X.prog X.w X.K X.mg X.base CX n f fd ps sp
  at_ : PySem.W.findIn X.K (.ref C) m = some (some (.ref f))
  isf : PySem.W.isFn X.K (.ref f) = true
  b : Binds X.K fd ps []
  px : Passes CX X E
  first : PySem.W.selfFirst X.K C = true
def rBinO (C : Addr) (sp : Sp) (E : XK) : R2 := fun x y H Q => ∃ a dx fs b dy gs, x = .ref a ∧ y = .ref b ∧ H a = some (.ins C dx fs) ∧ H b = some (.ins C dy gs) ∧ sp [x, y] H Q E
theorem op_binO {op : Operator} {m : Str} (hm : PySem.dunder op.info.2 = m) (G : OwnOp X CX n C f m fd ps sp E) (hr : Room n X.A) : OpR X (binaryOp op) (rBinO C sp E) := by
  intro pins s σ H x y v u Q I rx ry h
  obtain ⟨a, dx, fs, b, dy, gs, rfl, rfl, ha, hb, q⟩ := h
  cases (show v = Value.ref a from rx)
  cases (show u = Value.ref b from ry)
  obtain ⟨mA, O, _⟩ := ins_get I.hok ha
  obtain ⟨od, J, _⟩ := O.look
  obtain ⟨mB, O2, _⟩ := ins_get I.hok hb
  obtain ⟨od2, J2, _⟩ := O2.look
  obtain ⟨mm, hF⟩ := I.fr
  refine PySem.W.binop_K hF I.ok.mod.kin J J2.type G.first (by rw [hm]; exact G.at_) G.isf ?_
  refine wpAny_mono (run_fn (us := [.ref a, .ref b]) (vs := [.ref a, .ref b]) (dvs := []) G.fn hr G.b .nil G.px I (.cons rfl (.cons rfl .nil)) q) (fun w s' z => ?_) fun _ _ e => e
  obtain ⟨z', H', I', rz, qz⟩ := z
  have fin : EP X pins σ Q w s' := ⟨z', H', I', rz, qz⟩
  cases z' with
  | non => cases rz; exact fin
  | bl _ => cases rz; exact fin
  | int _ => obtain ⟨_, rfl⟩ := rz; exact fin
  | str _ => obtain ⟨_, rfl⟩ := rz; exact fin
  | byt _ => obtain ⟨_, rfl⟩ := rz; exact fin
  | flt _ => obtain ⟨_, rfl⟩ := rz; exact fin
  | ref _ => cases rz; exact fin
  | ty _ => cases rz; exact fin
def rNegO (C : Addr) (sp : Sp) (E : XK) : V → Hp → VK → Prop := fun x H Q => ∃ a dx fs, x = .ref a ∧ H a = some (.ins C dx fs) ∧ sp [x] H Q E
theorem un_negO (G : OwnOp X CX n C f "__neg__" fd ps sp E) (hr : Room n X.A) : UnR X (unaryOp .USub) (rNegO C sp E) := by
  intro pins s σ H x v Q I rx h
  obtain ⟨a, dx, fs, rfl, ha, q⟩ := h
  cases (show v = Value.ref a from rx)
  obtain ⟨mA, O, _⟩ := ins_get I.hok ha
  obtain ⟨od, J, _⟩ := O.look
  obtain ⟨mm, hF⟩ := I.fr
  exact PySem.W.ksp_neg hF I.ok.mod.kin J G.at_ G.isf (run_fn (us := [.ref a]) (vs := [.ref a]) (dvs := []) G.fn hr G.b .nil G.px I (.cons rfl .nil) q)
end
/-! ### a method whose error goes to a clause that looks at the slots -/
section
variable {X : Cx} {CX : CXT} {k : Nat} {C f : Addr} {m : Str} {fd : FuncData} {ps : List Str} {sp : Sp} {E : L2.St → XK} {o e : Expr} {es : List Expr} {ta : TE} {t : TA} {apos pos : Pos} {pl : Sem Bool}
def tMethS (C : Addr) (m : Str) (sp : Sp) (E : L2.St → XK) (ta : TE) (t : TA) : TE := fun σ H Q =>
  ta σ H fun x H1 => ∃ a dx fs, x = .ref a ∧ H1 a = some (.ins C dx fs) ∧ fs.lookup m = none ∧ t σ H1 fun vs H2 => sp (x :: vs) H2 Q (E σ)
theorem pe_methS0 (ho : PE X o ta) (c : Cls X.K C) (hm : Meth X.K C m f) (F : FnOk X.prog X.w X.K X.mg X.base CX k f fd ps sp) (hr : Room k X.A) (hb : Binds X.K fd ps []) (hx : ∀ σ, PassesAt CX X σ (E σ))
    (hv : eval (.Call (.Attribute o m apos) [] [] pos) X.env =
      (do let ov ← eval o X.env; standAt apos.atName; let (g, first) ← holding [ov] (getMethod ov m pl); callWith pos g first (backTo pos (starEach [] X.env)) (backToKw pos (keywordEach [] X.env))) := by rfl) :
    PE X (.Call (.Attribute o m apos) [] [] pos) (tMethS C m sp E ta tNil) := by
  constructor
  intro pins s σ H Q I h
  refine PySem.W.methodCall_KW (pl := pl) (thn (ho.run pins s σ H _ I h) fun u s1 z => ?_) hv
  obtain ⟨x, H1, I1, rx, a, dx, fs, rfl, ea, l, q⟩ := z
  cases (show u = Value.ref a from rx)
  exact getmeth_ok I1 ea c hm l (PySem.W.callWith_K0 (first := [.ref a]) I1.kIn hm.kp (run_fnS (us := [.ref a]) (vs := [.ref a]) F hr hb (hx σ) I1 (.cons rfl .nil) q))
theorem pe_methS1 (ho : PE X o ta) (c : Cls X.K C) (hm : Meth X.K C m f) (F : FnOk X.prog X.w X.K X.mg X.base CX k f fd ps sp) (hr : Room k X.A) (hb : Binds X.K fd ps []) (hx : ∀ σ, PassesAt CX X σ (E σ)) (ha : PA X (e :: es) t)
    (hst : starEach (e :: es) X.env = (false, eval e X.env) :: starEach es X.env := by rfl) (hpl : (backTo pos (starEach es X.env)).any (·.1) = false := by rfl)
    (hv : eval (.Call (.Attribute o m apos) (e :: es) [] pos) X.env =
      (do let ov ← eval o X.env; standAt apos.atName; let (g, first) ← holding [ov] (getMethod ov m pl); callWith pos g first (backTo pos (starEach (e :: es) X.env)) (backToKw pos (keywordEach [] X.env))) := by rfl) :
    PE X (.Call (.Attribute o m apos) (e :: es) [] pos) (tMethS C m sp E ta t) := by
  constructor
  intro pins s σ H Q I h
  refine PySem.W.methodCall_KW (pl := pl) (thn (ho.run pins s σ H _ I h) fun u s1 z => ?_) hv
  obtain ⟨x, H1, I1, rx, a, dx, fs, rfl, ea, l, q⟩ := z
  cases (show u = Value.ref a from rx)
  refine getmeth_ok I1 ea c hm l (PySem.W.callWith_K (first := [.ref a]) (h₀ := X.base) I.ok.mod.kin hm.kp (thn (ha.run pos pins s1 σ H1 _ I1 q) fun us s2 z2 => ?_) hst hpl)
  obtain ⟨vs, H2, I2, r, q2⟩ := z2
  exact ⟨I2.kIn, run_fnS (us := .ref a :: us) (vs := .ref a :: vs) F hr hb (hx σ) I2 (.cons rfl r) q2⟩
end
/-- an error that a def lets out goes on to whoever called it -/
theorem pass_on {X : Cx} {E : XK} (hs : X.stack = X.env :: X.outer) (hf : X.env.frame = some X.env.locals) (hex : X.ex = []) (t : Takes X (fun cls d _ H => E cls d H)) : Passes (L2.CX X.prog X.w) X E := passes_call t fun _ _ _ _ h => h
/-! ### lcm of small ints -/
def rLcm : List V → Hp → VK → Prop := fun vs H Q => ∃ a b : Int, vs = [.int a, .int b] ∧ (0 < a ∧ a < 2 ^ 60) ∧ (0 < b ∧ b < 2 ^ 60) ∧ Q (.int ((Nat.lcm a.natAbs b.natAbs : Nat) : Int)) H
theorem cr_lcm {X : Cx} : CallR X (.builtin "math.lcm") rLcm := by
  intro pins s σ H vs us Q I r h
  obtain ⟨a, b, rfl, ha, hb, q⟩ := h
  obtain ⟨t, u, rfl⟩ := Vals.int2 r
  have e : Nat.lcm 1 a.natAbs = a.natAbs := Nat.lcm_one_left _
  have hn : a.natAbs < 2 ^ 60 := by omega
  have hm : b.natAbs < 2 ^ 60 := by omega
  refine PySem.W.mg_lcm (by omega) (by omega) ?_ ?_
  · rw [e]
    have hp : 0 < Nat.lcm a.natAbs b.natAbs := Nat.lcm_pos (by omega) (by omega)
    have hle : Nat.lcm a.natAbs b.natAbs ≤ a.natAbs * b.natAbs := Nat.lcm_le_mul (by omega) (by omega)
    have hlt : a.natAbs * b.natAbs < 2 ^ 120 := Nat.lt_of_lt_of_le (Nat.mul_lt_mul'' hn hm) (by decide)
    have h2 : ((Nat.lcm a.natAbs b.natAbs : Nat) : Int).natAbs < 2 ^ 120 := by
      show Nat.lcm a.natAbs b.natAbs < 2 ^ 120
      omega
    have h3 := PySem.Flt.log2_lt_of (k := 120) (by decide) h2
    exact Nat.lt_of_lt_of_le h3 (by decide)
  · rw [e]
    exact ⟨.int _, H, I.tok _, ⟨_, rfl⟩, q⟩
end Ind

set_option Elab.async false
set_option linter.all false
set_option maxRecDepth 100000
set_option maxHeartbeats 4000000
set_option exponentiation.threshold 9000
namespace Ind
open PySem PySem.Spec PyProof.Rows L2
open Builtin.Int (intBits)
abbrev sAddR : Stmt := inClass (top 11) 1
abbrev sMulR : Stmt := inClass (top 11) 3
abbrev sIsZ : Stmt := inClass (top 11) 14
abbrev sOne : Stmt := top 99
abbrev sComb : Stmt := top 16
abbrev sIsV : Stmt := top 19
abbrev sUv : Stmt := top 20
abbrev sAz : Stmt := top 99
def spAddR (C : Addr) : Sp := fun vs H Q _ => ∃ (p r : Addr) (a b : Q2), vs = [.ref p, .ref r] ∧ RatQ C H p a ∧ RatQ C H r b ∧ Lo a ∧ Lo b ∧ Bg a ∧ Bg b ∧ ∀ (H' : Hp) (t : Addr), Same H H' → RatQ C H' t (addq a b) → Q (.ref t) H'
def spMulR (C : Addr) : Sp := fun vs H Q _ => ∃ (p r : Addr) (a b : Q2), vs = [.ref p, .ref r] ∧ RatQ C H p a ∧ RatQ C H r b ∧ Lo a ∧ Lo b ∧ Bg a ∧ Bg b ∧ ∀ (H' : Hp) (t : Addr), Same H H' → RatQ C H' t (mulq a b) → Q (.ref t) H'
def spIsZ (C : Addr) : Sp := fun vs H Q _ => ∃ (p : Addr) (q : Q2), vs = [.ref p] ∧ RatQ C H p q ∧ Q (.bl (decide (q.1 = 0))) H
def spIsV (C : Addr) : Sp := fun vs H Q _ => ∃ (p : Addr) (n : Nat), vs = [.ref p, .int (n : Int)] ∧ n ≤ 100 ∧
  ((∃ qs, Tp (RatQ C) H p qs ∧ qs.length ≤ 101 ∧ ∀ H', Same H H' → Q (.bl (decide (qs.length = n))) H') ∨ (∃ ys, H p = some (.lst ys) ∧ ∀ H', Same H H' → Q (.bl false) H'))
def spAz (C : Addr) : Sp := fun vs H Q _ => ∃ (p : Addr) (qs : List Q2), vs = [.ref p] ∧ Tp (RatQ C) H p qs ∧ qs.length ≤ 100 ∧ ∀ (H' : Hp) (t : Bool), Same H H' → (t = true ↔ ∀ q ∈ qs, q.1 = 0) → Q (.bl t) H'
def spUv (C : Addr) : Sp := fun vs H Q _ => ∃ (c n : Nat), vs = [.int (c : Int), .int (n : Int)] ∧ n ≤ 100 ∧ ∀ (H' : Hp) (t : Addr), Same H H' → Tp (RatQ C) H' t (unitQ c n) → Q (.ref t) H'
def spComb (C : Addr) : Sp := fun vs H Q _ => ∃ (p y : Addr) (rs : List (List Q2)) (ys : List Q2) (w b : Nat), vs = [.ref p, .int (w : Int), .ref y] ∧ MatT C H p rs ∧ Tp (RatQ C) H y ys ∧ ys.length = rs.length ∧ rs.length ≤ 100 ∧ w ≤ 100 ∧ (∀ r ∈ rs, r.length = w ∧ LoB b r) ∧ LoB b ys ∧ b ≤ 100000 ∧
  ∀ (H' : Hp) (t : Addr) (qs : List Q2), Same H H' → Tp (RatQ C) H' t qs → qs.length = w → (∀ q ∈ qs, Lo q) → (∀ j, j < w → rowF qs j = sumTo rs.length fun k => rowF ys k * rowF (rs.getD k []) j) → Q (.ref t) H'
/-- what a comprehension has gathered: values -/
structure ColV (D : Addr) (H H2 : Hp) (vs : List V) : Prop where
  s : Same H H2
  at_ : H2 D = some (.lst vs)
theorem ColV.start {D : Addr} {H : Hp} (h : H D = none) : ColV D H (upd H D (.lst [])) [] := ⟨same_upd h, upd_same⟩
theorem ColV.push {D : Addr} {H H2 H3 : Hp} {vs : List V} {v : V} (x : ColV D H H2 vs) (hD : H D = none) (s : Same H2 H3) (hl : vs.length ≤ 1000) :
    ∃ acc, H3 D = some (.lst acc) ∧ acc.length < sizeLine ∧ ColV D H (upd H3 D (.lst (acc ++ [v]))) (vs ++ [v]) := by
  refine ⟨vs, s _ _ x.at_, len_small hl, fun c o ec => ?_, upd_same⟩
  rw [upd_ne (ne_of_none ec hD)]
  exact s _ _ (x.s c o ec)
theorem range_take6 {n i : Nat} (h : i < n) {f : Nat → Q2} : ((List.range n).take (i + 1)).map f = ((List.range n).take i).map f ++ [f i] := by
  rw [List.take_add_one, List.getElem?_range h, List.map_append]
  rfl
section
variable {P : Program} {w : World} {K : PySem.W.Frag} {mg : Str → Option Value} {base : Heap} {C Z CM : Addr}
theorem boot_isi : bootBuiltins ("isinstance" : Str) = some (.builtin "isinstance") := by decide +kernel
theorem scAddR : FnScope ["self", "other"] ["self", "other"] (defScope sAddR) := ⟨rfl, rfl, rfl, by decide +kernel, rfl, by decide +kernel, by decide +kernel⟩
theorem scMulR : FnScope ["self", "other"] ["self", "other"] (defScope sMulR) := ⟨rfl, rfl, rfl, by decide +kernel, rfl, by decide +kernel, by decide +kernel⟩
theorem scIsZ : FnScope ["self"] ["self"] (defScope sIsZ) := ⟨rfl, rfl, rfl, by decide +kernel, rfl, by decide +kernel, by decide +kernel⟩
theorem ok_addR {f fI : Addr} {fd fdI : FuncData} {ds : List Value} (F : Fun K "__add__" "Ratio.__add__" sAddR f fd) (R : TxR K mg C Z) (M : MkR P w K mg base C Z fI fdI ds) : FnOk P w K mg base CX0 43 f fd ["self", "other"] (spAddR C) := by
  refine F.ok scAddR (fun vs H Q E h => ?_) (fun cdv A outer s H vs Q E hr h => ?_)
  · obtain ⟨p, r, a, b, rfl, _⟩ := h
    rfl
  · obtain ⟨p, r, a, b, rfl, ⟨dx, hp⟩, ⟨dy, hq⟩, la, lb, ga, gb, k⟩ := h
    refine ⟨_, pss_one (ps_ret (pe_make M.cm M.fn hr (by rfl) R.mgC M.b2 .nil passL (pa_cons (pe_op op_add (pe_op op_mulB (pe_fld (pv 0) rfl) (pe_fld (pv 1) rfl)) (pe_op op_mulB (pe_fld (pv 1) rfl) (pe_fld (pv 0) rfl))) (pa_cons (pe_op op_mulB (pe_fld (pv 0) rfl) (pe_fld (pv 1) rfl)) pa_nil)))), ?_⟩
    refine ⟨_, rfl, p, C, dx, _, _, rfl, hp, R.cl, R.nN, rf_n _ _, _, rfl, r, C, dy, _, _, rfl, hq, R.cl, R.nD, rf_d _ _, _, _, rfl, rfl, bd2 ga.1 gb.2, ?_⟩
    refine ⟨_, rfl, r, C, dy, _, _, rfl, hq, R.cl, R.nN, rf_n _ _, _, rfl, p, C, dx, _, _, rfl, hp, R.cl, R.nD, rf_d _ _, _, _, rfl, rfl, bd2 gb.1 ga.2, _, _, rfl, rfl, ?_⟩
    refine ⟨_, rfl, p, C, dx, _, _, rfl, hp, R.cl, R.nD, rf_d _ _, _, rfl, r, C, dy, _, _, rfl, hq, R.cl, R.nD, rf_d _ _, _, _, rfl, rfl, bd2 ga.2 gb.2, ?_⟩
    exact mk_ok (Int.mul_ne_zero la.ne lb.ne) fun x H5 rx s5 _ => k H5 x s5 rx
theorem ok_mulR {f fI : Addr} {fd fdI : FuncData} {ds : List Value} (F : Fun K "__mul__" "Ratio.__mul__" sMulR f fd) (R : TxR K mg C Z) (M : MkR P w K mg base C Z fI fdI ds) : FnOk P w K mg base CX0 43 f fd ["self", "other"] (spMulR C) := by
  refine F.ok scMulR (fun vs H Q E h => ?_) (fun cdv A outer s H vs Q E hr h => ?_)
  · obtain ⟨p, r, a, b, rfl, _⟩ := h
    rfl
  · obtain ⟨p, r, a, b, rfl, ⟨dx, hp⟩, ⟨dy, hq⟩, la, lb, ga, gb, k⟩ := h
    refine ⟨_, pss_one (ps_ret (pe_make M.cm M.fn hr (by rfl) R.mgC M.b2 .nil passL (pa_cons (pe_op op_mulB (pe_fld (pv 0) rfl) (pe_fld (pv 1) rfl)) (pa_cons (pe_op op_mulB (pe_fld (pv 0) rfl) (pe_fld (pv 1) rfl)) pa_nil)))), ?_⟩
    refine ⟨_, rfl, p, C, dx, _, _, rfl, hp, R.cl, R.nN, rf_n _ _, _, rfl, r, C, dy, _, _, rfl, hq, R.cl, R.nN, rf_n _ _, _, _, rfl, rfl, bd2 ga.1 gb.1, ?_⟩
    refine ⟨_, rfl, p, C, dx, _, _, rfl, hp, R.cl, R.nD, rf_d _ _, _, rfl, r, C, dy, _, _, rfl, hq, R.cl, R.nD, rf_d _ _, _, _, rfl, rfl, bd2 ga.2 gb.2, ?_⟩
    exact mk_ok (Int.mul_ne_zero la.ne lb.ne) fun x H5 rx s5 _ => k H5 x s5 rx
theorem ok_isz {f : Addr} {fd : FuncData} (F : Fun K "is_zero" "Ratio.is_zero" sIsZ f fd) (R : TxR K mg C Z) : FnOk P w K mg base CX0 1 f fd ["self"] (spIsZ C) := by
  refine F.ok scIsZ (fun vs H Q E h => ?_) (fun cdv A outer s H vs Q E hr h => ?_)
  · obtain ⟨p, q, rfl, _⟩ := h
    rfl
  · obtain ⟨p, q, rfl, ⟨dx, hp⟩, k⟩ := h
    refine ⟨_, pss_one (ps_ret (pe_cmpR op_eq (pe_fld (pv 0) rfl) pe_int (nomark _))), ?_⟩
    refine ⟨_, rfl, p, C, dx, _, _, rfl, hp, R.cl, R.nN, rf_n _ _, rfl, ?_⟩
    rw [show decide (V.int q.1 = V.int 0) = decide (q.1 = 0) by
      by_cases e : q.1 = 0
      · rw [e]; rfl
      · rw [decide_eq_false e, decide_eq_false (fun z => e (V.int.inj z))]]
    exact k
theorem scUv : FnScope ["at", "length", "k"] ["at", "length"] (defScope sUv) := ⟨rfl, rfl, rfl, by decide +kernel, rfl, by decide +kernel, by decide +kernel⟩
theorem ok_uv {f fI : Addr} {fd fdI : FuncData} {ds : List Value} (F : Fun K "unit_vector" "unit_vector" sUv f fd) (T : TxL K mg) (R : TxR K mg C Z) (TM : TxM K mg CM) (M : MkR P w K mg base C Z fI fdI ds) : FnOk P w K mg base CX0 43 f fd ["at", "length"] (spUv C) := by
  refine F.ok scUv (fun vs H Q E h => ?_) (fun cdv A outer s H vs Q E hr h => ?_)
  · obtain ⟨c, n, rfl, _⟩ := h
    rfl
  · obtain ⟨c, n, rfl, hn, k⟩ := h
    refine ⟨_, pss_one (ps_ret (pe_callTy call_tuple_of (by rfl) TM.tuple (by decide +kernel) (pa_cons (pe_lc (own := [("k", 2)]) (g := gName 2) (tt := tYes) (te := tMake C (spInit C Z) [V.int 1] E0 (tCons (tIf (tTest (tOp rEq (tVar 2) (tVar 0))) (tC (.int 1)) (tC (.int 0))) tNil)) rfl scUv.nd (pi_range1 (by rfl) T.range (pa_cons (pv 1) pa_nil)) (blkOk_by (N := ["at", "length", "k"]) (sc := defScope sUv) (by decide +kernel))
          (fun _ _ _ _ _ => pg_name (i := 2) scUv.nd rfl (Or.inl rfl)) (fun _ _ _ _ _ => pts_nil) (fun _ _ _ _ _ => pe_make M.cm M.fn hr (by rfl) R.mgC M.b1 M.v1 passL (pa_cons (pe_ifExp (pt_cmpR op_eq (pv 2) (pv 0) (nomark _)) pe_int pe_int) pa_nil))) pa_nil))), ?_⟩
    refine ⟨_, rfl, (n : Int), rfl, by omega, by omega, fun D hD => ?_⟩
    refine lc_range (lo := 0) (n := n) (fun i H2 => Col (RatQ C) D H H2 (((List.range n).take i).map fun k => if k = c then (1, 1) else q0)) (Col.start hD) ?_ ?_
    · intro i H2 hi z
      rw [Int.zero_add]
      have fin : ∀ (b : Int) (q : Q2), mkq b 1 = q → (if i = c then (1, 1) else q0) = q → (∀ x dx, H2 x = none → H2 dx = none → dx ≠ x → spInit C Z [.ref x, .int b, .int 1] (upd (upd H2 dx (.own x)) x (.ins C dx [])) (fun v H6 => v = .non ∧ ∃ acc, H6 D = some (.lst acc) ∧ acc.length < sizeLine ∧ Col (RatQ C) D H (upd H6 D (.lst (acc ++ [V.ref x]))) (((List.range n).take (i + 1)).map fun k => if k = c then (1, 1) else q0)) E0) := fun b q e1 e2 u du nu ndu neu => by
        refine ⟨u, du, b, 1, rfl, upd_same, fun z => absurd z (by decide), fun _ H6 hu kk => ⟨rfl, ?_⟩⟩
        have hu : RatQ C H6 u (mkq b 1) := hu
        rw [range_take6 hi, e2]
        rw [e1] at hu
        refine z.push ((RatQ.stb C).x D) hD (Same.made nu ndu kk) hu ?_
        rw [List.length_map, List.length_take]
        omega
      refine ⟨rfl, _, rfl, _, rfl, rfl, _, rfl, ite2 (fun c1 => ?_) (fun c1 => ?_)⟩
      · have e : i = c := by
          have := V.int.inj (of_decide_eq_true c1)
          omega
        exact fin 1 (1, 1) (mkq_lo (q := (1, 1)) ⟨by decide, by decide⟩) (if_pos e)
      · have e : ¬ i = c := fun e => c1 (decide_eq_true (by rw [e]))
        exact fin 0 q0 (mkq_lo lo_q0) (if_neg e)
    · rintro H2 z
      rw [List.take_of_length_le (by rw [List.length_range]; exact Nat.le_refl _)] at z
      obtain ⟨pa, e1, e2⟩ := z.at_
      exact ⟨D, _, rfl, .inl ⟨SqL.of e1, fun t ht => k _ t (z.s.trans (same_upd ht)) ⟨pa, upd_same, Paired.imp (fun _ _ f => (RatQ.stb C).same (same_upd ht) f) e2⟩⟩⟩
theorem scIsV : FnScope ["value", "length", "item"] ["value", "length"] (defScope sIsV) := ⟨rfl, rfl, rfl, by decide +kernel, rfl, by decide +kernel, by decide +kernel⟩
theorem ok_isv {f : Addr} {fd : FuncData} (F : Fun K "is_vector" "is_vector" sIsV f fd) (T : TxL K mg) (R : TxR K mg C Z) (TM : TxM K mg CM) (I : TxI K C) (ga : mg "all" = none) : FnOk P w K mg base CX0 1 f fd ["value", "length"] (spIsV C) := by
  refine F.ok scIsV (fun vs H Q E h => ?_) (fun cdv A outer s H vs Q E hr h => ?_)
  · obtain ⟨p, n, rfl, _⟩ := h
    rfl
  · obtain ⟨p, n, rfl, hn, h⟩ := h
    refine ⟨_, pss_cons (ps_if (PW.pt (pw_or (pt_not (pt_val (pe_callB call_isi (by rfl) T.isinstance (by decide +kernel) (pa_cons (pv 0) (pa_cons (pe_bltn (v := .ty "tuple") (by rfl) TM.tuple (by decide +kernel) rfl) pa_nil)))))
          (pw_or1 (pt_cmpR op_ne (pe_callB call_len_seq (by rfl) T.len PySem.boot_len (pa_cons (pv 0) pa_nil)) (pv 1) (nomark _))))) (pss_one (ps_ret pe_bl)) pss_nil)
      (pss_one (ps_ret (pe_callB (cr_all rfl) (by rfl) ga (by decide +kernel) (pa_cons (pe_lc (own := [("item", 2)]) (g := gName 2) (tt := tYes) (te := tCB (rIsi K) (tCons (tVar 2) (tCons (tC (.ref C)) tNil))) rfl scIsV.nd (pi_tup (pv 0)) (blkOk_by (N := ["value", "length", "item"]) (sc := defScope sIsV) (by decide +kernel))
          (fun _ _ _ _ _ => pg_name (i := 2) scIsV.nd rfl (Or.inl rfl)) (fun _ _ _ _ _ => pts_nil) (fun _ _ _ _ _ => pe_callB call_isi (by rfl) T.isinstance boot_isi (pa_cons (pv 2) (pa_cons (pe_glob (v := .ref C) rfl R.mgC rfl) pa_nil)))) pa_nil)))), ?_⟩
    rcases h with ⟨qs, ⟨ps, hp, hP⟩, hl1, k⟩ | ⟨ys, hp, k⟩
    · have hl := hP.length
      refine ⟨_, rfl, _, _, _, _, true, rfl, ClsV.ty "tuple", .base (.tup hp), kit_ty (by decide +kernel), true, rfl, ?_⟩
      refine iteF ⟨_, rfl, p, _, rfl, .inr (SqT.of hp), _, rfl, rfl, _, rfl, ?_⟩
      rw [List.length_map, hl]
      by_cases e : qs.length = n
      · rw [e, show decide (V.int (n : Int) = V.int (n : Int)) = true from decide_eq_true rfl]
        rw [decide_eq_true e] at k
        refine iteF ⟨_, rfl, p, rfl, ⟨_, SqT.of hp⟩, fun D hD => lc_tup (K := K) (a := p) (xs := ps.map V.ref) (fun i H2 => ColV D H H2 ((List.replicate i true).map V.bl)) (ColV.start hD) (fun i H2 _ z => .of (z.s _ _ hp)) ?_ ?_⟩
        · rintro i x H2 hx z
          obtain ⟨a, ha, rfl⟩ := item_of hx
          obtain ⟨q, hqi, ⟨da, hqa⟩⟩ := Paired.at hP ha
          have hil := (List.getElem?_eq_some_iff.mp hqi).1
          refine ⟨rfl, _, rfl, _, _, _, _, true, rfl, ClsV.own C, .base (.ins (z.s _ _ hqa) R.cl I.ha I.hn I.ht I.hm), I.kC, ?_⟩
          rw [List.replicate_succ', List.map_append]
          refine z.push (v := V.bl true) hD same_rfl ?_
          rw [List.length_map, List.length_replicate]
          omega
        · rintro H2 z
          refine ⟨D, _, rfl, SqL.of z.at_, ?_⟩
          have e2 : ∀ m : Nat, (List.replicate m true).all id = true := fun m => by
            rw [List.all_eq_true]
            intro x hx
            exact (List.mem_replicate.mp hx).2
          rw [e2]
          exact k _ z.s
      · rw [show decide (V.int ((qs.length : Nat) : Int) = V.int (n : Int)) = false from decide_eq_false (fun z => e (by have := V.int.inj z; omega))]
        rw [decide_eq_false e] at k
        exact iteT (k _ same_rfl)
    · refine ⟨_, rfl, _, _, _, _, false, rfl, ClsV.ty "tuple", .base (.lst hp), kit_ty (by decide +kernel), false, rfl, ?_⟩
      exact iteT (k _ same_rfl)
end
end Ind

set_option Elab.async false
set_option linter.all false
set_option maxRecDepth 100000
set_option maxHeartbeats 4000000
set_option exponentiation.threshold 9000
namespace Ind
open PySem PySem.Spec PyProof.Rows L2
open Builtin.Int (intBits)
section
variable {P : Program} {w : World} {K : PySem.W.Frag} {mg : Str → Option Value} {base : Heap} {C Z CM : Addr}
/-- how + and * of Ratio, is_zero, zero stand -/
structure TxOp (P : Program) (w : World) (K : PySem.W.Frag) (mg : Str → Option Value) (base : Heap) (C : Addr) (fA fM fIz fZ : Addr) (fdA fdM fdIz fdZ : FuncData) : Prop where
  gA : FnOk P w K mg base CX0 43 fA fdA ["self", "other"] (spAddR C)
  aA : PySem.W.findIn K (.ref C) "__add__" = some (some (.ref fA))
  iA : PySem.W.isFn K (.ref fA) = true
  bA : Binds K fdA ["self", "other"] []
  gM : FnOk P w K mg base CX0 43 fM fdM ["self", "other"] (spMulR C)
  aM : PySem.W.findIn K (.ref C) "__mul__" = some (some (.ref fM))
  iM : PySem.W.isFn K (.ref fM) = true
  bM : Binds K fdM ["self", "other"] []
  sf : PySem.W.selfFirst K C = true
  mIz : Meth K C "is_zero" fIz
  bIz : Binds K fdIz ["self"] []
  gIz : FnOk P w K mg base CX0 1 fIz fdIz ["self"] (spIsZ C)
  gZ : mg "zero" = some (.ref fZ)
  kZ : PySem.W.keepIn K (.ref fZ) = true
  bZ : Binds K fdZ [] []
  fnZ : FnOk P w K mg base CX0 43 fZ fdZ [] (spMk C 0 1)
abbrev nCb : List Str := ["rows", "width", "weights", "found", "row", "weight", "item", "more", "_"]
theorem scCb : FnScope nCb ["rows", "width", "weights"] (defScope sComb) := ⟨rfl, rfl, rfl, by decide +kernel, rfl, by decide +kernel, by decide +kernel⟩
theorem ok_comb {f fA fM fIz fZ : Addr} {fd fdA fdM fdIz fdZ : FuncData} (F : Fun K "combine" "combine" sComb f fd) (T : TxL K mg) (R : TxR K mg C Z) (TM : TxM K mg CM) (O : TxOp P w K mg base C fA fM fIz fZ fdA fdM fdIz fdZ) : FnOk P w K mg base CX0 44 f fd ["rows", "width", "weights"] (spComb C) := by
  refine F.ok scCb (fun vs H Q E h => ?_) (fun cdv A outer s H vs Q E hr h => ?_)
  · obtain ⟨p, y, rs, ys, w, b, rfl, _⟩ := h
    rfl
  · obtain ⟨p, y, rs, ys, w, b, rfl, hP, hY, hl, hl1, hw1, hrs, hys, hb, k⟩ := h
    have h1 := hr.mono (show 1 ≤ 43 by decide)
    refine ⟨_, pss_cons (ps_setLc (i := 3) (own := [("_", 8)]) (g := gName 8) (tt := tYes) rfl scCb.nd rfl rfl rfl (pi_range1 (by rfl) T.range (pa_cons (pv 1) pa_nil)) (blkOk_by (N := nCb) (sc := defScope sComb) (by decide +kernel))
          (fun _ _ _ _ _ => pg_name (i := 8) scCb.nd rfl (Or.inl rfl)) (fun _ _ _ _ _ => pts_nil) (fun _ _ _ _ _ => pe_call0 O.fnZ hr (by rfl) O.gZ O.kZ O.bZ .nil pass0))
      (pss_cons (ps_for PassesOwn.never rfl (RZ.pi_zipA (by rfl) TM.zip (pa_cons (pv 0) (pa_cons (pv 2) pa_nil))) (pg_tup (by rfl) (pgs_cons (pg_name (i := 4) scCb.nd rfl (Or.inl rfl)) (pgs_cons (pg_name (i := 5) scCb.nd rfl (Or.inr rfl)) pgs_nil)))
          (pss_one (ps_if (pt_not (pt_val (pe_meth0 (pv 5) R.cl O.mIz O.gIz h1 O.bIz .nil pass0)))
            (pss_one (ps_setLc (i := 3) (own := [("item", 6), ("more", 7)]) (g := gTup K 2 (gCons (gName 6) (gCons (gName 7) gNil))) (tt := tYes) (te := tOp (rBinO C (spAddR C) E0) (tVar 6) (tOp (rBinO C (spMulR C) E0) (tVar 5) (tVar 7))) rfl scCb.nd rfl rfl rfl (pi_zipL (by rfl) TM.zip (pa_cons (pv 3) (pa_cons (pv 4) pa_nil))) (blkOk_by (N := nCb) (sc := defScope sComb) (by decide +kernel))
              (fun _ _ _ _ _ => pg_tup (by rfl) (pgs_cons (pg_name (i := 6) scCb.nd rfl (Or.inl rfl)) (pgs_cons (pg_name (i := 7) scCb.nd rfl (Or.inl rfl)) pgs_nil))) (fun _ _ _ _ _ => pts_nil)
              (fun _ _ _ _ _ => pe_op (op_binO (m := "__add__") (by rfl) ⟨O.gA, O.aA, O.iA, O.bA, pass0, O.sf⟩ hr) (pv 6) (pe_op (op_binO (m := "__mul__") (by rfl) ⟨O.gM, O.aM, O.iM, O.bM, pass0, O.sf⟩ hr) (pv 5) (pv 7))))) pss_nil)))
      (pss_one (ps_ret (pe_callTy call_tuple_of (by rfl) TM.tuple (by decide +kernel) (pa_cons (pv 3) pa_nil))))), ?_⟩
    obtain ⟨pa, ea, qa⟩ := id hP
    obtain ⟨pb, eb, qb⟩ := id hY
    have la := qa.length
    have lb := qb.length
    refine ⟨_, rfl, (w : Int), rfl, by omega, by omega, fun D hD => ?_⟩
    refine lc_range (lo := 0) (n := w) (fun i H2 => Col (RatQ C) D H H2 (List.replicate i q0)) (Col.start hD) ?_ ?_
    · intro i H2 hi z
      refine ⟨rfl, rfl, fun u H3 hu s3 _ => ?_⟩
      rw [List.replicate_succ']
      refine z.push ((RatQ.stb C).x D) hD s3 hu ?_
      rw [List.length_replicate]
      omega
    rintro H2 z
    refine ⟨_, rfl, _, rfl, p, y, _, _, rfl, .inr ⟨SqT.of (z.s _ _ ea), SqT.of (z.s _ _ eb), for_it (walk_zipT (K := K) (a := p) (b := y) (xs := pa.map V.ref) (ys := pb.map V.ref) (n := rs.length) (by rw [List.length_map, List.length_map, la, lb, hl, Nat.min_self]))
      (fun i σ H' => Same H H' ∧ ∃ (D : Addr) (qs : List Q2) (v4 v5 v6 v7 : Option V), σ = [some (.ref p), some (.int (w : Int)), some (.ref y), some (.ref D), v4, v5, v6, v7, none] ∧ Ls (RatQ C) H' D qs ∧ qs.length = w ∧ LoB (1 + i * (2 * b + 1)) qs ∧ ∀ j, j < w → rowF qs j = sumTo i fun k => rowF ys k * rowF (rs.getD k []) j)
      ⟨z.s, D, List.replicate w q0, none, none, none, none, rfl, z.at_, List.length_replicate .., fun q hq => ?_, fun j hj => ?_⟩ (fun i σ H' _ z => ⟨SqT.of (z.1 _ _ ea), SqT.of (z.1 _ _ eb)⟩) ?_ ?_⟩⟩
    · rw [(List.mem_replicate.mp hq).2, Nat.zero_mul]
      exact ⟨lo_q0, bq_q0⟩
    · unfold rowF
      rw [List.getD_eq_getElem?_getD, List.getElem?_replicate, if_pos hj]
      exact rv_q0
    · rintro i x σ H5 H6 hi ⟨s1, D1, qs, v4, v5, v6, v7, rfl, hD1, hql, hqb, hqv⟩ ⟨T', x1, x2, rfl, hT, rfl, g1, g2⟩
      obtain ⟨a, ha, rfl⟩ := item_of g1
      obtain ⟨c, hc, rfl⟩ := item_of g2
      obtain ⟨r, hri, hra⟩ := Paired.at qa ha
      obtain ⟨yq, hyi, hyc⟩ := Paired.at qb hc
      have s6 : Same H5 (upd H5 T' (.tup [.ref a, .ref c])) := same_upd hT
      have S6 := s1.trans s6
      have hrm := hrs r (List.mem_of_getElem? hri)
      have lyq := hys yq (List.mem_of_getElem? hyi)
      have hi2 : i * (2 * b + 1) ≤ 100 * (2 * b + 1) := Nat.mul_le_mul_right _ (by omega)
      have hra6 := (VecR.stb C).same S6 hra
      have hyc6 := (RatQ.stb C).same S6 hyc
      have hD6 := Ls.same (RatQ.stb C) s6 hD1
      have ey : rowF ys i = rv yq := by
        unfold rowF
        rw [getD_q hyi]
      have er : rs.getD i [] = r := by
        rw [List.getD_eq_getElem?_getD, hri]
        rfl
      obtain ⟨dc, hyd⟩ := id hyc6
      refine ⟨T', _, rfl, SqT.of upd_same, rfl, _, _, rfl, _, _, rfl, rfl, ?_⟩
      refine ⟨_, rfl, c, dc, _, rfl, hyd, rf_no _ _ (by decide +kernel) (by decide +kernel), c, yq, rfl, hyc6, _, rfl, ?_⟩
      by_cases e0 : yq.1 = 0
      · rw [decide_eq_true e0]
        refine iteF ⟨S6, D1, qs, _, _, _, _, rfl, hD6, hql, fun q hq => ⟨(hqb q hq).1, (hqb q hq).2.mono (by rw [Nat.add_mul]; omega)⟩, fun j hj => ?_⟩
        have rz : rv yq = 0 := by
          unfold rv
          rw [e0]
          grind
        rw [hqv j hj, sumTo_succ, ey, rz]
        grind
      · rw [decide_eq_false e0]
        refine iteT ?_
        obtain ⟨pd, ed, qd⟩ := id hD6
        obtain ⟨pr, er2, qr⟩ := id hra6
        refine ⟨_, rfl, _, rfl, D1, a, _, _, rfl, SqL.of ed, SqT.of er2, fun D2 hD2 => lc_it (walk_zipL (K := K) (a := D1) (b := a) (xs := pd.map V.ref) (ys := pr.map V.ref) (n := w) (by rw [List.length_map, List.length_map, qd.length, qr.length, hql, hrm.1, Nat.min_self]))
          (fun j H3 => ∃ zs, Col (RatQ C) D2 (upd H5 T' (.tup [.ref a, .ref c])) H3 zs ∧ zs.length = j ∧ LoB (1 + (i + 1) * (2 * b + 1)) zs ∧ ∀ j', j' < j → rowF zs j' = sumTo (i + 1) fun k => rowF ys k * rowF (rs.getD k []) j') ⟨[], Col.start hD2, rfl, fun q hq => (nomatch hq), fun j hj => absurd hj (Nat.not_lt_zero _)⟩ (fun j H3 _ z => let ⟨_, z, _⟩ := z; ⟨z.s.seq (SqL.of ed), .of (z.s _ _ er2)⟩) ?_ ?_⟩
        · rintro j x H3 H4 hj ⟨zs, z3, hzl, hzb, hzv⟩ ⟨T2, x1, x2, rfl, hT2, rfl, g3, g4⟩
          obtain ⟨a0, ha0, rfl⟩ := item_of g3
          obtain ⟨u3, hu3, rfl⟩ := item_of g4
          obtain ⟨q, hq1, hqa⟩ := Paired.at qd ha0
          obtain ⟨cq, hc1, hcu⟩ := Paired.at qr hu3
          have s4 : Same H3 (upd H3 T2 (.tup [.ref a0, .ref u3])) := same_upd hT2
          have S4 := z3.s.trans s4
          have lq := hqb q (List.mem_of_getElem? hq1)
          have lc := hrm.2 cq (List.mem_of_getElem? hc1)
          have hqa4 := (RatQ.stb C).same S4 hqa
          have hcu4 := (RatQ.stb C).same S4 hcu
          have hyc4 := (RatQ.stb C).same S4 hyc6
          obtain ⟨dq, eq4⟩ := id hqa4
          obtain ⟨du, eu4⟩ := id hcu4
          obtain ⟨dy, ey4⟩ := id hyc4
          refine ⟨T2, _, rfl, SqT.of upd_same, rfl, _, _, rfl, _, _, rfl, rfl, rfl, ?_⟩
          refine ⟨_, rfl, _, rfl, _, rfl, c, dy, _, u3, du, _, rfl, rfl, ey4, eu4, ?_⟩
          have bm := bq_mul lyq.2 lc.2
          have lm := lo_mul lyq.1.ne lc.1.ne
          refine ⟨c, u3, yq, cq, rfl, hyc4, hcu4, lyq.1, lc.1, lyq.2.bg (by omega), lc.2.bg (by omega), fun H7 t7 s7 ht7 => ?_⟩
          have hqa7 := (RatQ.stb C).same s7 hqa4
          obtain ⟨dq7, eq7⟩ := id hqa7
          obtain ⟨dt7, et7⟩ := id ht7
          refine ⟨a0, dq7, _, t7, dt7, _, rfl, rfl, eq7, et7, a0, t7, q, mulq yq cq, rfl, hqa7, ht7, lq.1, lm, lq.2.bg (by omega), bm.bg (by omega), fun H8 t8 s8 ht8 => ?_⟩
          obtain ⟨acc, k1, k2, k3⟩ := z3.push ((RatQ.stb C).x D2) hD2 (s4.trans (s7.trans s8)) ht8 (by omega)
          refine ⟨acc, k1, k2, _, k3, by rw [List.length_append, hzl]; rfl, fun x hx => ?_, fun j' hj' => ?_⟩
          · rcases List.mem_append.mp hx with h | h
            · exact hzb x h
            · rw [List.mem_singleton.mp h]
              refine ⟨lo_add lq.1.ne lm.ne, (bq_add lq.2 bm).mono ?_⟩
              rw [Nat.add_mul, Nat.one_mul]
              omega
          · by_cases e : j' = j
            · subst e
              rw [← hzl, rowF_last, rv_add lq.1.ne lm.ne, rv_mul lyq.1.ne lc.1.ne, sumTo_succ, hzl]
              have h1 := hqv j' hj
              unfold rowF at h1 ⊢
              rw [getD_q hq1] at h1
              rw [h1, getD_q hyi, er, getD_q hc1]
            · rw [rowF_in (by omega)]
              exact hzv j' (by omega)
        · rintro H3 ⟨zs, z3, hzl, hzb, hzv⟩
          exact ⟨S6.trans z3.s, D2, zs, _, _, _, _, rfl, z3.at_, hzl, hzb, hzv⟩
    · rintro σ H' ⟨s1, D1, qs, v4, v5, v6, v7, rfl, ⟨pd, ed, qd⟩, hql, hqb, hqv⟩
      exact ⟨_, rfl, D1, _, rfl, .inl ⟨SqL.of ed, fun t ht => k _ t qs (s1.trans (same_upd ht)) ⟨pd, upd_same, Paired.imp (fun _ _ f => (RatQ.stb C).same (same_upd ht) f) qd⟩ hql (fun q hq => (hqb q hq).1) hqv⟩⟩
end
end Ind

set_option Elab.async false
set_option linter.all false
set_option maxRecDepth 100000
set_option maxHeartbeats 4000000
set_option exponentiation.threshold 9000
namespace Ind
open PySem PySem.Spec PyProof.Rows L2
open Builtin.Int (intBits)
/-! ### the rows beside the unit matrix -/
def unitsQ (h : Nat) : List (List Q2) := (List.range h).map fun k => unitQ k h
theorem units_len (h : Nat) : (unitsQ h).length = h := by
  unfold unitsQ
  rw [List.length_map, List.length_range]
theorem units_at {h k : Nat} (hk : k < h) : (unitsQ h)[k]? = some (unitQ k h) := by
  unfold unitsQ
  rw [List.getElem?_map, List.getElem?_range hk]
  rfl
def ubQ (rs : List (List Q2)) : List (List Q2) := List.zipWith (· ++ ·) rs (unitsQ rs.length)
theorem ub_len (rs : List (List Q2)) : (ubQ rs).length = rs.length := by
  unfold ubQ
  rw [List.length_zipWith, units_len, Nat.min_self]
theorem ub_at {rs : List (List Q2)} {i : Nat} {r : List Q2} (h : rs[i]? = some r) : (ubQ rs)[i]? = some (r ++ unitQ i rs.length) := by
  have hi := (List.getElem?_eq_some_iff.mp h).1
  unfold ubQ
  rw [List.getElem?_zipWith, h, units_at hi]
theorem ub_mem {rs : List (List Q2)} {g : List Q2} (h : g ∈ ubQ rs) : ∃ i r, rs[i]? = some r ∧ g = r ++ unitQ i rs.length := by
  obtain ⟨i, hi, e⟩ := List.getElem_of_mem h
  rw [ub_len] at hi
  have e1 : rs[i]? = some rs[i] := List.getElem?_eq_getElem hi
  have e2 := ub_at e1
  rw [List.getElem?_eq_getElem (by rw [ub_len]; exact hi), e] at e2
  exact ⟨i, _, e1, Option.some.inj e2⟩
theorem rowF_app {r s : List Q2} {k : Nat} : rowF (r ++ s) (r.length + k) = rowF s k := by
  unfold rowF
  rw [List.getD_eq_getElem?_getD, List.getElem?_append_right (Nat.le_add_right _ _), Nat.add_sub_cancel_left, ← List.getD_eq_getElem?_getD]
theorem rowF_inA {r s : List Q2} {j : Nat} (h : j < r.length) : rowF (r ++ s) j = rowF r j := by
  unfold rowF
  rw [List.getD_eq_getElem?_getD, List.getElem?_append_left h, ← List.getD_eq_getElem?_getD]
theorem rowF_unit {c n k : Nat} (h : k < n) : rowF (unitQ c n) k = if k = c then 1 else 0 := by
  unfold rowF
  rw [getD_q (unit_get h)]
  split
  · exact rv_q1
  · exact rv_q0
theorem ub_ok {w : Nat} {rs : List (List Q2)} (h : SmR w rs) (hl : rs.length ≤ 4) (hw : w ≤ 5) : MatOk 4 6 (w + rs.length) (ubQ rs) := by
  refine ⟨fun g hg => ?_, by rw [ub_len]; omega, by omega, by decide, by decide, ?_⟩
  · obtain ⟨i, r, hr, rfl⟩ := ub_mem hg
    have hm := h r (List.mem_of_getElem? hr)
    refine ⟨by rw [List.length_append, hm.1, unit_len], sm_row (fun q hq => ?_) (by rw [List.length_append, hm.1, unit_len]; omega)⟩
    rcases List.mem_append.mp hq with z | z
    · exact hm.2 q z
    · exact unit_all (F := Sm) ⟨⟨by decide, by decide⟩, ⟨by decide, by decide⟩, by decide⟩ ⟨lo_q0, ⟨by decide, by decide⟩, by decide⟩ _ _ q z
  · rw [ub_len]
    exact Nat.le_trans (grow_le (Nat.le_refl _) hl) (show grow 10 4 ≤ 8000 by decide)
/-- a combination tells its weights behind the columns -/
theorem ub_spn {w : Nat} {rs : List (List Q2)} (hw : ∀ r ∈ rs, r.length = w) {f : Fr} (h : Spn ((ubQ rs).map rowF) f) {j : Nat} (hj : j < w) : f j = sumTo rs.length fun k => f (w + k) * rowF (rs.getD k []) j := by
  obtain ⟨u, hu⟩ := h.weights
  have lu : ((ubQ rs).map rowF).length = rs.length := by rw [List.length_map, ub_len]
  have at_ : ∀ {k : Nat}, k < rs.length → ((ubQ rs).map rowF).getD k (fun _ => 0) = rowF (rs.getD k [] ++ unitQ k rs.length) ∧ (rs.getD k []).length = w := fun {k} hk => by
    have e1 : rs[k]? = some rs[k] := List.getElem?_eq_getElem hk
    rw [List.getD_eq_getElem?_getD, List.getElem?_map, ub_at e1, List.getD_eq_getElem?_getD, e1]
    exact ⟨rfl, hw _ (List.getElem_mem hk)⟩
  have key : ∀ k, k < rs.length → f (w + k) = u k := fun k hk => by
    rw [hu, lu]
    have := sumTo_one u 1 hk
    rw [sumTo_congr (g := fun i => u i * (if i = k then 1 else 0)) fun i hi => by
      obtain ⟨a, b⟩ := at_ hi
      rw [a, show w + k = (rs.getD i []).length + k by rw [b], rowF_app, rowF_unit hk]
      by_cases e : k = i
      · rw [if_pos e, if_pos e.symm]
      · rw [if_neg e, if_neg (Ne.symm e)]]
    rw [this]
    grind
  rw [hu, lu]
  refine sumTo_congr fun k hk => ?_
  obtain ⟨a, b⟩ := at_ hk
  rw [a, key k hk, rowF_inA (by rw [b]; exact hj)]
/-- .. summed over the pivots -/
theorem sum_comb {w c : Nat} : ∀ {M : List (Nat × Fr)} {z : Fr} (g : Fr), M.Pairwise (fun x y => x.1 < y.1) → (∀ x ∈ M, x.1 < w) → (∀ x ∈ M, z x.1 = x.2 c) → (∀ j, j < w → (∀ x ∈ M, x.1 ≠ j) → z j = 0) → sumTo w (fun j => g j * z j) = comb M g c
  | [], z, g, _, _, _, hz => by
    rw [sumTo_congr (g := fun _ => 0) fun j hj => by rw [hz j hj (by simp)]; grind, sumTo_zero]
    rfl
  | a :: M, z, g, inc, lt, hv, hz => by
    obtain ⟨ia, il⟩ := List.pairwise_cons.mp inc
    have e := sum_comb (w := w) (c := c) (M := M) (z := fun j => if j = a.1 then 0 else z j) g il (fun x hx => lt x (List.mem_cons_of_mem _ hx))
      (fun x hx => by rw [if_neg (Nat.ne_of_gt (ia x hx))]; exact hv x (List.mem_cons_of_mem _ hx))
      (fun j hj hq => by
        by_cases q : j = a.1
        · rw [if_pos q]
        · rw [if_neg q]
          refine hz j hj fun x hx => ?_
          rcases List.mem_cons.mp hx with rfl | hx
          · exact fun z => q z.symm
          · exact hq x hx)
    have o := sumTo_one g (z a.1) (lt a (by simp))
    have s : sumTo w (fun j => g j * z j) = 1 * sumTo w (fun j => g j * (if j = a.1 then 0 else z j)) + 1 * sumTo w (fun j => g j * (if j = a.1 then z a.1 else 0)) := by
      rw [← sumTo_lin]
      refine sumTo_congr fun j _ => ?_
      by_cases q : j = a.1
      · rw [if_pos q, if_pos q, q]
        grind
      · rw [if_neg q, if_neg q]
        grind
    rw [s, e, o, hv a (by simp)]
    show 1 * comb M g c + 1 * (g a.1 * a.2 c) = g a.1 * a.2 c + comb M g c
    grind
/-- the list that is filled at the pivots -/
def putL (c : Nat) (L : List (Nat × List Q2)) (acc : List Q2) : List Q2 := solL c L acc
def dualQ (w : Nat) (rs2 : List (List Q2)) (pz : List Nat) (k : Nat) : List Q2 := solL (w + k) (pz.zip rs2) (List.replicate w q0)
theorem dual_len (w : Nat) (rs2 : List (List Q2)) (pz : List Nat) (k : Nat) : (dualQ w rs2 pz k).length = w := by
  unfold dualQ
  rw [solL_len, List.length_replicate]
theorem dual_lo {b w n : Nat} {rs rs2 : List (List Q2)} {pz : List Nat} (h : RedQ b n rs rs2 pz) {k : Nat} (hk : w + k < n) : ∀ q ∈ dualQ w rs2 pz k, Lo q ∧ Bq (b + 1) q := by
  unfold dualQ
  refine solL_all (F := fun q => Lo q ∧ Bq (b + 1) q) (w + k) _ _ (fun q hq => ?_) fun x hx => ?_
  · rw [(List.mem_replicate.mp hq).2]
    exact ⟨lo_q0, bq_q0.mono (Nat.le_add_left _ _)⟩
  · have hm := List.of_mem_zip hx
    have hr := h.row x.2 hm.2
    have hq : x.2[w + k]? = some x.2[w + k] := List.getElem?_eq_getElem (by omega)
    rw [getD_q hq]
    have := hr.2 _ (List.getElem_mem (by omega : w + k < x.2.length))
    exact ⟨this.1, this.2.mono (Nat.le_succ _)⟩
/-- each dual's products with the rows -/
theorem dual_dt {b w : Nat} {rs rs2 : List (List Q2)} {pz : List Nat} (hw : ∀ r ∈ rs, r.length = w) (h : RedQ b (w + rs.length) (ubQ rs) rs2 pz) (hn : ∀ x ∈ pz.zip rs2, x.1 < w) {k i : Nat} {r : List Q2} (hk : k < rs.length) (hr : rs[i]? = some r) : dt w (rowF (dualQ w rs2 pz k)) (rowF r) = if i = k then 1 else 0 := by
  have hi := (List.getElem?_eq_some_iff.mp hr).1
  have hrl := hw r (List.mem_of_getElem? hr)
  have hg : rowF (r ++ unitQ i rs.length) ∈ (ubQ rs).map rowF := List.mem_map_of_mem (List.mem_of_getElem? (ub_at hr))
  have inc := zip_inc h.red.inc
  have e1 := sum_comb (w := w) (c := w + k) (M := pz.zip (rs2.map rowF)) (z := rowF (dualQ w rs2 pz k)) (rowF (r ++ unitQ i rs.length)) h.red.inc
    (fun y hy => by obtain ⟨x, hx, rfl⟩ := zip_rowF' hy; exact hn x hx)
    (fun y hy => by
      obtain ⟨x, hx, rfl⟩ := zip_rowF' hy
      show rv _ = rv _
      unfold dualQ
      rw [solL_on (w + k) _ _ inc (fun x hx => by rw [List.length_replicate]; exact hn x hx) x hx])
    (fun j hj hz => by
      show rv _ = 0
      unfold dualQ
      rw [solL_off (w + k) _ _ fun x hx => hz _ (zip_rowF hx), List.getD_eq_getElem?_getD, List.getElem?_replicate, if_pos hj]
      exact rv_q0)
  rw [← h.red.comb hg (by omega)] at e1
  have e2 : rowF (r ++ unitQ i rs.length) (w + k) = if i = k then 1 else 0 := by
    rw [show w + k = r.length + k by rw [hrl], rowF_app, rowF_unit hk]
    by_cases e : k = i
    · rw [if_pos e, if_pos e.symm]
    · rw [if_neg e, if_neg (Ne.symm e)]
  rw [← e2, ← e1]
  exact sumTo_congr fun j hj => by
    rw [rowF_inA (by omega)]
    grind
/-- weights that combine the rows to zeros -/
structure DepBy (w : Nat) (rs : List (List Q2)) (u : Fr) : Prop where
  row : ∀ j, j < w → sumTo rs.length (fun k => u k * rowF (rs.getD k []) j) = 0
  ne : ∃ k, k < rs.length ∧ u k ≠ 0
theorem dep_of {b w : Nat} {rs rs2 : List (List Q2)} {pz : List Nat} (hw : ∀ r ∈ rs, r.length = w) (h : RedQ b (w + rs.length) (ubQ rs) rs2 pz) {x : Nat × List Q2} (hx : x ∈ pz.zip rs2) (e : w ≤ x.1) : DepBy w rs (rowF (x.2.drop w)) := by
  have hz := zip_rowF hx
  have hlt : x.1 < w + rs.length := h.red.lt _ hz
  have hd : ∀ k, rowF (x.2.drop w) k = rowF x.2 (w + k) := fun k => by
    unfold rowF
    rw [List.getD_eq_getElem?_getD, List.getElem?_drop, ← List.getD_eq_getElem?_getD]
  refine ⟨fun j hj => ?_, x.1 - w, by omega, ?_⟩
  · have h1 := ub_spn hw (h.red.spn _ hz) hj
    have h0 : rowF x.2 j = 0 := h.red.led _ hz j (by show j < x.1; omega)
    have h1 : rowF x.2 j = sumTo rs.length fun k => rowF x.2 (w + k) * rowF (rs.getD k []) j := h1
    rw [h0] at h1
    rw [h1]
    exact sumTo_congr fun k _ => by rw [hd]
  · rw [hd, show w + (x.1 - w) = x.1 by omega]
    have : rowF x.2 x.1 = 1 := h.red.one _ hz
    rw [this]
    decide
/-- what duals do -/
def FitsQ (w : Nat) (rs ds : List (List Q2)) : Prop := ∀ (a k : Nat) (d r : List Q2), ds[a]? = some d → rs[k]? = some r → dt w (rowF d) (rowF r) = if k = a then 1 else 0
theorem no_fits {w : Nat} {rs ds : List (List Q2)} {u : Fr} (hl : ds.length = rs.length) (d : DepBy w rs u) (f : FitsQ w rs ds) : False := by
  obtain ⟨a, ha, ne⟩ := d.ne
  have ea : ds[a]? = some ds[a] := List.getElem?_eq_getElem (by omega)
  have e1 : sumTo rs.length (fun k => u k * dt w (rowF ds[a]) (rowF (rs.getD k []))) = u a * 1 := by
    rw [← sumTo_one u 1 ha]
    refine sumTo_congr fun k hk => ?_
    have ek : rs[k]? = some rs[k] := List.getElem?_eq_getElem hk
    rw [List.getD_eq_getElem?_getD, ek]
    show u k * dt w (rowF ds[a]) (rowF rs[k]) = _
    rw [f a k _ _ ea ek]
  have e2 : sumTo rs.length (fun k => u k * dt w (rowF ds[a]) (rowF (rs.getD k []))) = 0 := by
    rw [sumTo_congr (g := fun k => sumTo w fun j => u k * (rowF ds[a] j * rowF (rs.getD k []) j)) fun k _ => by rw [sumTo_mul]; rfl]
    rw [sumTo_swap]
    rw [sumTo_congr (g := fun _ => 0) fun j hj => by
      rw [sumTo_congr (g := fun k => rowF ds[a] j * (u k * rowF (rs.getD k []) j)) fun k _ => by grind, sumTo_mul, d.row j hj]
      grind]
    exact sumTo_zero w
  rw [e2] at e1
  exact ne (by grind)
end Ind

set_option Elab.async false
set_option linter.all false
set_option maxRecDepth 100000
set_option maxHeartbeats 4000000
set_option exponentiation.threshold 9000
namespace Ind
open PySem PySem.Spec PyProof.Rows L2
open Builtin.Int (intBits)
abbrev sBu : Stmt := inClass (top 17) 15
abbrev sDual : Stmt := inClass (top 17) 12
abbrev sDuals : Stmt := inClass (top 17) 11
abbrev sDep : Stmt := inClass (top 17) 13
def spBu (C CM : Addr) : Sp := fun vs H Q _ => ∃ (p : Addr) (rs : List (List Q2)) (w : Nat), vs = [.ref p] ∧ MatAt C CM w H p rs ∧ rs.length ≤ 50 ∧ (∀ r ∈ rs, r.length ≤ 50) ∧ ∀ (H' : Hp) (x : Addr), Same H H' → MatAt C CM ((w + rs.length : Nat) : Int) H' x (ubQ rs) → Q (.ref x) H'
def spDual (C CM : Addr) : Sp := fun vs H Q _ => ∃ (p m tp : Addr) (rs rs2 : List (List Q2)) (pz : List Nat) (w w2 k : Nat), vs = [.ref p, .ref m, .ref tp, .int (k : Int)] ∧ MatAt C CM w H p rs ∧ MatAt C CM w2 H m rs2 ∧ H tp = some (.tup (pz.map fun k : Nat => V.int (k : Int))) ∧ pz.length = rs2.length ∧ (∀ r ∈ rs2, w + k < r.length) ∧ (∀ x ∈ pz.zip rs2, x.1 < w) ∧ w ≤ 50 ∧
  ∀ (H' : Hp) (t : Addr), Same H H' → Tp (RatQ C) H' t (dualQ w rs2 pz k) → Q (.ref t) H'
def spDuals (C CM : Addr) : Sp := fun vs H Q _ => ∃ (p : Addr) (rs : List (List Q2)) (b m w : Nat), vs = [.ref p] ∧ MatAt C CM w H p rs ∧ MatOk b m (w + rs.length) (ubQ rs) ∧ (∀ r ∈ rs, r.length = w) ∧
  ∀ (H' : Hp) (rs2 : List (List Q2)) (pz : List Nat), Same H H' → RedQ (grow (b + m) rs.length) (w + rs.length) (ubQ rs) rs2 pz → ((∃ x ∈ pz.zip rs2, w ≤ x.1) → Q .non H') ∧ ((∀ x ∈ pz.zip rs2, x.1 < w) → ∀ (t : Addr), Tp (Tp (RatQ C)) H' t ((List.range rs.length).map (dualQ w rs2 pz)) → Q (.ref t) H')
def spDep (C CM : Addr) : Sp := fun vs H Q _ => ∃ (p : Addr) (rs : List (List Q2)) (b m w : Nat), vs = [.ref p] ∧ MatAt C CM w H p rs ∧ MatOk b m (w + rs.length) (ubQ rs) ∧ (∀ r ∈ rs, r.length = w) ∧
  ∀ (H' : Hp) (rs2 : List (List Q2)) (pz : List Nat), Same H H' → RedQ (grow (b + m) rs.length) (w + rs.length) (ubQ rs) rs2 pz → ((∀ x ∈ pz.zip rs2, x.1 < w) → Q .non H') ∧ (∀ (x : Nat × List Q2) (t : Addr), x ∈ pz.zip rs2 → w ≤ x.1 → Tp (RatQ C) H' t (x.2.drop w) → Q (.ref t) H')
section
variable {P : Program} {w : World} {K : PySem.W.Frag} {mg : Str → Option Value} {base : Heap} {C Z CM : Addr}
abbrev nBu : List Str := ["self", "count", "k"]
theorem scBu : FnScope nBu ["self"] (defScope sBu) := ⟨rfl, rfl, rfl, by decide +kernel, rfl, by decide +kernel, by decide +kernel⟩
theorem ok_bu {f fB fU : Addr} {fd fdB fdU : FuncData} (F : Fun K "beside_unit" "Matrix.beside_unit" sBu f fd) (T : TxL K mg) (TM : TxM K mg CM) (mB : Meth K CM "beside" fB) (bB : Binds K fdB ["self", "columns", "count"] []) (GB : FnOk P w K mg base CX0 3 fB fdB ["self", "columns", "count"] (spMBe C CM))
    (GU : FnOk P w K mg base CX0 43 fU fdU ["at", "length"] (spUv C)) (kU : PySem.W.keepIn K (.ref fU) = true) (bU : Binds K fdU ["at", "length"] []) (gU : mg "unit_vector" = some (.ref fU)) : FnOk P w K mg base CX0 44 f fd ["self"] (spBu C CM) := by
  refine F.ok scBu (fun vs H Q E h => ?_) (fun cdv A outer s H vs Q E hr h => ?_)
  · obtain ⟨p, rs, w, rfl, _⟩ := h
    rfl
  · obtain ⟨p, rs, wd, rfl, hm, hl, hrl, k⟩ := h
    have h3 := hr.mono (show 3 ≤ 43 by decide)
    refine ⟨_, pss_cons (ps_set (i := 1) scBu.nd rfl (Or.inr rfl) (pe_callB call_len_seq (by rfl) T.len PySem.boot_len (pa_cons (pe_fld (pv 0) rfl) pa_nil)))
      (pss_one (ps_ret (pe_meth (pv 0) TM.cl mB GB h3 bB .nil pass0 (pa_cons (pe_lc (own := [("k", 2)]) (g := gName 2) (tt := tYes) rfl scBu.nd (pi_range1 (by rfl) T.range (pa_cons (pv 1) pa_nil)) (blkOk_by (N := nBu) (sc := defScope sBu) (by decide +kernel))
          (fun _ _ _ _ _ => pg_name (i := 2) scBu.nd rfl (Or.inl rfl)) (fun _ _ _ _ _ => pts_nil) (fun _ _ _ _ _ => pe_call GU hr (by rfl) gU kU bU .nil pass0 (pa_cons (pv 2) (pa_cons (pv 1) pa_nil)))) (pa_cons (pv 1) pa_nil))))), ?_⟩
    obtain ⟨dx, t, hp, pm, etm, qm⟩ := id hm
    refine ⟨_, rfl, p, CM, dx, _, _, rfl, hp, TM.cl, TM.nR, mf_rows _ _, t, _, rfl, .inr (SqT.of etm), ?_⟩
    rw [List.length_map, qm.length]
    refine ⟨_, rfl, p, dx, _, rfl, hp, mf_no _ _ (by decide +kernel) (by decide +kernel), ?_⟩
    refine ⟨_, rfl, (rs.length : Int), rfl, by omega, by omega, fun D hD => ?_⟩
    refine lc_range (lo := 0) (n := rs.length) (fun i H2 => Col (Tp (RatQ C)) D H H2 (((List.range rs.length).take i).map fun k => unitQ k rs.length)) (Col.start hD) ?_ ?_
    · intro i H2 hi z
      rw [Int.zero_add]
      refine ⟨rfl, _, rfl, _, rfl, i, rs.length, rfl, by omega, fun H3 t3 s3 ht3 => ?_⟩
      rw [range_take hi]
      refine z.push ((VecR.stb C).x D) hD s3 ht3 ?_
      rw [List.length_map, List.length_take]
      omega
    rintro H2 z
    rw [List.take_of_length_le (by rw [List.length_range]; exact Nat.le_refl _)] at z
    refine ⟨_, rfl, p, D, rs, unitsQ rs.length, wd, rs.length, rfl, (MatAt.stb C CM wd).same z.s hm, z.at_, units_len _, by omega, fun r hr => by have := hrl r hr; omega, fun r hr => ?_, fun H3 x s3 hx => ?_⟩
    · unfold unitsQ at hr
      obtain ⟨k, _, rfl⟩ := List.mem_map.mp hr
      rw [unit_len]
      omega
    · have hx : MatAt C CM ((wd + rs.length : Nat) : Int) H3 x (ubQ rs) := hx
      exact k H3 x (z.s.trans s3) hx
abbrev nDu : List Str := ["self", "matrix", "pivots", "k", "found", "row", "pivot", "_"]
theorem scDu : FnScope nDu ["self", "matrix", "pivots", "k"] (defScope sDual) := ⟨rfl, rfl, rfl, by decide +kernel, rfl, by decide +kernel, by decide +kernel⟩
theorem ok_dual {f fZ : Addr} {fd fdZ : FuncData} (F : Fun K "dual" "Matrix.dual" sDual f fd) (T : TxL K mg) (TM : TxM K mg CM) (gZ : mg "zero" = some (.ref fZ)) (kZ : PySem.W.keepIn K (.ref fZ) = true) (bZ : Binds K fdZ [] []) (GZ : FnOk P w K mg base CX0 43 fZ fdZ [] (spMk C 0 1)) : FnOk P w K mg base CX0 44 f fd ["self", "matrix", "pivots", "k"] (spDual C CM) := by
  refine F.ok scDu (fun vs H Q E h => ?_) (fun cdv A outer s H vs Q E hr h => ?_)
  · obtain ⟨p, m, tp, rs, rs2, pz, w, w2, k, rfl, _⟩ := h
    rfl
  · obtain ⟨p, m, tp, rs, rs2, pz, wd, w2, kk, rfl, hp, hm, htp, hlen, hrow, hn, hw50, k⟩ := h
    refine ⟨_, pss_cons (ps_setLc (i := 4) (own := [("_", 7)]) (g := gName 7) (tt := tYes) rfl scDu.nd rfl rfl rfl (pi_range1 (by rfl) T.range (pa_cons (pe_fld (pv 0) rfl) pa_nil)) (blkOk_by (N := nDu) (sc := defScope sDual) (by decide +kernel))
          (fun _ _ _ _ _ => pg_name (i := 7) scDu.nd rfl (Or.inl rfl)) (fun _ _ _ _ _ => pts_nil) (fun _ _ _ _ _ => pe_call0 GZ hr (by rfl) gZ kZ bZ .nil pass0))
      (pss_cons (ps_for PassesOwn.never rfl (RZ.pi_zipA (by rfl) TM.zip (pa_cons (pe_fld (pv 1) rfl) (pa_cons (pv 2) pa_nil))) (pg_tup (by rfl) (pgs_cons (pg_name (i := 5) scDu.nd rfl (Or.inl rfl)) (pgs_cons (pg_name (i := 6) scDu.nd rfl (Or.inl rfl)) pgs_nil)))
          (pss_one (ps_asg (pe_ix ix_tup (pv 5) (pe_op op_add (pe_fld (pv 0) rfl) (pv 3)) fun _ _ => rfl) (pg_sub (pv 4) (pv 6) set_list))))
      (pss_one (ps_ret (pe_callTy call_tuple_of (by rfl) TM.tuple (by decide +kernel) (pa_cons (pv 4) pa_nil))))), ?_⟩
    obtain ⟨dp, t0, ep, _⟩ := id hp
    obtain ⟨dx5, t5, hp5, pm, ht5, hM5⟩ := id hm
    have hlm := hM5.length
    refine ⟨_, rfl, p, CM, dp, _, _, rfl, ep, TM.cl, TM.nW, mf_width _ _, (wd : Int), rfl, by omega, by omega, fun D2 hD2 => ?_⟩
    refine lc_range (lo := 0) (n := wd) (fun i H4 => Col (RatQ C) D2 H H4 (List.replicate i q0)) (Col.start hD2) ?_ ?_
    · intro i H4 hi z4
      refine ⟨rfl, rfl, fun u H5 hu s5 _ => ?_⟩
      rw [List.replicate_succ']
      refine z4.push ((RatQ.stb C).x D2) hD2 s5 hu ?_
      rw [List.length_replicate]
      omega
    rintro H4 z4
    have s4 := z4.s
    have hp54 := s4 _ _ hp5
    have ht54 := s4 _ _ ht5
    have hM54 := Paired.imp (fun _ _ f => (VecR.stb C).same s4 f) hM5
    have htp4 := s4 _ _ htp
    have ep4 := s4 _ _ ep
    refine ⟨_, rfl, m, CM, dx5, _, _, rfl, hp54, TM.cl, TM.nR, mf_rows _ _, _, rfl, t5, tp, _, _, rfl, .inr ⟨SqT.of ht54, SqT.of htp4, for_it (walk_zipT (K := K) (a := t5) (b := tp) (xs := pm.map V.ref) (ys := pz.map fun k : Nat => V.int (k : Int)) (n := rs2.length) (by rw [List.length_map, List.length_map, hlm, hlen, Nat.min_self]))
      (fun i σ H5 => (∃ v6 v7 : Option V, σ = [some (.ref p), some (.ref m), some (.ref tp), some (.int (kk : Int)), some (.ref D2), v6, v7, none]) ∧ Col (RatQ C) D2 H H5 (solL (wd + kk) ((pz.zip rs2).take i) (List.replicate wd q0)) ∧ (H5 t5 = some (.tup (pm.map V.ref)) ∧ Paired (Tp (RatQ C) H5) pm rs2) ∧ H5 tp = some (.tup (pz.map fun k : Nat => V.int (k : Int))) ∧ H5 p = some (.ins CM dp (mf t0 wd)))
      ⟨⟨none, none, rfl⟩, z4, ⟨ht54, hM54⟩, htp4, ep4⟩ (fun i σ H5 _ ⟨_, z5, ⟨e5, _⟩, e6, _⟩ => ⟨SqT.of e5, SqT.of e6⟩) ?_ ?_⟩⟩
    · rintro i x σ H5 H6 hi ⟨⟨v6, v7, rfl⟩, z5, ⟨e5, q5⟩, e6, e7⟩ ⟨T', x1, x2, rfl, hT, rfl, g1, g2⟩
      obtain ⟨a, ha, rfl⟩ := item_of g1
      obtain ⟨row, hri, pa, hra, hR⟩ := Paired.at q5 ha
      obtain ⟨pi, hpi, rfl⟩ : ∃ pi, pz[i]? = some pi ∧ x2 = V.int (pi : Int) := by
        have g2 : (pz.map fun k : Nat => V.int (k : Int))[i]? = some x2 := g2
        rw [List.getElem?_map] at g2
        cases e : pz[i]? with
        | none => rw [e] at g2; cases g2
        | some y => rw [e] at g2; exact ⟨y, rfl, (Option.some.inj g2).symm⟩
      have hrw := hrow row (List.mem_of_getElem? hri)
      have hxz : (pz.zip rs2)[i]? = some (pi, row) := by
        rw [List.getElem?_zip_eq_some]
        exact ⟨hpi, hri⟩
      have hpw : pi < wd := hn _ (List.mem_of_getElem? hxz)
      obtain ⟨q, hqw⟩ : ∃ q, row[wd + kk]? = some q := ⟨_, List.getElem?_eq_getElem hrw⟩
      obtain ⟨c, hcw, hcq⟩ := Paired.at2 hR hqw
      have s6 : Same H5 (upd H5 T' (.tup [.ref a, .int (pi : Int)])) := same_upd hT
      obtain ⟨vs, k1, k2, k3⟩ := z5.put ((RatQ.stb C).x D2) hD2 s6 (p := c) (b := q) ((RatQ.stb C).same s6 hcq)
      have ne : ∀ {b : Addr} {o : HO}, H5 b = some o → (∀ xs, o ≠ .lst xs) → b ≠ D2 := fun {b o} e n z => by
        obtain ⟨_, y1, _⟩ := z5.at_
        rw [z, y1] at e
        exact n _ (Option.some.inj e).symm
      refine ⟨T', _, rfl, SqT.of upd_same, rfl, _, _, rfl, _, _, rfl, rfl, ?_⟩
      refine ⟨_, rfl, _, rfl, p, CM, dp, _, _, rfl, s6 _ _ e7, TM.cl, TM.nW, mf_width _ _, _, rfl, _, _, rfl, rfl, a, _, _, _, rfl, rfl, SqT.of (s6 _ _ hra), atI_of (k := wd + kk) (ref_at hcw), ?_⟩
      refine ⟨_, rfl, _, rfl, D2, vs, (pi : Int), pi, rfl, rfl, k1, ixN_of ?_, ⟨_, _, rfl⟩, ?_, ⟨?_, ?_⟩, ?_, ?_⟩
      · rw [k2, solL_len, List.length_replicate]
        exact hpw
      · rw [take_snoc hxz, solL_snoc]
        have : (pi, row).2.getD (wd + kk) q0 = q := getD_q hqw
        rw [this]
        exact k3 pi
      · rw [upd_ne (ne e5 (by intro xs z; cases z))]
        exact s6 _ _ e5
      · exact Paired.imp (fun a b f => VecR.stb C _ _ a b (fun b o e n => by
          have hb : b ≠ D2 := fun z => by
            rw [z, k1] at e
            exact n _ (Option.some.inj e).symm
          rw [upd_ne hb]
          exact e) ((VecR.stb C).same s6 f)) q5
      · rw [upd_ne (ne e6 (by intro xs z; cases z))]
        exact s6 _ _ e6
      · rw [upd_ne (ne e7 (by intro xs z; cases z))]
        exact s6 _ _ e7
    · rintro σ H5 ⟨⟨v6, v7, rfl⟩, z5, _, _, _⟩
      have lz : (pz.zip rs2).length = rs2.length := by
        rw [List.length_zip, hlen, Nat.min_self]
      rw [List.take_of_length_le (by omega)] at z5
      obtain ⟨pf, f1, f2⟩ := z5.at_
      exact ⟨_, rfl, D2, _, rfl, .inl ⟨SqL.of f1, fun tx htx => k _ tx (z5.s.trans (same_upd htx)) ⟨pf, upd_same, Paired.imp (fun _ _ f => (RatQ.stb C).same (same_upd htx) f) f2⟩⟩⟩
end
end Ind

set_option Elab.async false
set_option linter.all false
set_option maxRecDepth 100000
set_option maxHeartbeats 4000000
set_option exponentiation.threshold 9000
namespace Ind
open PySem PySem.Spec PyProof.Rows L2
open Builtin.Int (intBits)
theorem any_ge {w : Nat} {pz : List Nat} : ((pz.map fun k : Nat => decide ((w : Int) ≤ (k : Int))).any id) = true ↔ ∃ k ∈ pz, w ≤ k := by
  rw [List.any_map, List.any_eq_true]
  constructor
  · rintro ⟨k, hk, h⟩
    exact ⟨k, hk, by have := of_decide_eq_true h; omega⟩
  · rintro ⟨k, hk, h⟩
    exact ⟨k, hk, decide_eq_true (by omega)⟩
theorem zip_of {pz : List Nat} {rs2 : List (List Q2)} (hl : pz.length = rs2.length) {k : Nat} (h : k ∈ pz) : ∃ x ∈ pz.zip rs2, x.1 = k := by
  obtain ⟨i, hi, e⟩ := List.getElem_of_mem h
  refine ⟨(k, rs2[i]), List.mem_of_getElem? (i := i) ?_, rfl⟩
  rw [List.getElem?_zip_eq_some]
  exact ⟨by rw [List.getElem?_eq_getElem hi, e], List.getElem?_eq_getElem (by omega)⟩
section
variable {P : Program} {w : World} {K : PySem.W.Frag} {mg : Str → Option Value} {base : Heap} {C Z CM : Addr}
/-- the facts of what duals and dependence call -/
structure TxDu (P : Program) (w : World) (K : PySem.W.Frag) (mg : Str → Option Value) (base : Heap) (C CM : Addr) (fB fR : Addr) (fdB fdR : FuncData) : Prop where
  mB : Meth K CM "beside_unit" fB
  bB : Binds K fdB ["self"] []
  fnB : FnOk P w K mg base CX0 44 fB fdB ["self"] (spBu C CM)
  mR : Meth K CM "reduced" fR
  bR : Binds K fdR ["self"] []
  fnR : FnOk P w K mg base CX0 43 fR fdR ["self"] (spMRed C CM)
abbrev nDs : List Str := ["self", "matrix", "pivots", "pivot", "k"]
theorem scDs : FnScope nDs ["self"] (defScope sDuals) := ⟨rfl, rfl, rfl, by decide +kernel, rfl, by decide +kernel, by decide +kernel⟩
theorem ok_duals {f fB fR fD : Addr} {fd fdB fdR fdD : FuncData} (F : Fun K "duals" "Matrix.duals" sDuals f fd) (T : TxL K mg) (TM : TxM K mg CM) (D : TxDu P w K mg base C CM fB fR fdB fdR) (gy : mg "any" = none) (mD : Meth K CM "dual" fD) (bD : Binds K fdD ["self", "matrix", "pivots", "k"] []) (GD : FnOk P w K mg base CX0 44 fD fdD ["self", "matrix", "pivots", "k"] (spDual C CM)) : FnOk P w K mg base CX0 46 f fd ["self"] (spDuals C CM) := by
  refine F.ok scDs (fun vs H Q E h => ?_) (fun cdv A outer s H vs Q E hr h => ?_)
  · obtain ⟨p, rs, b, m, w, rfl, _⟩ := h
    rfl
  · obtain ⟨p, rs, b, mm, wd, rfl, hm, ho, hw, k⟩ := h
    have h43 := hr.mono (show 43 ≤ 45 by decide)
    have h44 := hr.mono (show 44 ≤ 45 by decide)
    refine ⟨_, pss_cons (ps_asg (pe_meth0 (pe_meth0 (pv 0) TM.cl D.mB D.fnB h44 D.bB .nil pass0) TM.cl D.mR D.fnR h43 D.bR .nil pass0) (pg_tup (by rfl) (pgs_cons (pg_name (i := 1) scDs.nd rfl (Or.inr rfl)) (pgs_cons (pg_name (i := 2) scDs.nd rfl (Or.inr rfl)) pgs_nil))))
      (pss_cons (ps_if (pt_val (pe_callB (cr_any rfl) (by rfl) gy (by decide +kernel) (pa_cons (pe_lc (own := [("pivot", 3)]) (g := gName 3) (tt := tYes) (te := tOp (rI0 fun i j => .bl (decide (j ≤ i))) (tVar 3) (tFld K (tVar 0) "width")) rfl scDs.nd (pi_tup (pv 2)) (blkOk_by (N := nDs) (sc := defScope sDuals) (by decide +kernel))
          (fun _ _ _ _ _ => pg_name (i := 3) scDs.nd rfl (Or.inl rfl)) (fun _ _ _ _ _ => pts_nil) (fun _ _ _ _ _ => pe_cmpR op_ge (pv 3) (pe_fld (pv 0) rfl) (nomark _))) pa_nil))) (pss_one (ps_ret pe_non)) pss_nil)
      (pss_one (ps_ret (pe_callTy call_tuple_of (by rfl) TM.tuple (by decide +kernel) (pa_cons (pe_lc (own := [("k", 4)]) (g := gName 4) (tt := tYes) rfl scDs.nd (pi_range1 (by rfl) T.range (pa_cons (pe_callB call_len_seq (by rfl) T.len PySem.boot_len (pa_cons (pe_fld (pv 0) rfl) pa_nil)) pa_nil)) (blkOk_by (N := nDs) (sc := defScope sDuals) (by decide +kernel))
          (fun _ _ _ _ _ => pg_name (i := 4) scDs.nd rfl (Or.inl rfl)) (fun _ _ _ _ _ => pts_nil) (fun _ _ _ _ _ => pe_meth (pv 0) TM.cl mD GD h44 bD .nil pass0 (pa_cons (pv 1) (pa_cons (pv 2) (pa_cons (pv 4) pa_nil))))) pa_nil))))), ?_⟩
    have hw50 := ho.wid
    have hl20 := ho.len
    rw [ub_len] at hl20
    obtain ⟨dx, t, hp, pm, etm, qm⟩ := id hm
    refine ⟨_, rfl, p, dx, _, rfl, hp, mf_no _ _ (by decide +kernel) (by decide +kernel), p, rs, wd, rfl, hm, by omega, fun r hr => by rw [hw r hr]; omega, fun H1 x s1 hx => ?_⟩
    obtain ⟨dx1, t1, ex1, _⟩ := id hx
    refine ⟨x, dx1, _, rfl, ex1, mf_no _ _ (by decide +kernel) (by decide +kernel), x, ubQ rs, b, mm, wd + rs.length, rfl, hx, ho, fun H2 t2 p2 tp rs2 pz s2 ht2 hp2 htp hred => ?_⟩
    rw [ub_len] at hred
    refine ⟨t2, _, rfl, SqT.of ht2, rfl, _, _, rfl, _, _, rfl, rfl, ?_⟩
    have S2 := s1.trans s2
    have hp22 := S2 _ _ hp
    have hlz := hred.len
    have hle := hred.le
    rw [ub_len] at hle
    -- any
    refine ⟨_, rfl, tp, rfl, ⟨_, SqT.of htp⟩, fun D1 hD1 => lc_tup (K := K) (a := tp) (xs := pz.map fun k : Nat => V.int (k : Int)) (fun i Ha => ColV D1 H2 Ha (((pz.take i).map fun k : Nat => decide ((wd : Int) ≤ (k : Int))).map V.bl)) (ColV.start hD1) (fun i Ha _ z => .of (z.s _ _ htp)) ?_ ?_⟩
    · rintro i x Ha hx z
      rw [List.getElem?_map] at hx
      obtain ⟨c, hc, rfl⟩ : ∃ c, pz[i]? = some c ∧ x = V.int (c : Int) := by
        cases e : pz[i]? with
        | none => rw [e] at hx; cases hx
        | some c => rw [e] at hx; exact ⟨c, rfl, (Option.some.inj hx).symm⟩
      have hil := (List.getElem?_eq_some_iff.mp hc).1
      refine ⟨rfl, _, rfl, _, rfl, p, CM, dx, _, _, rfl, z.s _ _ hp22, TM.cl, TM.nW, mf_width _ _, _, _, rfl, rfl, ?_⟩
      rw [take_snoc hc, List.map_append, List.map_append]
      refine z.push (v := V.bl (decide ((wd : Int) ≤ (c : Int)))) hD1 same_rfl ?_
      rw [List.length_map, List.length_map, List.length_take]
      omega
    rintro H3 z
    rw [List.length_map, List.take_length] at z
    refine ⟨D1, _, rfl, SqL.of z.at_, _, rfl, ?_⟩
    have S3 := S2.trans z.s
    obtain ⟨k1, k2⟩ := k H3 rs2 pz S3 hred
    by_cases c : ∃ q ∈ pz, wd ≤ q
    · rw [any_ge.mpr c]
      obtain ⟨q, hq, hge⟩ := c
      obtain ⟨x, hx, e⟩ := zip_of hlz hq
      exact iteT (k1 ⟨x, hx, by omega⟩)
    · have e : ((pz.map fun k : Nat => decide ((wd : Int) ≤ (k : Int))).any id) = false := by
        cases h : ((pz.map fun k : Nat => decide ((wd : Int) ≤ (k : Int))).any id) with
        | false => rfl
        | true => exact (c (any_ge.mp h)).elim
      rw [e]
      have hn : ∀ x ∈ pz.zip rs2, x.1 < wd := fun x hx => by
        have hm := (List.of_mem_zip hx).1
        exact Nat.lt_of_not_le fun q => c ⟨x.1, hm, q⟩
      refine iteF ?_
      refine ⟨_, rfl, p, CM, dx, _, _, rfl, S3 _ _ hp, TM.cl, TM.nR, mf_rows _ _, t, _, rfl, .inr (SqT.of (S3 _ _ etm)), (((pm.map V.ref).length : Nat) : Int), rfl, by omega, by rw [List.length_map, qm.length]; omega, fun D4 hD4 => ?_⟩
      rw [List.length_map, qm.length]
      refine lc_range (lo := 0) (n := rs.length) (fun i Ha => Col (Tp (RatQ C)) D4 H3 Ha (((List.range rs.length).take i).map (dualQ wd rs2 pz))) (Col.start hD4) ?_ ?_
      · intro i Ha hi y
        rw [Int.zero_add]
        have hpa := y.s _ _ (S3 _ _ hp)
        refine ⟨rfl, _, rfl, p, dx, _, rfl, hpa, mf_no _ _ (by decide +kernel) (by decide +kernel), _, rfl, _, rfl, _, rfl, ?_⟩
        refine ⟨p, p2, tp, rs, rs2, pz, wd, wd + rs.length, i, rfl, (MatAt.stb C CM _).same (S3.trans y.s) hm, (MatAt.stb C CM _).same (z.s.trans y.s) hp2, y.s _ _ (z.s _ _ htp), hlz, fun r hr => by rw [(hred.row r hr).1]; omega, hn, by omega, fun Hb tb sb htb => ?_⟩
        rw [range_take hi]
        refine y.push ((VecR.stb C).x D4) hD4 sb htb ?_
        rw [List.length_map, List.length_take]
        omega
      rintro H5 y
      rw [List.take_of_length_le (by rw [List.length_range]; exact Nat.le_refl _)] at y
      obtain ⟨pf, f1, f2⟩ := y.at_
      refine ⟨D4, _, rfl, .inl ⟨SqL.of f1, fun tx htx => ?_⟩⟩
      have sx := y.s.trans (same_upd (o := .tup (pf.map V.ref)) htx)
      exact (k _ rs2 pz (S3.trans sx) hred).2 hn tx ⟨pf, upd_same, Paired.imp (fun _ _ f => (VecR.stb C).same (same_upd htx) f) f2⟩
abbrev nDp : List Str := ["self", "matrix", "pivots", "row", "pivot"]
theorem scDp : FnScope nDp ["self"] (defScope sDep) := ⟨rfl, rfl, rfl, by decide +kernel, rfl, by decide +kernel, by decide +kernel⟩
theorem sIx_nat {n w : Nat} (h : w ≤ n) : HT.sIx n 0 (some (w : Int)) = w := by
  unfold HT.sIx
  simp only
  rw [if_neg (by omega)]
  simp
  exact Nat.min_eq_left h
theorem paired_drop {α β : Type} {F : α → β → Prop} : ∀ (k : Nat) {xs : List α} {ys : List β}, Paired F xs ys → Paired F (xs.drop k) (ys.drop k)
  | 0, _, _, h => h
  | k + 1, _, _, .nil => .nil
  | k + 1, _, _, .cons _ t => paired_drop k t
theorem ok_dep {f fB fR : Addr} {fd fdB fdR : FuncData} (F : Fun K "dependence" "Matrix.dependence" sDep f fd) (T : TxL K mg) (TM : TxM K mg CM) (D : TxDu P w K mg base C CM fB fR fdB fdR) : FnOk P w K mg base CX0 46 f fd ["self"] (spDep C CM) := by
  refine F.ok scDp (fun vs H Q E h => ?_) (fun cdv A outer s H vs Q E hr h => ?_)
  · obtain ⟨p, rs, b, m, w, rfl, _⟩ := h
    rfl
  · obtain ⟨p, rs, b, mm, wd, rfl, hm, ho, hw, k⟩ := h
    have h43 := hr.mono (show 43 ≤ 45 by decide)
    have h44 := hr.mono (show 44 ≤ 45 by decide)
    refine ⟨_, pss_cons (ps_asg (pe_meth0 (pe_meth0 (pv 0) TM.cl D.mB D.fnB h44 D.bB .nil pass0) TM.cl D.mR D.fnR h43 D.bR .nil pass0) (pg_tup (by rfl) (pgs_cons (pg_name (i := 1) scDp.nd rfl (Or.inl rfl)) (pgs_cons (pg_name (i := 2) scDp.nd rfl (Or.inl rfl)) pgs_nil))))
      (pss_cons (ps_for PassesOwn.never rfl (RZ.pi_zipA (by rfl) TM.zip (pa_cons (pe_fld (pv 1) rfl) (pa_cons (pv 2) pa_nil))) (pg_tup (by rfl) (pgs_cons (pg_name (i := 3) scDp.nd rfl (Or.inl rfl)) (pgs_cons (pg_name (i := 4) scDp.nd rfl (Or.inl rfl)) pgs_nil)))
          (pss_one (ps_if (pt_cmpR op_ge (pv 4) (pe_fld (pv 0) rfl) (nomark _)) (pss_one (ps_ret (pe_slice sl_tupA (pv 3) (po_some (pe_fld (pv 0) rfl)) po_none))) pss_nil)))
      (pss_one (ps_ret pe_non))), ?_⟩
    have hw50 := ho.wid
    have hl20 := ho.len
    rw [ub_len] at hl20
    obtain ⟨dx, t, hp, pm, etm, qm⟩ := id hm
    refine ⟨_, rfl, p, dx, _, rfl, hp, mf_no _ _ (by decide +kernel) (by decide +kernel), p, rs, wd, rfl, hm, by omega, fun r hr => by rw [hw r hr]; omega, fun H1 x s1 hx => ?_⟩
    obtain ⟨dx1, t1, ex1, _⟩ := id hx
    refine ⟨x, dx1, _, rfl, ex1, mf_no _ _ (by decide +kernel) (by decide +kernel), x, ubQ rs, b, mm, wd + rs.length, rfl, hx, ho, fun H2 t2 p2 tp rs2 pz s2 ht2 hp2 htp hred => ?_⟩
    rw [ub_len] at hred
    refine ⟨t2, _, rfl, SqT.of ht2, rfl, _, _, rfl, _, _, rfl, rfl, ?_⟩
    have S2 := s1.trans s2
    have hp22 := S2 _ _ hp
    have hlz := hred.len
    obtain ⟨d5, t5, e5, pm5, et5, qm5⟩ := id hp2
    have hlm := qm5.length
    refine ⟨_, rfl, p2, CM, d5, _, _, rfl, e5, TM.cl, TM.nR, mf_rows _ _, _, rfl, t5, tp, _, _, rfl, .inr ⟨SqT.of et5, SqT.of htp, for_it (walk_zipT (K := K) (a := t5) (b := tp) (xs := pm5.map V.ref) (ys := pz.map fun k : Nat => V.int (k : Int)) (n := rs2.length) (by rw [List.length_map, List.length_map, hlm, hlz, Nat.min_self]))
      (fun i σ H5 => Same H2 H5 ∧ (∃ v3 v4 : Option V, σ = [some (.ref p), some (.ref p2), some (.ref tp), v3, v4]) ∧ ∀ x ∈ (pz.zip rs2).take i, x.1 < wd)
      ⟨same_rfl, ⟨none, none, rfl⟩, fun x hx => by simp at hx⟩ (fun i σ H5 _ z => ⟨SqT.of (z.1 _ _ et5), SqT.of (z.1 _ _ htp)⟩) ?_ ?_⟩⟩
    · rintro i x σ H5 H6 hi ⟨s5, ⟨v3, v4, rfl⟩, hlt⟩ ⟨T', x1, x2, rfl, hT, rfl, g1, g2⟩
      obtain ⟨a, ha, rfl⟩ := item_of g1
      obtain ⟨row, hri, hra0⟩ := Paired.at qm5 ha
      obtain ⟨pi, hpi, rfl⟩ : ∃ pi, pz[i]? = some pi ∧ x2 = V.int (pi : Int) := by
        have g2 : (pz.map fun k : Nat => V.int (k : Int))[i]? = some x2 := g2
        rw [List.getElem?_map] at g2
        cases e : pz[i]? with
        | none => rw [e] at g2; cases g2
        | some y => rw [e] at g2; exact ⟨y, rfl, (Option.some.inj g2).symm⟩
      have hxz : (pz.zip rs2)[i]? = some (pi, row) := by
        rw [List.getElem?_zip_eq_some]
        exact ⟨hpi, hri⟩
      have hrl := (hred.row row (List.mem_of_getElem? hri)).1
      have s6 : Same H5 (upd H5 T' (.tup [.ref a, .int (pi : Int)])) := same_upd hT
      have S6 := s5.trans s6
      have hp6 := S6 _ _ hp22
      obtain ⟨pa, era, qra⟩ := (VecR.stb C).same S6 hra0
      refine ⟨T', _, rfl, SqT.of upd_same, rfl, _, _, rfl, _, _, rfl, rfl, ?_⟩
      refine ⟨_, rfl, _, rfl, p, CM, dx, _, _, rfl, hp6, TM.cl, TM.nW, mf_width _ _, _, _, rfl, rfl, _, rfl, ?_⟩
      by_cases c : wd ≤ pi
      · rw [decide_eq_true (show (wd : Int) ≤ (pi : Int) by omega)]
        have hpl : (pa.map V.ref).length = wd + rs.length := by rw [List.length_map, qra.length, hrl]
        have hsx : HT.sIx (pa.map V.ref).length 0 (some (wd : Int)) = wd := sIx_nat (by omega)
        refine iteT ⟨_, rfl, _, rfl, p, CM, dx, _, _, rfl, hp6, TM.cl, TM.nW, mf_width _ _, _, rfl, a, _, rfl, SqT.of era, fun z => ?_, fun _ tn htn => ?_⟩
        · have z1 := z.1
          rw [hsx] at z1
          refine (k _ rs2 pz (S2.trans S6) hred).2 (pi, row) a (List.mem_of_getElem? hxz) c ?_
          have e : (pi, row).2.drop wd = row := by
            show row.drop wd = row
            rw [z1]
            rfl
          rw [e]
          exact ⟨pa, era, qra⟩
        · have hcut : cutV (pa.map V.ref) (some (wd : Int)) none = (pa.drop wd).map V.ref := by
            unfold cutV
            rw [hsx, show HT.sIx (pa.map V.ref).length (pa.map V.ref).length none = (pa.map V.ref).length from rfl, List.map_drop]
            exact List.take_of_length_le (by rw [List.length_drop]; exact Nat.le_refl _)
          have sn := same_upd (o := .tup (cutV (pa.map V.ref) (some (wd : Int)) none)) htn
          refine (k _ rs2 pz ((S2.trans S6).trans sn) hred).2 (pi, row) tn (List.mem_of_getElem? hxz) c ⟨pa.drop wd, by rw [upd_same, hcut], ?_⟩
          exact paired_drop wd (Paired.imp (fun _ _ f => (RatQ.stb C).same sn f) qra)
      · rw [decide_eq_false (show ¬ (wd : Int) ≤ (pi : Int) by omega)]
        refine iteF ⟨S6, ⟨_, _, rfl⟩, fun x hx => ?_⟩
        rw [take_snoc hxz] at hx
        rcases List.mem_append.mp hx with h | h
        · exact hlt x h
        · rw [List.mem_singleton.mp h]
          show pi < wd
          omega
    · rintro σ H5 ⟨s5, ⟨v3, v4, rfl⟩, hlt⟩
      rw [List.take_of_length_le (by rw [List.length_zip, hlz, Nat.min_self]; exact Nat.le_refl _)] at hlt
      exact (k H5 rs2 pz (S2.trans s5) hred).1 hlt
end
end Ind

set_option Elab.async false
set_option linter.all false
set_option maxRecDepth 100000
set_option maxHeartbeats 4000000
set_option exponentiation.threshold 9000
namespace Ind
open PySem PySem.Spec PyProof.Rows L2
open Builtin.Int (intBits)
abbrev sShI : Stmt := top 18
/-! ### rows of numbers that differ -/
theorem first_diff {α : Type} [DecidableEq α] : ∀ {xs ys : List α}, xs.length = ys.length → xs ≠ ys → ∃ (k : Nat) (x y : α), (∀ i, i < k → xs[i]? = ys[i]?) ∧ xs[k]? = some x ∧ ys[k]? = some y ∧ x ≠ y
  | [], [], _, h => (h rfl).elim
  | [], y :: ys, h, _ => by simp at h
  | x :: xs, [], h, _ => by simp at h
  | x :: xs, y :: ys, hl, h => by
    by_cases e : x = y
    · subst e
      obtain ⟨k, a, b, h1, h2, h3, h4⟩ := first_diff (xs := xs) (ys := ys) (by simpa using hl) fun z => h (by rw [z])
      refine ⟨k + 1, a, b, fun i hi => ?_, h2, h3, h4⟩
      cases i with
      | zero => rfl
      | succ i => exact h1 i (by omega)
    · exact ⟨0, x, y, fun i hi => absurd hi (Nat.not_lt_zero _), rfl, rfl, e⟩
def DTupM (D Dn : Eqv) : Eqv := fun x y H => ∃ (a b : Addr) (xs ys : List V) (k : Nat) (x0 y0 : V), x = .ref a ∧ y = .ref b ∧ a ≠ b ∧ H a = some (.tup xs) ∧ H b = some (.tup ys) ∧ xs.length = ys.length ∧ (∀ i x' y', i < k → xs[i]? = some x' → ys[i]? = some y' → D x' y' H) ∧ xs[k]? = some x0 ∧ ys[k]? = some y0 ∧ Dn x0 y0 H
theorem mon_tupM {D Dn : Eqv} (m1 : Mon D) (m2 : Mon Dn) : Mon (DTupM D Dn) := fun x y H H' e ⟨a, b, xs, ys, k, x0, y0, e1, e2, ne, h1, h2, hl, hlt, hx, hy, hn⟩ =>
  ⟨a, b, xs, ys, k, x0, y0, e1, e2, ne, e _ _ h1, e _ _ h2, hl, fun i x' y' c a b => m1 _ _ _ _ e (hlt i x' y' c a b), hx, hy, m2 _ _ _ _ e hn⟩
theorem ncG_tupM {X : Cx} {n : Nat} {D Dn : Eqv} (mD : Mon D) (mN : Mon Dn) (hD : EqG X n D) (hN : NeG X n Dn) : NcG X (n + 1) (DTupM D Dn) := fun A pins s σ H x y u v sb I rx ry ⟨a, b, xs, ys, k, x0, y0, e1, e2, ne, h1, h2, hl, hlt, hx, hy, hn⟩ =>
  ncG_tup mD mN hD hN A pins s σ H x y u v sb I rx ry ⟨a, b, xs, ys, k, x0, y0, e1, e2, ne, SqT.of h1, SqT.of h2, hl, hlt, hx, hy, hn⟩
abbrev DRowN (C : Addr) : Eqv := DTupM (DRat C) (DRatN C)
theorem paired_inj {α β : Type} {F : α → β → Prop} (h : ∀ a x y, F a x → F a y → x = y) : ∀ {xs : List α} {ys zs : List β}, Paired F xs ys → Paired F xs zs → ys = zs
  | _, _, _, .nil, .nil => rfl
  | _, _, _, .cons a t, .cons b u => by rw [h _ _ _ a b, paired_inj h t u]
theorem ref_map_inj : ∀ {xs ys : List Addr}, xs.map V.ref = ys.map V.ref → xs = ys
  | [], [], _ => rfl
  | [], y :: ys, h => by simp at h
  | x :: xs, [], h => by simp at h
  | x :: xs, y :: ys, h => by
    rw [List.map_cons, List.map_cons] at h
    obtain ⟨h1, h2⟩ := List.cons.inj h
    rw [V.ref.inj h1, ref_map_inj h2]
theorem tpR_inj {C : Addr} {H : Hp} {a : Addr} {r s : List Q2} (h1 : Tp (RatQ C) H a r) (h2 : Tp (RatQ C) H a s) : r = s := by
  obtain ⟨p1, e1, q1⟩ := h1
  obtain ⟨p2, e2, q2⟩ := h2
  have e := ref_map_inj (HO.tup.inj (Option.some.inj (e1.symm.trans e2)))
  subst e
  exact paired_inj (F := RatQ C H) (fun a x y h h' => ratQ_inj (C := C) (H := H) (a := a) h h') q1 q2
theorem d_rowN {C : Addr} {H : Hp} {a b : Addr} {r s : List Q2} (h1 : Tp (RatQ C) H a r) (h2 : Tp (RatQ C) H b s) (hl : r.length = s.length) (ne : r ≠ s) : DRowN C (.ref a) (.ref b) H := by
  obtain ⟨k, x, y, hlt, hx, hy, hxy⟩ := first_diff hl ne
  have hab : a ≠ b := fun e => ne (by subst e; exact tpR_inj h1 h2)
  obtain ⟨p1, e1, q1⟩ := h1
  obtain ⟨p2, e2, q2⟩ := h2
  obtain ⟨u, hu, fu⟩ := Paired.at2 q1 hx
  obtain ⟨v, hv, fv⟩ := Paired.at2 q2 hy
  refine ⟨a, b, _, _, k, .ref u, .ref v, rfl, rfl, hab, e1, e2, by rw [List.length_map, List.length_map, q1.length, q2.length, hl], fun i x' y' c gx gy => ?_, ref_at hu, ref_at hv, u, v, x, y, rfl, rfl, fu, fv, hxy⟩
  obtain ⟨u', hu', rfl⟩ := item_of gx
  obtain ⟨v', hv', rfl⟩ := item_of gy
  obtain ⟨z1, ez1, f1⟩ := Paired.at q1 hu'
  obtain ⟨z2, ez2, f2⟩ := Paired.at q2 hv'
  have e := hlt i c
  rw [ez1, ez2] at e
  cases e
  exact d_rat f1 f2
theorem d_lst {C : Addr} {H : Hp} {a b : Addr} {rs : List (List Q2)} (K : PySem.W.Frag) (h1 : Ls (Tp (RatQ C)) H a rs) (h2 : Ls (Tp (RatQ C)) H b rs) : ∃ xs ys, H a = some (.lst xs) ∧ H b = some (.lst ys) ∧ Prs (DRow K C) xs ys H := by
  obtain ⟨p1, e1, g1⟩ := h1
  obtain ⟨p2, e2, g2⟩ := h2
  exact ⟨_, _, e1, e2, prs_of (F := Tp (RatQ C)) (fun a b x h h' => d_row h h') g1 g2⟩
theorem refs_all (ps : List Addr) : ∀ v ∈ ps.map V.ref, ∃ p, v = V.ref p := fun v hv => by
  obtain ⟨p, _, rfl⟩ := List.mem_map.mp hv
  exact ⟨p, rfl⟩
theorem d_lstN {K : PySem.W.Frag} {C : Addr} {H : Hp} {a b : Addr} {rs ss : List (List Q2)} {n : Nat} (h1 : Ls (Tp (RatQ C)) H a rs) (h2 : Ls (Tp (RatQ C)) H b ss) (hab : a ≠ b) (hl : rs.length = ss.length) (w1 : ∀ r ∈ rs, r.length = n) (w2 : ∀ r ∈ ss, r.length = n) (ne : rs ≠ ss) : DLstN K (DRow K C) (DRowN C) (.ref a) (.ref b) H := by
  obtain ⟨k, x, y, hlt, hx, hy, hxy⟩ := first_diff hl ne
  obtain ⟨p1, e1, q1⟩ := h1
  obtain ⟨p2, e2, q2⟩ := h2
  obtain ⟨u, hu, fu⟩ := Paired.at2 q1 hx
  obtain ⟨v, hv, fv⟩ := Paired.at2 q2 hy
  refine ⟨a, b, _, _, k, .ref u, .ref v, rfl, rfl, hab, e1, e2, by rw [List.length_map, List.length_map, q1.length, q2.length, hl], refs_all p1, refs_all p2, fun i x' y' c gx gy => ?_, ref_at hu, ref_at hv, d_rowN fu fv (by rw [w1 x (List.mem_of_getElem? hx), w2 y (List.mem_of_getElem? hy)]) hxy⟩
  obtain ⟨u', hu', rfl⟩ := item_of gx
  obtain ⟨v', hv', rfl⟩ := item_of gy
  obtain ⟨z1, ez1, f1⟩ := Paired.at q1 hu'
  obtain ⟨z2, ez2, f2⟩ := Paired.at q2 hv'
  have e := hlt i c
  rw [ez1, ez2] at e
  cases e
  exact d_row f1 f2
/-- the products of the duals with the rows -/
def ProdQ (w : Nat) (rs ds ps : List (List Q2)) : Prop := Paired (fun d row => Paired (fun r q => Lo q ∧ rv q = dt w (rowF d) (rowF r)) rs row) ds ps
theorem prod_fits {w : Nat} {rs ds ps : List (List Q2)} (hl : ds.length = rs.length) (h : ProdQ w rs ds ps) : ps = unitsQ rs.length ↔ FitsQ w rs ds := by
  constructor
  · intro e a k d r hd hr
    obtain ⟨row, hrow, g⟩ := Paired.at h hd
    obtain ⟨q, hq, _, g2⟩ := Paired.at g hr
    have ha : a < rs.length := by
      have := (List.getElem?_eq_some_iff.mp hd).1
      omega
    have hk := (List.getElem?_eq_some_iff.mp hr).1
    rw [e, units_at ha] at hrow
    cases hrow
    rw [unit_get hk] at hq
    rw [← g2, ← Option.some.inj hq]
    split
    · exact rv_q1
    · exact rv_q0
  · intro f
    have lp := h.length
    refine List.ext_getElem? fun a => ?_
    by_cases ha : a < rs.length
    · rw [units_at ha]
      obtain ⟨d, hd⟩ : ∃ d, ds[a]? = some d := ⟨_, List.getElem?_eq_getElem (by omega)⟩
      obtain ⟨row, hrow, g⟩ := Paired.at h hd
      rw [hrow]
      congr 1
      have lr := g.length
      refine List.ext_getElem? fun k => ?_
      by_cases hk : k < rs.length
      · rw [unit_get hk]
        obtain ⟨r, hr⟩ : ∃ r, rs[k]? = some r := ⟨_, List.getElem?_eq_getElem hk⟩
        obtain ⟨q, hq, lo, g2⟩ := Paired.at g hr
        rw [hq]
        congr 1
        have := f a k d r hd hr
        rw [this] at g2
        by_cases e : k = a
        · rw [if_pos e] at g2 ⊢
          exact lo_eq lo ⟨by decide, by decide⟩ (by rw [g2, rv_q1])
        · rw [if_neg e] at g2 ⊢
          exact lo_eq lo lo_q0 (by rw [g2, rv_q0])
      · rw [List.getElem?_eq_none (by omega), List.getElem?_eq_none (by rw [unit_len]; omega)]
    · rw [List.getElem?_eq_none (by omega), List.getElem?_eq_none (by rw [units_len]; omega)]
theorem prod_row {w : Nat} {rs ds ps : List (List Q2)} (h : ProdQ w rs ds ps) : ∀ r ∈ ps, r.length = rs.length := fun r hr => by
  obtain ⟨d, _, g⟩ := Paired.rt h r hr
  exact g.length.symm
theorem units_row (n : Nat) : ∀ r ∈ unitsQ n, r.length = n := fun r hr => by
  unfold unitsQ at hr
  obtain ⟨k, _, rfl⟩ := List.mem_map.mp hr
  exact unit_len _ _
end Ind

set_option Elab.async false
set_option linter.all false
set_option maxRecDepth 100000
set_option maxHeartbeats 4000000
set_option exponentiation.threshold 9000
namespace Ind
open PySem PySem.Spec PyProof.Rows L2
open Builtin.Int (intBits)
abbrev scSIa : Scope := { kind := .function, names := [(".0", .local), ("dual", .cell), ("tuple", .globalImplicit), ("rows", .cell)], isGenerator := false, isCoroutine := false }
abbrev scSIb : Scope := { kind := .function, names := [(".0", .local), ("row", .local), ("dot", .globalImplicit), ("dual", .free)], isGenerator := false, isCoroutine := false }
abbrev nSI : List Str := ["rows", "width", "duals", "count", "products", "dual", "row", "k"]
theorem blkSI : BlkOk nSI scSIa scSIb [("row", 6)] := blkOk_by (by decide +kernel)
def spShI (C : Addr) : Sp := fun vs H Q _ => ∃ (tR D : Addr) (rs : List (List Q2)) (w : Nat), vs = [.ref tR, .int (w : Int), .ref D] ∧ MatT C H tR rs ∧ rs.length ≤ 50 ∧ w ≤ 50 ∧
  ((∃ ds, MatT C H D ds ∧ ds.length ≠ rs.length ∧ Q (.bl false) H) ∨ (∃ ys, H D = some (.lst ys) ∧ Q (.bl false) H) ∨
   ∃ ds b m, MatT C H D ds ∧ ds.length = rs.length ∧ (∀ d ∈ ds, d.length = w ∧ RowOk b m d) ∧ (∀ r ∈ rs, r.length = w ∧ RowOk b m r) ∧ b ≤ 4000 ∧ m ≤ 4000 ∧ ∀ (H' : Hp) (t : Bool), Same H H' → (t = true ↔ FitsQ w rs ds) → Q (.bl t) H')
section
variable {P : Program} {w : World} {K : PySem.W.Frag} {mg : Str → Option Value} {base : Heap} {C Z CM : Addr}
/-- the facts of what shows_independent calls -/
structure TxSI (P : Program) (w : World) (K : PySem.W.Frag) (mg : Str → Option Value) (base : Heap) (C : Addr) (fV fD fU fE : Addr) (fdV fdD fdU fdE : FuncData) : Prop where
  gV : mg "is_vector" = some (.ref fV)
  kV : PySem.W.keepIn K (.ref fV) = true
  bV : Binds K fdV ["value", "length"] []
  fnV : FnOk P w K mg base CX0 1 fV fdV ["value", "length"] (spIsV C)
  gD : mg "dot" = some (.ref fD)
  kD : PySem.W.keepIn K (.ref fD) = true
  bD : Binds K fdD ["a", "b"] []
  fnD : FnOk P w K mg base CX0 43 fD fdD ["a", "b"] (spDot C)
  gU : mg "unit_vector" = some (.ref fU)
  kU : PySem.W.keepIn K (.ref fU) = true
  bU : Binds K fdU ["at", "length"] []
  fnU : FnOk P w K mg base CX0 43 fU fdU ["at", "length"] (spUv C)
  fnE : FnOk P w K mg base CX0 1 fE fdE ["self", "other"] (spEqR K C)
  aE : PySem.W.findIn K (.ref C) "__eq__" = some (some (.ref fE))
  iE : PySem.W.isFn K (.ref fE) = true
  bE : Binds K fdE ["self", "other"] []
theorem scSI : FnScope nSI ["rows", "width", "duals"] (defScope sShI) := ⟨rfl, rfl, rfl, by decide +kernel, rfl, by decide +kernel, by decide +kernel⟩
theorem ok_shI {f fV fD fU fE : Addr} {fd fdV fdD fdU fdE : FuncData} (F : Fun K "shows_independent" "shows_independent" sShI f fd) (T : TxL K mg) (R : TxR K mg C Z) (TM : TxM K mg CM) (I0 : TxI K C) (ga : mg "all" = none) (S : TxSI P w K mg base C fV fD fU fE fdV fdD fdU fdE) : FnOk P w K mg base CX0 45 f fd ["rows", "width", "duals"] (spShI C) := by
  refine F.ok (k := 44) scSI (fun vs H Q E h => ?_) (fun cdv A outer s H vs Q E hr h => ?_)
  · obtain ⟨t, D, rs, w, rfl, _⟩ := h
    rfl
  · obtain ⟨tR, D, rs, wd, rfl, hR, hl1, hw1, h⟩ := h
    have h1 := hr.mono (show 1 ≤ 44 by decide)
    have h43 := hr.mono (show 43 ≤ 44 by decide)
    generalize hX : (cxOf CX0 P w K mg base nSI "shows_independent" (defScope sShI) f cdv A outer s H E).nox = X
    have qe : EqC X CX0 1 C fE fdE ["self", "other"] (spEqR X.K C) E0 := by
      subst hX
      exact ⟨S.fnE, S.aE, S.iE, S.bE, pass0⟩
    have e1 : EqG X 1 (DRat C) := by
      subst hX
      exact eqG_ins (E := E0) (eqRat S.fnE) S.aE S.iE S.bE pass0
    have e2 : EqG X 2 (DRow K C) := by
      subst hX
      exact eqG_tup (mon_rat C) e1
    have hr' : Room 3 X.A := by
      subst hX
      exact hr.mono (show 3 ≤ 44 by decide)
    have n1 : NcG X 1 (DRatN C) := by
      subst hX
      exact ncG_rat qe R.cl I0
    have n2 : NcG X 2 (DRowN C) := ncG_tupM (mon_rat C) (mon_ratN C) e1 (neG_of n1 dratN_ne)
    have n2' : NeG X 2 (DRowN C) := neG_of n2 fun x y H ⟨a, b, _, _, _, _, _, e1, e2, ne, _⟩ => ⟨a, b, e1, e2, ne⟩
    have oE : OpR X (compareOp .Eq) (fun x y H Q => rEqG (DList (DRow K C)) x y H Q ∨ rNeG (DLstN K (DRow K C) (DRowN C)) x y H Q) := by
      refine OpR.or (op_eqG (rcG_list (by subst hX; exact mon_tup (mon_rat C)) e2) hr') (op_neG (n := 3) ?_ hr')
      have := ncG_list (X := X) (mon_tup (mon_rat C)) (mon_tupM (mon_rat C) (mon_ratN C)) e2 n2'
      subst hX
      exact this
    subst hX
    refine ⟨_, pss_cons (ps_if (PW.pt (pw_or (pt_not (pt_val (pe_callB call_isi (by rfl) T.isinstance (by decide +kernel) (pa_cons (pv 2) (pa_cons (pe_bltn (v := .ty "tuple") (by rfl) TM.tuple (by decide +kernel) rfl) pa_nil)))))
          (pw_or1 (pt_cmpR op_ne (pe_callB call_len_seq (by rfl) T.len PySem.boot_len (pa_cons (pv 2) pa_nil)) (pe_callB call_len_seq (by rfl) T.len PySem.boot_len (pa_cons (pv 0) pa_nil)) (nomark _))))) (pss_one (ps_ret pe_bl)) pss_nil)
      (pss_cons (ps_if (pt_not (pt_val (pe_callB (cr_all rfl) (by rfl) ga (by decide +kernel) (pa_cons (pe_lc (own := [("dual", 5)]) (g := gName 5) (tt := tYes) (te := tCall (spIsV C) [] E0 (tCons (tVar 5) (tCons (tVar 1) tNil))) rfl scSI.nd (pi_tup (pv 2)) (blkOk_by (N := nSI) (sc := defScope sShI) (by decide +kernel))
          (fun _ _ _ _ _ => pg_name (i := 5) scSI.nd rfl (Or.inl rfl)) (fun _ _ _ _ _ => pts_nil) (fun _ _ _ _ _ => pe_call S.fnV h1 (by rfl) S.gV S.kV S.bV .nil pass0 (pa_cons (pv 5) (pa_cons (pv 1) pa_nil)))) pa_nil)))) (pss_one (ps_ret pe_bl)) pss_nil)
      (pss_cons (ps_set (i := 3) scSI.nd rfl (Or.inr rfl) (pe_callB call_len_seq (by rfl) T.len PySem.boot_len (pa_cons (pv 0) pa_nil)))
      (pss_cons (ps_setLc (i := 4) (own := [("dual", 5)]) (g := gName 5) (tt := tYes) (te := tCB (rTup K) (tCons (tLc (iTup K (tVar 0)) (gName 6) tYes (tCall (spDot C) [] E0 (tCons (tVar 5) (tCons (tVar 6) tNil))) [6]) tNil)) rfl scSI.nd rfl rfl rfl (pi_tup (pv 2)) (blkOk_by (N := nSI) (sc := defScope sShI) (by decide +kernel))
          (fun _ _ _ _ _ => pg_name (i := 5) scSI.nd rfl (Or.inr rfl)) (fun _ _ _ _ _ => pts_nil)
          (fun _ _ _ _ _ => pe_callTy (T := "tuple") (r := rTup K) call_tup (by rfl) TM.tuple (by decide +kernel) (pa_cons (pe_lc (own := [("row", 6)]) (g := gName 6) (tt := tYes) (te := tCall (spDot C) [] E0 (tCons (tVar 5) (tCons (tVar 6) tNil))) rfl scSI.nd (pi_tup (pv 0)) blkSI
            (fun _ _ _ _ _ => pg_name (i := 6) scSI.nd rfl (Or.inl rfl)) (fun _ _ _ _ _ => pts_nil) (fun _ _ _ _ _ => pe_call S.fnD h43 (by rfl) S.gD S.kD S.bD .nil pass0 (pa_cons (pv 5) (pa_cons (pv 6) pa_nil)))) pa_nil)))
      (pss_one (ps_ret (pe_cmpR oE (pv 4) (pe_lc (own := [("k", 7)]) (g := gName 7) (tt := tYes) (te := tCall (spUv C) [] E0 (tCons (tVar 7) (tCons (tVar 3) tNil))) rfl scSI.nd (pi_range1 (by rfl) T.range (pa_cons (pv 3) pa_nil)) (blkOk_by (N := nSI) (sc := defScope sShI) (by decide +kernel))
          (fun _ _ _ _ _ => pg_name (i := 7) scSI.nd rfl (Or.inl rfl)) (fun _ _ _ _ _ => pts_nil) (fun _ _ _ _ _ => pe_call S.fnU h43 (by rfl) S.gU S.kU S.bU .nil pass0 (pa_cons (pv 7) (pa_cons (pv 3) pa_nil)))) (nomark _))))))), ?_⟩
    obtain ⟨pr, er, qr⟩ := id hR
    have lr := qr.length
    rcases h with ⟨ds, ⟨pd, ed, qd⟩, hne, q⟩ | ⟨ys, hD, q⟩ | ⟨ds, b, m, hD, hdl, hds, hrs, hb, hm, k⟩
    · refine ⟨_, rfl, _, _, _, _, true, rfl, ClsV.ty "tuple", .base (.tup ed), kit_ty (by decide +kernel), true, rfl, ?_⟩
      refine iteF ⟨_, rfl, D, _, rfl, .inr (SqT.of ed), _, rfl, tR, _, rfl, .inr (SqT.of er), rfl, _, rfl, ?_⟩
      rw [List.length_map, qd.length, List.length_map, lr, show decide (V.int ((ds.length : Nat) : Int) = V.int ((rs.length : Nat) : Int)) = false from decide_eq_false (fun z => hne (by have := V.int.inj z; omega))]
      exact iteT q
    · refine ⟨_, rfl, _, _, _, _, false, rfl, ClsV.ty "tuple", .base (.lst hD), kit_ty (by decide +kernel), false, rfl, ?_⟩
      exact iteT q
    · obtain ⟨pd, ed, qd⟩ := id hD
      have ld := qd.length
      refine ⟨_, rfl, _, _, _, _, true, rfl, ClsV.ty "tuple", .base (.tup ed), kit_ty (by decide +kernel), true, rfl, ?_⟩
      refine iteF ⟨_, rfl, D, _, rfl, .inr (SqT.of ed), _, rfl, tR, _, rfl, .inr (SqT.of er), rfl, _, rfl, ?_⟩
      rw [List.length_map, ld, List.length_map, lr, hdl, show decide (V.int ((rs.length : Nat) : Int) = V.int ((rs.length : Nat) : Int)) = true from decide_eq_true rfl]
      refine iteF ?_
      -- all are vectors
      refine ⟨_, rfl, D, rfl, ⟨_, SqT.of ed⟩, fun D1 hD1 => lc_tup (K := K) (a := D) (xs := pd.map V.ref) (fun i Ha => ColV D1 H Ha ((List.replicate i true).map V.bl)) (ColV.start hD1) (fun i Ha _ z => .of (z.s _ _ ed)) ?_ ?_⟩
      · rintro i x Ha hx z
        obtain ⟨a, ha, rfl⟩ := item_of hx
        obtain ⟨d, hdi, hda⟩ := Paired.at qd ha
        have hdw := (hds d (List.mem_of_getElem? hdi)).1
        have hil := (List.getElem?_eq_some_iff.mp hdi).1
        refine ⟨rfl, _, rfl, _, rfl, a, wd, rfl, by omega, .inl ⟨d, (VecR.stb C).same z.s hda, by omega, fun Hb sb => ?_⟩⟩
        rw [decide_eq_true hdw, List.replicate_succ', List.map_append]
        refine z.push (v := V.bl true) hD1 sb ?_
        rw [List.length_map, List.length_replicate]
        omega
      rintro H1 z
      have e2 : ∀ m : Nat, (List.replicate m true).all id = true := fun m => by
        rw [List.all_eq_true]
        intro x hx
        exact (List.mem_replicate.mp hx).2
      refine ⟨D1, _, rfl, SqL.of z.at_, _, rfl, ?_⟩
      rw [e2]
      refine iteF ?_
      have s1 := z.s
      -- count
      refine ⟨_, rfl, tR, _, rfl, .inr (SqT.of (s1 _ _ er)), ?_⟩
      rw [List.length_map, lr]
      have ed1 := s1 _ _ ed
      have qd1 := Paired.imp (fun _ _ f => (VecR.stb C).same s1 f) qd
      -- products
      refine ⟨_, rfl, D, rfl, ⟨_, SqT.of ed1⟩, fun D2 hD2 => lc_tup (K := K) (a := D) (xs := pd.map V.ref) (fun i Ha => ∃ ps, Col (Tp (RatQ C)) D2 H1 Ha ps ∧ ProdQ wd rs (ds.take i) ps) ⟨[], Col.start hD2, .nil⟩ (fun i Ha _ z => let ⟨_, z, _⟩ := z; .of (z.s _ _ ed1)) ?_ ?_⟩
      · rintro i x Ha hx ⟨ps, y, hps⟩
        obtain ⟨a, ha, rfl⟩ := item_of hx
        obtain ⟨d, hdi, hda⟩ := Paired.at qd1 ha
        have hd := hds d (List.mem_of_getElem? hdi)
        have er2 := y.s _ _ (s1 _ _ er)
        have qr2 := Paired.imp (fun _ _ f => (VecR.stb C).same (s1.trans y.s) f) qr
        have hda2 := (VecR.stb C).same y.s hda
        refine ⟨rfl, _, rfl, tR, rfl, ⟨_, SqT.of er2⟩, fun D3 hD3 => lc_tup (K := K) (a := tR) (xs := pr.map V.ref) (fun j Hb => ∃ row, Col (RatQ C) D3 Ha Hb row ∧ Paired (fun r q => Lo q ∧ rv q = dt wd (rowF d) (rowF r)) (rs.take j) row) ⟨[], Col.start hD3, .nil⟩ (fun j Hb _ z => let ⟨_, z, _⟩ := z; .of (z.s _ _ er2)) ?_ ?_⟩
        · rintro j x Hb hx ⟨row, y3, hrow⟩
          obtain ⟨u, hu, rfl⟩ := item_of hx
          obtain ⟨r, hri, hru⟩ := Paired.at qr2 hu
          have hr0 := hrs r (List.mem_of_getElem? hri)
          have hjl := (List.getElem?_eq_some_iff.mp hri).1
          refine ⟨rfl, _, rfl, _, rfl, a, u, d, r, b, m, rfl, (VecR.stb C).same y3.s hda2, (VecR.stb C).same y3.s hru, by omega, hd.2, hr0.2, hb, hm, fun Hc c q sc hc lo hv => ?_⟩
          have hrl := hrow.length
          rw [List.length_take] at hrl
          obtain ⟨acc, k1, k2, k3⟩ := y3.push ((RatQ.stb C).x D3) hD3 sc hc (by omega)
          refine ⟨acc, k1, k2, _, k3, ?_⟩
          rw [take_snoc hri]
          exact Paired.snocP hrow ⟨lo, by rw [hv, hd.1]⟩
        · rintro Hb ⟨row, y3, hrow⟩
          rw [List.length_map, lr, List.take_length] at hrow
          obtain ⟨p3, e3, q3⟩ := y3.at_
          refine ⟨D3, _, rfl, .inl ⟨SqL.of e3, fun t3 ht3 => ?_⟩⟩
          have s3 := y3.s.trans (same_upd (o := .tup (p3.map V.ref)) ht3)
          have hpl := hps.length
          rw [List.length_take] at hpl
          obtain ⟨acc, k1, k2, k3⟩ := y.push ((VecR.stb C).x D2) hD2 s3 (b := row) ⟨p3, upd_same, Paired.imp (fun _ _ f => (RatQ.stb C).same (same_upd ht3) f) q3⟩ (by omega)
          refine ⟨acc, k1, k2, _, k3, ?_⟩
          rw [take_snoc hdi]
          exact Paired.snocP hps hrow
      rintro H2 ⟨ps, y, hps⟩
      rw [List.length_map, ld, List.take_length] at hps
      -- the units
      refine ⟨_, rfl, _, rfl, (rs.length : Int), rfl, by omega, by omega, fun D4 hD4 => ?_⟩
      refine lc_range (lo := 0) (n := rs.length) (fun i Ha => Col (Tp (RatQ C)) D4 H2 Ha (((List.range rs.length).take i).map fun k => unitQ k rs.length)) (Col.start hD4) ?_ ?_
      · intro i Ha hi y4
        rw [Int.zero_add]
        refine ⟨rfl, _, rfl, _, rfl, i, rs.length, rfl, by omega, fun Hb tb sb htb => ?_⟩
        rw [range_take hi]
        refine y4.push ((VecR.stb C).x D4) hD4 sb htb ?_
        rw [List.length_map, List.length_take]
        omega
      rintro H3 y4
      rw [List.take_of_length_le (by rw [List.length_range]; exact Nat.le_refl _)] at y4
      have hU : Ls (Tp (RatQ C)) H3 D4 (unitsQ rs.length) := y4.at_
      have hP : Ls (Tp (RatQ C)) H3 D2 ps := Ls.same (VecR.stb C) y4.s y.at_
      have hne : D2 ≠ D4 := fun e => by
        obtain ⟨_, e5, _⟩ := y.at_
        rw [e, hD4] at e5
        cases e5
      have S3 := s1.trans (y.s.trans y4.s)
      have hpf := prod_fits hdl hps
      by_cases e : ps = unitsQ rs.length
      · refine .inl ⟨?_, fun H4 s4 => k H4 true (S3.trans s4) ⟨fun _ => hpf.mp e, fun _ => rfl⟩⟩
        obtain ⟨xs, ys, a1, a2, a3⟩ := d_lst K hP (e ▸ hU)
        exact ⟨D2, D4, xs, ys, rfl, rfl, a1, a2, a3⟩
      · refine .inr ⟨d_lstN hP hU hne (by rw [← hps.length, units_len, hdl]) (prod_row hps) (units_row _) e, fun H4 s4 => k H4 false (S3.trans s4) ⟨fun z => (nomatch z), fun f => (e (hpf.mpr f)).elim⟩⟩
end
end Ind

set_option Elab.async false
set_option linter.all false
set_option maxRecDepth 100000
set_option maxHeartbeats 4000000
set_option exponentiation.threshold 9000
namespace Ind
open PySem PySem.Spec PyProof.Rows L2
open Builtin.Int (intBits)
abbrev sFits : Stmt := top 41
theorem eqv_pair (a b : Q2) : PyData.eqv (pD a) (pD b) = decide (a = b) := by
  obtain ⟨a1, a2⟩ := a
  obtain ⟨b1, b2⟩ := b
  simp [pD, PyData.eqv, PyData.eqvAll]
  rfl
theorem eqv_all : ∀ xs ys : List Q2, PyData.eqvAll (xs.map pD) (ys.map pD) = decide (xs = ys)
  | [], [] => by simp [PyData.eqvAll]
  | [], y :: ys => by simp [PyData.eqvAll]
  | x :: xs, [] => by simp [PyData.eqvAll]
  | x :: xs, y :: ys => by
    have h := eqv_all xs ys
    have h1 := eqv_pair x y
    simp only [List.map_cons, PyData.eqvAll]
    rw [h, h1]
    by_cases e : x = y
    · subst e
      by_cases e2 : xs = ys
      · subst e2; simp
      · simp [e2]
    · simp [e]
theorem eqv_tup (xs ys : List Q2) : PyData.eqv (.tuple (xs.map pD)) (.tuple (ys.map pD)) = decide (xs = ys) := by
  rw [← eqv_all]
  simp only [PyData.eqv]
theorem mult_all {b : Nat} : ∀ {qs : List Q2}, (∀ q ∈ qs, Lo q ∧ Bq b q) → Mult (1 + qs.length * b) qs
  | [], _ => ⟨1, by decide, Nat.le_trans (show intBits 1 ≤ 1 by decide) (Nat.le_add_right _ _), fun q hq => nomatch hq⟩
  | q :: qs, h => by
    obtain ⟨M, m1, m2, m3⟩ := mult_all (qs := qs) fun x hx => h x (List.mem_cons_of_mem _ hx)
    have hq := h q (by simp)
    refine ⟨M * q.2, Int.mul_pos m1 hq.1.pos, ?_, fun x hx => ?_⟩
    · have := PySem.intBits_mul_le m2 hq.2.2
      rw [List.length_cons, Nat.add_mul, Nat.one_mul]
      omega
    · rcases List.mem_cons.mp hx with rfl | hx
      · exact ⟨M, Int.mul_comm _ _⟩
      · exact Int.dvd_trans (m3 x hx) ⟨q.2, rfl⟩
theorem row_all {b m : Nat} {qs : List Q2} (h : ∀ q ∈ qs, Lo q ∧ Bq b q) (hl : qs.length ≤ 100) (hm : 1 + qs.length * b ≤ m) : RowOk b m qs := by
  obtain ⟨M, m1, m2, m3⟩ := mult_all h
  exact ⟨fun q hq => (h q hq).1, fun q hq => (h q hq).2, hl, M, m1, Nat.le_trans m2 hm, m3⟩
def spFitsT : Sp := fun vs H Q _ => ∃ (tR D : Addr) (rs ds : List (List Q2)) (w b : Nat), vs = [.ref tR, .ref D] ∧ MatP H tR rs ∧ MatP H D ds ∧ ds.length = rs.length ∧ rs.length ≤ 50 ∧ w ≤ 50 ∧ (∀ r ∈ rs, r.length = w ∧ LoB b r) ∧ (∀ d ∈ ds, d.length = w ∧ LoB b d) ∧ b ≤ 100000 ∧
  ∀ (H' : Hp) (t : Bool), Same H H' → (t = true ↔ FitsQ w rs ds) → Q (.bl t) H'
def spFitsL : Sp := fun vs H Q _ => ∃ (tR D : Addr) (rs ds : List (List Q2)) (w b : Nat), vs = [.ref tR, .ref D] ∧ MatP H tR rs ∧ Ls (Tp PairQ) H D ds ∧ ds.length = rs.length ∧ rs.length ≤ 50 ∧ w ≤ 50 ∧ (∀ r ∈ rs, r.length = w ∧ LoB b r) ∧ (∀ d ∈ ds, d.length = w ∧ LoB b d) ∧ b ≤ 100000 ∧
  ∀ (H' : Hp) (t : Bool), Same H H' → (t = true ↔ FitsQ w rs ds) → Q (.bl t) H'
section
variable {P : Program} {w : World} {K : PySem.W.Frag} {mg : Str → Option Value} {base : Heap} {C Z CM : Addr}
theorem FnOk.or {f : Addr} {fd : FuncData} {ps : List Str} {sp1 sp2 : Sp} {CX : CXT} {k : Nat} (h1 : FnOk P w K mg base CX k f fd ps sp1) (h2 : FnOk P w K mg base CX k f fd ps sp2) : FnOk P w K mg base CX k f fd ps (fun vs H Q E => sp1 vs H Q E ∨ sp2 vs H Q E) :=
  ⟨fun vs H Q E h => h.elim (h1.len vs H Q E) (h2.len vs H Q E), fun A outer s H args us vs Q E a b c d h => h.elim (h1.run A outer s H args us vs Q E a b c d) (h2.run A outer s H args us vs Q E a b c d)⟩
abbrev nFi : List Str := ["rows", "duals", "at", "k"]
theorem scFi : FnScope nFi ["rows", "duals"] (defScope sFits) := ⟨rfl, rfl, rfl, by decide +kernel, rfl, by decide +kernel, by decide +kernel⟩
theorem ok_fitsT {f fD : Addr} {fd fdD : FuncData} (F : Fun K "_law_fits" "_law_fits" sFits f fd) (T : TxL K mg) (GD : FnOk P w K mg base CX0 43 fD fdD ["a", "b"] spLDot) (kD : PySem.W.keepIn K (.ref fD) = true) (bD : Binds K fdD ["a", "b"] []) (gD : mg "_law_dot" = some (.ref fD)) : FnOk P w K mg base CX0 44 f fd ["rows", "duals"] spFitsT := by
  refine F.ok scFi (fun vs H Q E h => ?_) (fun cdv A outer s H vs Q E hr h => ?_)
  · obtain ⟨tR, D, rs, ds, w, b, rfl, _⟩ := h
    rfl
  · obtain ⟨tR, D, rs, ds, wd, b, rfl, hR, hD, hl, hl1, hw1, hrs, hds, hb, k⟩ := h
    refine ⟨_, pss_cons (ps_for PassesOwn.never rfl (pi_range1 (by rfl) T.range (pa_cons (pe_callB call_len_seq (by rfl) T.len PySem.boot_len (pa_cons (pv 0) pa_nil)) pa_nil)) (pg_name (i := 2) scFi.nd rfl (Or.inl rfl))
        (pss_one (ps_for PassesOwn.never rfl (pi_range1 (by rfl) T.range (pa_cons (pe_callB call_len_seq (by rfl) T.len PySem.boot_len (pa_cons (pv 0) pa_nil)) pa_nil)) (pg_name (i := 3) scFi.nd rfl (Or.inl rfl))
          (pss_one (ps_if (PW.pt (pw_or (pt_cmpR op_isN (pe_ix ix_tup (pv 1) (pv 2) fun _ _ => rfl) pe_non (nomark _)) (pw_or1 (pt_cmpR (op_neD hr.units) (pe_call GD hr (by rfl) gD kD bD .nil pass0 (pa_cons (pe_ix ix_tup (pv 1) (pv 2) fun _ _ => rfl) (pa_cons (pe_ix ix_tup (pv 0) (pv 3) fun _ _ => rfl) pa_nil)))
              (pe_tup (pa_cons (pe_callTy call_int1 (by rfl) T.int (by decide +kernel) (pa_cons (pe_cmpR op_eq (pv 3) (pv 2) (nomark _)) pa_nil)) (pa_cons pe_int pa_nil))) (nomark _))))) (pss_one (ps_ret pe_bl)) pss_nil)))))
      (pss_one (ps_ret pe_bl)), ?_⟩
    obtain ⟨pr, er, qr⟩ := id hR
    have lr := qr.length
    refine ⟨_, rfl, tR, _, rfl, .inr (SqT.of er), (((pr.map V.ref).length : Nat) : Int), rfl, by omega, by rw [List.length_map]; omega, ?_⟩
    rw [List.length_map, lr]
    refine for_range (lo := 0) (n := rs.length) (fun i σ Ha => Same H Ha ∧ (∃ v2 v3 : Option V, σ = [some (.ref tR), some (.ref D), v2, v3]) ∧ ∀ (a k : Nat) (d r : List Q2), a < i → ds[a]? = some d → rs[k]? = some r → dt wd (rowF d) (rowF r) = if k = a then 1 else 0)
      ⟨same_rfl, ⟨none, none, rfl⟩, fun a _ _ _ h => absurd h (Nat.not_lt_zero _)⟩ ?_ ?_
    · rintro i σ Ha hi ⟨sa, ⟨v2, v3, rfl⟩, hf⟩
      rw [Int.zero_add]
      refine ⟨_, rfl, tR, _, rfl, .inr (SqT.of (sa _ _ er)), (((pr.map V.ref).length : Nat) : Int), rfl, by omega, by rw [List.length_map]; omega, ?_⟩
      rw [List.length_map, lr]
      obtain ⟨d, hd⟩ : ∃ d, ds[i]? = some d := ⟨_, List.getElem?_eq_getElem (by omega)⟩
      have hdm := hds d (List.mem_of_getElem? hd)
      refine for_range (lo := 0) (n := rs.length) (fun j σ Hb => Same H Hb ∧ (∃ v3 : Option V, σ = [some (.ref tR), some (.ref D), some (.int (i : Int)), v3]) ∧ ∀ (k : Nat) (r : List Q2), k < j → rs[k]? = some r → dt wd (rowF d) (rowF r) = if k = i then 1 else 0)
        ⟨sa, ⟨v3, rfl⟩, fun k _ h => absurd h (Nat.not_lt_zero _)⟩ ?_ ?_
      · rintro j σ Hb hj ⟨sb, ⟨v3, rfl⟩, hg⟩
        rw [Int.zero_add]
        obtain ⟨r, hr1⟩ : ∃ r, rs[j]? = some r := ⟨_, List.getElem?_eq_getElem hj⟩
        have hrm := hrs r (List.mem_of_getElem? hr1)
        obtain ⟨p1, u1, e1, g1, f1⟩ := tp_at (MatP.stb.same sb hD) hd
        obtain ⟨p2, u2, e2, g2, f2⟩ := tp_at (MatP.stb.same sb hR) hr1
        refine ⟨_, rfl, _, rfl, D, _, _, _, rfl, rfl, SqT.of e1, atI_of g1, rfl, _, rfl, iteF ?_⟩
        refine ⟨_, rfl, _, rfl, D, _, _, _, rfl, rfl, SqT.of e1, atI_of g1, _, rfl, _, rfl, tR, _, _, _, rfl, rfl, SqT.of e2, atI_of g2, ?_⟩
        refine ⟨u1, u2, d, r, b, rfl, f1, f2, by omega, by omega, hdm.2, hrm.2, hb, fun Hc t q sc ht lo _ hv => ?_⟩
        rw [hdm.1] at hv
        refine ⟨_, rfl, _, rfl, rfl, .inr ⟨_, rfl, (by show 2 ≤ sizeLine; decide), fun t2 ht2 => ?_⟩⟩
        have st := same_upd (o := .tup [V.int (if decide (V.int (j : Int) = V.int (i : Int)) = true then 1 else 0), V.int 1]) ht2
        have hT : PairQ (upd Hc t2 (.tup [V.int (if decide (V.int (j : Int) = V.int (i : Int)) = true then 1 else 0), V.int 1])) t2 (if j = i then (1, 1) else q0) := by
          unfold PairQ
          rw [upd_same]
          by_cases e : j = i
          · subst e
            rw [if_pos rfl, if_pos (decide_eq_true rfl)]
          · rw [if_neg e, if_neg (fun z => e (by have := V.int.inj (of_decide_eq_true z); omega))]
        have hrv : rv (if j = i then ((1, 1) : Q2) else q0) = if j = i then 1 else 0 := by
          split
          · exact rv_q1
          · exact rv_q0
        have hlo : Lo (if j = i then ((1, 1) : Q2) else q0) := by
          split
          · exact ⟨by decide, by decide⟩
          · exact lo_q0
        have S3 := sb.trans (sc.trans st)
        generalize hx : (if j = i then ((1, 1) : Q2) else q0) = x at hT hrv hlo
        refine ⟨pD q, pD x, dp_pair (PairQ.stb.same st ht), dp_pair hT, shape_pair _, shape_pair _, _, rfl, ?_⟩
        rw [eqv_pair]
        by_cases e : q = x
        · rw [decide_eq_true e]
          refine iteF ⟨S3, ⟨_, rfl⟩, fun k' r' hk' hr' => ?_⟩
          by_cases e3 : k' = j
          · subst e3
            rw [hr1] at hr'
            cases hr'
            rw [← hv, e, hrv]
          · exact hg k' r' (by omega) hr'
        · rw [decide_eq_false e]
          refine iteT (k _ false S3 ⟨fun z => (nomatch z), fun f => absurd (lo_eq lo hlo ?_) e⟩)
          rw [hv, hrv, f i j d r hd hr1]
      · rintro σ Hb ⟨sb, ⟨v3, rfl⟩, hg⟩
        refine ⟨sb, ⟨_, _, rfl⟩, fun a k' d' r' ha hd' hr' => ?_⟩
        by_cases e : a = i
        · subst e
          rw [hd] at hd'
          cases hd'
          exact hg k' r' (List.getElem?_eq_some_iff.mp hr').1 hr'
        · exact hf a k' d' r' (by omega) hd' hr'
    · rintro σ Ha ⟨sa, _, hf⟩
      refine k Ha true sa ⟨fun _ a k' d r hd hr => hf a k' d r ?_ hd hr, fun _ => rfl⟩
      have := (List.getElem?_eq_some_iff.mp hd).1
      omega
theorem ok_fitsL {f fD : Addr} {fd fdD : FuncData} (F : Fun K "_law_fits" "_law_fits" sFits f fd) (T : TxL K mg) (GD : FnOk P w K mg base CX0 43 fD fdD ["a", "b"] spLDot) (kD : PySem.W.keepIn K (.ref fD) = true) (bD : Binds K fdD ["a", "b"] []) (gD : mg "_law_dot" = some (.ref fD)) : FnOk P w K mg base CX0 44 f fd ["rows", "duals"] spFitsL := by
  refine F.ok scFi (fun vs H Q E h => ?_) (fun cdv A outer s H vs Q E hr h => ?_)
  · obtain ⟨tR, D, rs, ds, w, b, rfl, _⟩ := h
    rfl
  · obtain ⟨tR, D, rs, ds, wd, b, rfl, hR, hD, hl, hl1, hw1, hrs, hds, hb, k⟩ := h
    refine ⟨_, pss_cons (ps_for PassesOwn.never rfl (pi_range1 (by rfl) T.range (pa_cons (pe_callB call_len_seq (by rfl) T.len PySem.boot_len (pa_cons (pv 0) pa_nil)) pa_nil)) (pg_name (i := 2) scFi.nd rfl (Or.inl rfl))
        (pss_one (ps_for PassesOwn.never rfl (pi_range1 (by rfl) T.range (pa_cons (pe_callB call_len_seq (by rfl) T.len PySem.boot_len (pa_cons (pv 0) pa_nil)) pa_nil)) (pg_name (i := 3) scFi.nd rfl (Or.inl rfl))
          (pss_one (ps_if (PW.pt (pw_or (pt_cmpR op_isN (pe_ix ix_list (pv 1) (pv 2) fun _ _ => rfl) pe_non (nomark _)) (pw_or1 (pt_cmpR (op_neD hr.units) (pe_call GD hr (by rfl) gD kD bD .nil pass0 (pa_cons (pe_ix ix_list (pv 1) (pv 2) fun _ _ => rfl) (pa_cons (pe_ix ix_tup (pv 0) (pv 3) fun _ _ => rfl) pa_nil)))
              (pe_tup (pa_cons (pe_callTy call_int1 (by rfl) T.int (by decide +kernel) (pa_cons (pe_cmpR op_eq (pv 3) (pv 2) (nomark _)) pa_nil)) (pa_cons pe_int pa_nil))) (nomark _))))) (pss_one (ps_ret pe_bl)) pss_nil)))))
      (pss_one (ps_ret pe_bl)), ?_⟩
    obtain ⟨pr, er, qr⟩ := id hR
    have lr := qr.length
    refine ⟨_, rfl, tR, _, rfl, .inr (SqT.of er), (((pr.map V.ref).length : Nat) : Int), rfl, by omega, by rw [List.length_map]; omega, ?_⟩
    rw [List.length_map, lr]
    refine for_range (lo := 0) (n := rs.length) (fun i σ Ha => Same H Ha ∧ (∃ v2 v3 : Option V, σ = [some (.ref tR), some (.ref D), v2, v3]) ∧ ∀ (a k : Nat) (d r : List Q2), a < i → ds[a]? = some d → rs[k]? = some r → dt wd (rowF d) (rowF r) = if k = a then 1 else 0)
      ⟨same_rfl, ⟨none, none, rfl⟩, fun a _ _ _ h => absurd h (Nat.not_lt_zero _)⟩ ?_ ?_
    · rintro i σ Ha hi ⟨sa, ⟨v2, v3, rfl⟩, hf⟩
      rw [Int.zero_add]
      refine ⟨_, rfl, tR, _, rfl, .inr (SqT.of (sa _ _ er)), (((pr.map V.ref).length : Nat) : Int), rfl, by omega, by rw [List.length_map]; omega, ?_⟩
      rw [List.length_map, lr]
      obtain ⟨d, hd⟩ : ∃ d, ds[i]? = some d := ⟨_, List.getElem?_eq_getElem (by omega)⟩
      have hdm := hds d (List.mem_of_getElem? hd)
      refine for_range (lo := 0) (n := rs.length) (fun j σ Hb => Same H Hb ∧ (∃ v3 : Option V, σ = [some (.ref tR), some (.ref D), some (.int (i : Int)), v3]) ∧ ∀ (k : Nat) (r : List Q2), k < j → rs[k]? = some r → dt wd (rowF d) (rowF r) = if k = i then 1 else 0)
        ⟨sa, ⟨v3, rfl⟩, fun k _ h => absurd h (Nat.not_lt_zero _)⟩ ?_ ?_
      · rintro j σ Hb hj ⟨sb, ⟨v3, rfl⟩, hg⟩
        rw [Int.zero_add]
        obtain ⟨r, hr1⟩ : ∃ r, rs[j]? = some r := ⟨_, List.getElem?_eq_getElem hj⟩
        have hrm := hrs r (List.mem_of_getElem? hr1)
        obtain ⟨p1, u1, e1, g1, f1⟩ := ls_at (Ls.same VecP.stb sb hD) hd
        obtain ⟨p2, u2, e2, g2, f2⟩ := tp_at (MatP.stb.same sb hR) hr1
        refine ⟨_, rfl, _, rfl, D, _, _, _, rfl, rfl, SqL.of e1, atI_of g1, rfl, _, rfl, iteF ?_⟩
        refine ⟨_, rfl, _, rfl, D, _, _, _, rfl, rfl, SqL.of e1, atI_of g1, _, rfl, _, rfl, tR, _, _, _, rfl, rfl, SqT.of e2, atI_of g2, ?_⟩
        refine ⟨u1, u2, d, r, b, rfl, f1, f2, by omega, by omega, hdm.2, hrm.2, hb, fun Hc t q sc ht lo _ hv => ?_⟩
        rw [hdm.1] at hv
        refine ⟨_, rfl, _, rfl, rfl, .inr ⟨_, rfl, (by show 2 ≤ sizeLine; decide), fun t2 ht2 => ?_⟩⟩
        have st := same_upd (o := .tup [V.int (if decide (V.int (j : Int) = V.int (i : Int)) = true then 1 else 0), V.int 1]) ht2
        have hT : PairQ (upd Hc t2 (.tup [V.int (if decide (V.int (j : Int) = V.int (i : Int)) = true then 1 else 0), V.int 1])) t2 (if j = i then (1, 1) else q0) := by
          unfold PairQ
          rw [upd_same]
          by_cases e : j = i
          · subst e
            rw [if_pos rfl, if_pos (decide_eq_true rfl)]
          · rw [if_neg e, if_neg (fun z => e (by have := V.int.inj (of_decide_eq_true z); omega))]
        have hrv : rv (if j = i then ((1, 1) : Q2) else q0) = if j = i then 1 else 0 := by
          split
          · exact rv_q1
          · exact rv_q0
        have hlo : Lo (if j = i then ((1, 1) : Q2) else q0) := by
          split
          · exact ⟨by decide, by decide⟩
          · exact lo_q0
        have S3 := sb.trans (sc.trans st)
        generalize hx : (if j = i then ((1, 1) : Q2) else q0) = x at hT hrv hlo
        refine ⟨pD q, pD x, dp_pair (PairQ.stb.same st ht), dp_pair hT, shape_pair _, shape_pair _, _, rfl, ?_⟩
        rw [eqv_pair]
        by_cases e : q = x
        · rw [decide_eq_true e]
          refine iteF ⟨S3, ⟨_, rfl⟩, fun k' r' hk' hr' => ?_⟩
          by_cases e3 : k' = j
          · subst e3
            rw [hr1] at hr'
            cases hr'
            rw [← hv, e, hrv]
          · exact hg k' r' (by omega) hr'
        · rw [decide_eq_false e]
          refine iteT (k _ false S3 ⟨fun z => (nomatch z), fun f => absurd (lo_eq lo hlo ?_) e⟩)
          rw [hv, hrv, f i j d r hd hr1]
      · rintro σ Hb ⟨sb, ⟨v3, rfl⟩, hg⟩
        refine ⟨sb, ⟨_, _, rfl⟩, fun a k' d' r' ha hd' hr' => ?_⟩
        by_cases e : a = i
        · subst e
          rw [hd] at hd'
          cases hd'
          exact hg k' r' (List.getElem?_eq_some_iff.mp hr').1 hr'
        · exact hf a k' d' r' (by omega) hd' hr'
    · rintro σ Ha ⟨sa, _, hf⟩
      refine k Ha true sa ⟨fun _ a k' d r hd hr => hf a k' d r ?_ hd hr, fun _ => rfl⟩
      have := (List.getElem?_eq_some_iff.mp hd).1
      omega
end
end Ind

set_option Elab.async false
set_option linter.all false
set_option maxRecDepth 100000
set_option maxHeartbeats 4000000
set_option exponentiation.threshold 9000
namespace Ind
open PySem PySem.Spec PyProof.Rows L2
open Builtin.Int (intBits)
/-! ### what the law about duals asks, over rows -/
theorem piv_same8 {b b' w : Nat} {rs rs2 rs2' : List (List Q2)} {pz pz' : List Nat} (h : RedQ b w rs rs2 pz) (h' : RedQ b' w rs rs2' pz') : pz = pz' := by
  have e := h.red.piv_eq h'.red
  rw [List.map_fst_zip (by rw [List.length_map, h.len]; exact Nat.le_refl _), List.map_fst_zip (by rw [List.length_map, h'.len]; exact Nat.le_refl _)] at e
  exact e
def dualsQ (w : Nat) (rs2 : List (List Q2)) (pz : List Nat) (h : Nat) : List (List Q2) := (List.range h).map (dualQ w rs2 pz)
theorem duals_len (w : Nat) (rs2 : List (List Q2)) (pz : List Nat) (h : Nat) : (dualsQ w rs2 pz h).length = h := by
  unfold dualsQ
  rw [List.length_map, List.length_range]
theorem duals_row {b w : Nat} {rs rs2 : List (List Q2)} {pz : List Nat} (h : RedQ b (w + rs.length) (ubQ rs) rs2 pz) : ∀ d ∈ dualsQ w rs2 pz rs.length, d.length = w ∧ LoB (b + 1) d := fun d hd => by
  unfold dualsQ at hd
  obtain ⟨k, hk, rfl⟩ := List.mem_map.mp hd
  exact ⟨dual_len _ _ _ _, dual_lo h (by have := List.mem_range.mp hk; omega)⟩
theorem duals_fit {b w : Nat} {rs rs2 : List (List Q2)} {pz : List Nat} (hw : ∀ r ∈ rs, r.length = w) (h : RedQ b (w + rs.length) (ubQ rs) rs2 pz) (hn : ∀ x ∈ pz.zip rs2, x.1 < w) : FitsQ w rs (dualsQ w rs2 pz rs.length) := by
  intro a k d r hd hr
  have ha : a < rs.length := by
    have := (List.getElem?_eq_some_iff.mp hd).1
    rw [duals_len] at this
    exact this
  unfold dualsQ at hd
  rw [List.getElem?_map, List.getElem?_range ha] at hd
  cases hd
  exact dual_dt hw h hn ha hr
theorem dep_row {b w : Nat} {rs rs2 : List (List Q2)} {pz : List Nat} (h : RedQ b (w + rs.length) (ubQ rs) rs2 pz) {x : Nat × List Q2} (hx : x ∈ pz.zip rs2) : (x.2.drop w).length = rs.length ∧ LoB b (x.2.drop w) := by
  have hr := h.row x.2 (List.of_mem_zip hx).2
  refine ⟨by rw [List.length_drop, hr.1]; omega, fun q hq => hr.2 q (List.mem_of_mem_drop hq)⟩
theorem dep_ne {w : Nat} {rs : List (List Q2)} {ws : List Q2} (d : DepBy w rs (rowF ws)) : ws ≠ List.replicate rs.length q0 := by
  intro e
  obtain ⟨k, hk, ne⟩ := d.ne
  refine ne ?_
  rw [e]
  unfold rowF
  rw [List.getD_eq_getElem?_getD, List.getElem?_replicate, if_pos hk]
  exact rv_q0
theorem zeros_of {w : Nat} {qs : List Q2} (hl : qs.length = w) (lo : ∀ q ∈ qs, Lo q) (h : ∀ j, j < w → rowF qs j = 0) : qs = List.replicate w q0 := by
  refine vec_eq hl (List.length_replicate ..) lo (fun q hq => by rw [(List.mem_replicate.mp hq).2]; exact lo_q0) fun j hj => ?_
  rw [h j hj]
  unfold rowF
  rw [List.getD_eq_getElem?_getD, List.getElem?_replicate, if_pos hj]
  exact rv_q0.symm
/-- a vector twice -/
def dblQ (d : List Q2) : List Q2 := d.map fun q => addq q q
theorem dbl_len (d : List Q2) : (dblQ d).length = d.length := by
  unfold dblQ
  rw [List.length_map]
theorem dbl_lo {b : Nat} {d : List Q2} (h : LoB b d) : LoB (b + b + 1) (dblQ d) := fun q hq => by
  unfold dblQ at hq
  obtain ⟨p, hp, rfl⟩ := List.mem_map.mp hq
  have := h p hp
  exact ⟨lo_add this.1.ne this.1.ne, bq_add this.2 this.2⟩
theorem dbl_row {b : Nat} {d : List Q2} (h : LoB b d) (j : Nat) : rowF (dblQ d) j = 2 * rowF d j := by
  unfold rowF dblQ
  rw [List.getD_eq_getElem?_getD, List.getElem?_map, List.getD_eq_getElem?_getD]
  cases e : d[j]? with
  | none =>
    show rv q0 = 2 * rv q0
    rw [rv_q0]
    grind
  | some q =>
    have := (h q (List.mem_of_getElem? e)).1
    show rv (addq q q) = 2 * rv q
    rw [rv_add this.ne this.ne]
    grind
def bentQ (ds : List (List Q2)) (n : Nat) : List (List Q2) := ds.take n ++ [dblQ (ds.getD n [])]
theorem bent_len {ds : List (List Q2)} {n : Nat} (h : ds.length = n + 1) : (bentQ ds n).length = n + 1 := by
  unfold bentQ
  rw [List.length_append, List.length_take]
  show min n ds.length + 1 = n + 1
  omega
theorem bent_not {b w n : Nat} {rs ds : List (List Q2)} (hl : rs.length = n + 1) (hd : ds.length = n + 1) (lo : ∀ d ∈ ds, LoB b d) (f : FitsQ w rs ds) : ¬ FitsQ w rs (bentQ ds n) := by
  intro g
  have e1 : ds[n]? = some ds[n] := List.getElem?_eq_getElem (by omega)
  have e2 : rs[n]? = some rs[n] := List.getElem?_eq_getElem (by omega)
  have e3 : (bentQ ds n)[n]? = some (dblQ ds[n]) := by
    unfold bentQ
    rw [List.getElem?_append_right (by rw [List.length_take]; omega), List.length_take, show n - min n ds.length = 0 by omega, List.getD_eq_getElem?_getD, e1]
    rfl
  have h1 := f n n _ _ e1 e2
  have h2 := g n n _ _ e3 e2
  rw [if_pos rfl] at h1 h2
  have h3 : dt w (rowF (dblQ ds[n])) (rowF rs[n]) = dt w (fun j => 2 * rowF ds[n] j + 0 * rowF ds[n] j) (rowF rs[n]) := dt_congr fun j _ => by
    rw [dbl_row (lo _ (List.getElem_mem (by omega)))]
    grind
  rw [h3, dt_lin, h1] at h2
  grind
theorem paired_take {α β : Type} {F : α → β → Prop} : ∀ (k : Nat) {xs : List α} {ys : List β}, Paired F xs ys → Paired F (xs.take k) (ys.take k)
  | 0, _, _, _ => .nil
  | k + 1, _, _, .nil => .nil
  | k + 1, _, _, .cons a t => .cons a (paired_take k t)
/-- the law's weights -/
def vQ (x1 x2 : Int) (i : Nat) : List Q2 := (List.range i).map fun j : Nat => smq (x1 + (j : Int)) x2
theorem v_succ (x1 x2 : Int) (i : Nat) : vQ x1 x2 (i + 1) = vQ x1 x2 i ++ [smq (x1 + (i : Int)) x2] := by
  unfold vQ
  rw [List.range_succ, List.map_append]
  rfl
theorem v_len (x1 x2 : Int) (i : Nat) : (vQ x1 x2 i).length = i := by
  unfold vQ
  rw [List.length_map, List.length_range]
theorem v_sm (x1 x2 : Int) (i : Nat) : ∀ q ∈ vQ x1 x2 i, Sm q := fun q hq => by
  unfold vQ at hq
  obtain ⟨j, _, rfl⟩ := List.mem_map.mp hq
  exact sm_mk _ _
end Ind

set_option Elab.async false
set_option linter.all false
set_option maxRecDepth 100000
set_option maxHeartbeats 4000000
set_option exponentiation.threshold 9000
namespace Ind
open PySem PySem.Spec PyProof.Rows L2
open Builtin.Int (intBits)
abbrev sLaw : Stmt := top 42
def spLaw (K : PySem.W.Frag) : Sp := fun vs H Q _ => ∃ (a : Addr) (ns : List Int), vs = [.ref a] ∧ SqL K H a (ns.map V.int) ∧ ∀ H', Q (.bl true) H'
/-- a def of the text that the law calls, a method -/
structure Cl (P : Program) (w : World) (K : PySem.W.Frag) (mg : Str → Option Value) (base : Heap) (k : Nat) (x : Str) (f : Addr) (fd : FuncData) (ps : List Str) (sp : Sp) : Prop where
  g : mg x = some (.ref f)
  kp : PySem.W.keepIn K (.ref f) = true
  b : Binds K fd ps []
  fn : FnOk P w K mg base CX0 k f fd ps sp
structure Mt (P : Program) (w : World) (K : PySem.W.Frag) (mg : Str → Option Value) (base : Heap) (k : Nat) (C : Addr) (x : Str) (f : Addr) (fd : FuncData) (ps : List Str) (sp : Sp) : Prop where
  m : Meth K C x f
  b : Binds K fd ps []
  fn : FnOk P w K mg base CX0 k f fd ps sp
structure AddF (P : Program) (w : World) (K : PySem.W.Frag) (mg : Str → Option Value) (base : Heap) (C f : Addr) (fd : FuncData) : Prop where
  fn : FnOk P w K mg base CX0 43 f fd ["self", "other"] (spAddR C)
  at_ : PySem.W.findIn K (.ref C) "__add__" = some (some (.ref f))
  isf : PySem.W.isFn K (.ref f) = true
  b : Binds K fd ["self", "other"] []
  first : PySem.W.selfFirst K C = true
structure LawF (P : Program) (w : World) (K : PySem.W.Frag) (mg : Str → Option Value) (base : Heap) (C CM fPl : Addr) (fdPl : FuncData) (fD fMx fToM fPa fPr fCo fCoM fRt fSm fFiT fFiL fSI fDt fCb fIv fDu fDe : Addr) (fdD fdMx fdToM fdPa fdPr fdCo fdCoM fdRt fdSm fdFiT fdFiL fdSI fdDt fdCb fdIv fdDu fdDe : FuncData) : Prop where
  D : Cl P w K mg base 2 "_law_draws" fD fdD ["script", "at", "count", "bound"] (spDraws K)
  Mx : Cl P w K mg base 43 "_law_matrix" fMx fdMx ["script", "at", "rows", "width"] (spLMx K)
  ToM : Cl P w K mg base 44 "_law_to_matrix" fToM fdToM ["rows", "width"] (spToM C CM)
  Pa : Cl P w K mg base 3 "_law_pairs" fPa fdPa ["values", "size"] (spPairs C)
  Pr : Cl P w K mg base 2 "_law_pair" fPr fdPr ["value"] (spPair C)
  Co : Cl P w K mg base 43 "_law_combine" fCo fdCo ["rows", "width", "y"] (spLCo)
  CoM : Cl P w K mg base 43 "_law_combine" fCoM fdCoM ["rows", "width", "y"] (spLCoM)
  Rt : Cl P w K mg base 43 "_law_ratios" fRt fdRt ["row"] (spRts C)
  Sm : Cl P w K mg base 42 "_law_small" fSm fdSm ["n", "d"] (spSm)
  FiT : Cl P w K mg base 44 "_law_fits" fFiT fdFiT ["rows", "duals"] (spFitsT)
  FiL : Cl P w K mg base 44 "_law_fits" fFiL fdFiL ["rows", "duals"] (spFitsL)
  SI : Cl P w K mg base 45 "shows_independent" fSI fdSI ["rows", "width", "duals"] (spShI C)
  Dt : Cl P w K mg base 43 "dot" fDt fdDt ["a", "b"] (spDot C)
  Cb : Cl P w K mg base 44 "combine" fCb fdCb ["rows", "width", "weights"] (spComb C)
  Iv : Cl P w K mg base 1 "is_vector" fIv fdIv ["value", "length"] (spIsV C)
  Du : Mt P w K mg base 46 CM "duals" fDu fdDu ["self"] (spDuals C CM)
  De : Mt P w K mg base 46 CM "dependence" fDe fdDe ["self"] (spDep C CM)
  Pl : AddF P w K mg base C fPl fdPl
abbrev nL : List Str := ["script", "row", "height", "width", "rows", "m", "told", "weights", "others", "drawn", "due", "bent", "v", "line", "k", "dual", "x", "c"]
section
variable {P : Program} {w : World} {K : PySem.W.Frag} {mg : Str → Option Value} {base : Heap} {C Z CM : Addr}
theorem scL : FnScope nL ["script"] (defScope sLaw) := ⟨rfl, rfl, rfl, by decide +kernel, rfl, by decide +kernel, by decide +kernel⟩
theorem ok_law {f fPl fD fMx fToM fPa fPr fCo fCoM fRt fSm fFiT fFiL fSI fDt fCb fIv fDu fDe : Addr} {fd fdPl fdD fdMx fdToM fdPa fdPr fdCo fdCoM fdRt fdSm fdFiT fdFiL fdSI fdDt fdCb fdIv fdDu fdDe : FuncData} (F : Fun K "law" "law" sLaw f fd) (T : TxL K mg) (TM : TxM K mg CM) (R : TxR K mg C Z) (I0 : TxI K C) 
    (L : LawF P w K mg base C CM fPl fdPl fD fMx fToM fPa fPr fCo fCoM fRt fSm fFiT fFiL fSI fDt fCb fIv fDu fDe fdD fdMx fdToM fdPa fdPr fdCo fdCoM fdRt fdSm fdFiT fdFiL fdSI fdDt fdCb fdIv fdDu fdDe) : FnOk P w K mg base CX0 60 f fd ["script"] (spLaw K) := by
  refine F.ok scL (fun vs H Q E h => ?_) (fun cdv A outer s H vs Q E hr h => ?_)
  · obtain ⟨a, ns, rfl, _⟩ := h
    rfl
  · obtain ⟨a, ns, rfl, hS, kq⟩ := h
    have hD := hr.mono (show 2 ≤ 59 by decide)
    have hMx := hr.mono (show 43 ≤ 59 by decide)
    have hToM := hr.mono (show 44 ≤ 59 by decide)
    have hPa := hr.mono (show 3 ≤ 59 by decide)
    have hPr := hr.mono (show 2 ≤ 59 by decide)
    have hCo := hr.mono (show 43 ≤ 59 by decide)
    have hCoM := hr.mono (show 43 ≤ 59 by decide)
    have hRt := hr.mono (show 43 ≤ 59 by decide)
    have hSm := hr.mono (show 42 ≤ 59 by decide)
    have hFiT := hr.mono (show 44 ≤ 59 by decide)
    have hFiL := hr.mono (show 44 ≤ 59 by decide)
    have hSI := hr.mono (show 45 ≤ 59 by decide)
    have hDt := hr.mono (show 43 ≤ 59 by decide)
    have hCb := hr.mono (show 44 ≤ 59 by decide)
    have hIv := hr.mono (show 1 ≤ 59 by decide)
    have hDu := hr.mono (show 46 ≤ 59 by decide)
    have hDe := hr.mono (show 46 ≤ 59 by decide)
    have hPl := hr.mono (show 43 ≤ 59 by decide)
    refine ⟨_, (pss_cons (ps_set (i := 1) scL.nd rfl (Or.inr rfl) (pe_call L.D.fn hD (by rfl) L.D.g L.D.kp L.D.b .nil pass0 (pa_cons (pv 0) (pa_cons pe_int (pa_cons pe_int (pa_cons pe_int pa_nil))))))
      (pss_cons (ps_set (i := 2) scL.nd rfl (Or.inl rfl) (pe_op op_modN (pe_ix ix_list (pv 1) pe_int fun _ _ => rfl) pe_int))
      (pss_cons (ps_set (i := 3) scL.nd rfl (Or.inr rfl) (pe_op op_modN (pe_op op_fdivN (pe_ix ix_list (pv 1) pe_int fun _ _ => rfl) pe_int) pe_int))
      (pss_cons (ps_set (i := 4) scL.nd rfl (Or.inl rfl) (pe_call L.Mx.fn hMx (by rfl) L.Mx.g L.Mx.kp L.Mx.b .nil pass0 (pa_cons (pv 0) (pa_cons pe_int (pa_cons (pv 2) (pa_cons (pv 3) pa_nil))))))
      (pss_cons (ps_set (i := 5) scL.nd rfl (Or.inl rfl) (pe_call L.ToM.fn hToM (by rfl) L.ToM.g L.ToM.kp L.ToM.b .nil pass0 (pa_cons (pv 4) (pa_cons (pv 3) pa_nil))))
      (C8.pss_cut (ps_set (i := 6) scL.nd rfl (Or.inl rfl) (pe_meth0 (pv 5) TM.cl L.Du.m L.Du.fn hDu L.Du.b .nil pass0))
      (C8.pss_cut (ps_set (i := 7) scL.nd rfl (Or.inl rfl) (pe_meth0 (pv 5) TM.cl L.De.m L.De.fn hDe L.De.b .nil pass0))
      (pss_cons (ps_set (i := 8) scL.nd rfl (Or.inl rfl) (pe_call L.Mx.fn hMx (by rfl) L.Mx.g L.Mx.kp L.Mx.b .nil pass0 (pa_cons (pv 0) (pa_cons pe_int (pa_cons (pv 2) (pa_cons (pv 3) pa_nil))))))
      (pss_cons (ps_set (i := 9) scL.nd rfl (Or.inl rfl) (pe_callTy call_tuple_of (by rfl) TM.tuple (by decide +kernel) (pa_cons (pe_lc (own := [("line", 13)]) (g := gName 13) (tt := tYes) rfl scL.nd (pi_tup (pv 8)) (blkOk_by (N := nL) (sc := defScope sLaw) (by decide +kernel)) (fun _ _ _ _ _ => pg_name (i := 13) scL.nd rfl (Or.inl rfl)) (fun _ _ _ _ _ => pts_nil) (fun _ _ _ _ _ => (pe_call L.Rt.fn hRt (by rfl) L.Rt.g L.Rt.kp L.Rt.b .nil pass0 (pa_cons (pv 13) pa_nil)))) pa_nil)))
      (pss_cons (ps_if (pt_cmpR op_ne (pe_call L.SI.fn hSI (by rfl) L.SI.g L.SI.kp L.SI.b .nil pass0 (pa_cons (pe_fld (pv 5) rfl) (pa_cons (pv 3) (pa_cons (pv 9) pa_nil)))) (pe_call L.FiT.fn hFiT (by rfl) L.FiT.g L.FiT.kp L.FiT.b .nil pass0 (pa_cons (pv 4) (pa_cons (pv 8) pa_nil))) (nomark _)) (pss_one (ps_ret pe_bl)) pss_nil)
      (pss_cons (ps_if (pt_cmpR op_isN (pv 6) pe_non (nomark _)) (pss_cons (ps_set (i := 10) scL.nd rfl (Or.inl rfl) (pe_call L.Pa.fn hPa (by rfl) L.Pa.g L.Pa.kp L.Pa.b .nil pass0 (pa_cons (pv 7) (pa_cons (pv 2) pa_nil))))
      (pss_cons (ps_if (PW.pt (pw_or (pt_cmpR op_isN (pv 10) pe_non (nomark _)) (pw_or (pt_cmpR (op_eqD hr.units) (pv 10) (pe_callTy call_tuple_of (by rfl) TM.tuple (by decide +kernel) (pa_cons (pe_lc (own := [("k", 14)]) (g := gName 14) (tt := tYes) (te := tTup (tCons (tC (.int 0)) (tCons (tC (.int 1)) tNil))) rfl scL.nd (pi_range1 (by rfl) T.range (pa_cons (pv 2) pa_nil)) (blkOk_by (N := nL) (sc := defScope sLaw) (by decide +kernel)) (fun _ _ _ _ _ => pg_name (i := 14) scL.nd rfl (Or.inl rfl)) (fun _ _ _ _ _ => pts_nil) (fun _ _ _ _ _ => (pe_tup (pa_cons pe_int (pa_cons pe_int pa_nil))))) pa_nil)) (nomark _)) (pw_or1 (pt_val (pe_call L.FiT.fn hFiT (by rfl) L.FiT.g L.FiT.kp L.FiT.b .nil pass0 (pa_cons (pv 4) (pa_cons (pv 8) pa_nil)))))))) (pss_one (ps_ret pe_bl)) pss_nil)
      (pss_one (ps_ret (pe_cmpR (op_eqD hr.units) (pe_call L.Co.fn hCo (by rfl) L.Co.g L.Co.kp L.Co.b .nil pass0 (pa_cons (pv 4) (pa_cons (pv 3) (pa_cons (pv 10) pa_nil)))) (pe_callTy call_tuple_of (by rfl) TM.tuple (by decide +kernel) (pa_cons (pe_lc (own := [("k", 14)]) (g := gName 14) (tt := tYes) (te := tTup (tCons (tC (.int 0)) (tCons (tC (.int 1)) tNil))) rfl scL.nd (pi_range1 (by rfl) T.range (pa_cons (pv 3) pa_nil)) (blkOk_by (N := nL) (sc := defScope sLaw) (by decide +kernel)) (fun _ _ _ _ _ => pg_name (i := 14) scL.nd rfl (Or.inl rfl)) (fun _ _ _ _ _ => pts_nil) (fun _ _ _ _ _ => (pe_tup (pa_cons pe_int (pa_cons pe_int pa_nil))))) pa_nil)) (nomark _)))))) pss_nil)
      (pss_cons (ps_if (PW.pt (pw_or (pt_cmpR op_notN (pv 7) pe_non (nomark _)) (pw_or (pt_not (pt_val (pe_callB call_isi (by rfl) T.isinstance (by decide +kernel) (pa_cons (pv 6) (pa_cons (pe_bltn (v := .ty "tuple") (by rfl) TM.tuple (by decide +kernel) rfl) pa_nil))))) (pw_or1 (pt_cmpR op_ne (pe_callB call_len_seq (by rfl) T.len PySem.boot_len (pa_cons (pv 6) pa_nil)) (pv 2) (nomark _)))))) (pss_one (ps_ret pe_bl)) pss_nil)
      (pss_cons (ps_if (pt_not (pt_val (pe_call L.FiL.fn hFiL (by rfl) L.FiL.g L.FiL.kp L.FiL.b .nil pass0 (pa_cons (pv 4) (pa_cons (pe_lc (own := [("dual", 15)]) (g := gName 15) (tt := tYes) rfl scL.nd (pi_tup (pv 6)) (blkOk_by (N := nL) (sc := defScope sLaw) (by decide +kernel)) (fun _ _ _ _ _ => pg_name (i := 15) scL.nd rfl (Or.inl rfl)) (fun _ _ _ _ _ => pts_nil) (fun _ _ _ _ _ => (pe_call L.Pa.fn hPa (by rfl) L.Pa.g L.Pa.kp L.Pa.b .nil pass0 (pa_cons (pv 15) (pa_cons (pv 3) pa_nil))))) pa_nil))))) (pss_one (ps_ret pe_bl)) pss_nil)
      (pss_cons (ps_if (PW.pt (pw_or (pt_cmpR op_notBl (pe_call L.SI.fn hSI (by rfl) L.SI.g L.SI.kp L.SI.b .nil pass0 (pa_cons (pe_fld (pv 5) rfl) (pa_cons (pv 3) (pa_cons (pv 6) pa_nil)))) pe_bl (nomark _)) (pw_or1 (pt_cmpR op_notBl (pe_call L.SI.fn hSI (by rfl) L.SI.g L.SI.kp L.SI.b .nil pass0 (pa_cons (pe_fld (pv 5) rfl) (pa_cons (pv 3) (pa_cons (pe_callTy call_list_of (by rfl) TM.list (by decide +kernel) (pa_cons (pv 6) pa_nil)) pa_nil)))) pe_bl (nomark _))))) (pss_one (ps_ret pe_bl)) pss_nil)
      (C8.pss_cut (ps_if (pt_cmpR op_gt (pv 2) pe_int (nomark _)) (pss_cons (ps_set (i := 11) scL.nd rfl (Or.inl rfl) (pe_op op_catX (pe_slice sl_tup (pv 6) po_none (po_some (pe_op op_sub (pv 2) pe_int))) (pe_tup (pa_cons (pe_callTy call_tuple_of (by rfl) TM.tuple (by decide +kernel) (pa_cons (pe_lc (own := [("x", 16)]) (g := gName 16) (tt := tYes) (te := tOp (rBinO C (spAddR C) E0) (tVar 16) (tVar 16)) rfl scL.nd (pi_tup (pe_ix ix_tup (pv 6) (pe_op op_sub (pv 2) pe_int) fun _ _ => rfl)) (blkOk_by (N := nL) (sc := defScope sLaw) (by decide +kernel)) (fun _ _ _ _ _ => pg_name (i := 16) scL.nd rfl (Or.inl rfl)) (fun _ _ _ _ _ => pts_nil) (fun _ _ _ _ _ => (pe_op (op_binO (m := "__add__") (by rfl) ⟨L.Pl.fn, L.Pl.at_, L.Pl.isf, L.Pl.b, pass0, L.Pl.first⟩ hPl) (pv 16) (pv 16)))) pa_nil)) pa_nil))))
      (pss_cons (ps_if (PW.pt (pw_or (pt_cmpR op_notBl (pe_call L.SI.fn hSI (by rfl) L.SI.g L.SI.kp L.SI.b .nil pass0 (pa_cons (pe_fld (pv 5) rfl) (pa_cons (pv 3) (pa_cons (pv 11) pa_nil)))) pe_bl (nomark _)) (pw_or1 (pt_cmpR op_notBl (pe_call L.SI.fn hSI (by rfl) L.SI.g L.SI.kp L.SI.b .nil pass0 (pa_cons (pe_fld (pv 5) rfl) (pa_cons (pv 3) (pa_cons (pe_slice sl_tup (pv 6) (po_some pe_int) po_none) pa_nil)))) pe_bl (nomark _))))) (pss_one (ps_ret pe_bl)) pss_nil)
      (pss_one (ps_if (PW.pt (pw_or (pt_cmpR (op_neD hr.units) (pe_call L.Pr.fn hPr (by rfl) L.Pr.g L.Pr.kp L.Pr.b .nil pass0 (pa_cons (pe_call L.Dt.fn hDt (by rfl) L.Dt.g L.Dt.kp L.Dt.b .nil pass0 (pa_cons (pe_ix ix_tup (pv 6) pe_int fun _ _ => rfl) (pa_cons (pe_ix ix_tup (pe_fld (pv 5) rfl) pe_int fun _ _ => rfl) pa_nil))) pa_nil)) (pe_tup (pa_cons pe_int (pa_cons pe_int pa_nil))) (nomark _)) (pw_or1 (pt_cmpR op_notBl (pe_call L.Iv.fn hIv (by rfl) L.Iv.g L.Iv.kp L.Iv.b .nil pass0 (pa_cons (pe_ix ix_tup (pv 6) pe_int fun _ _ => rfl) (pa_cons (pv 3) pa_nil))) pe_bl (nomark _))))) (pss_one (ps_ret pe_bl)) pss_nil)))) pss_nil)
      (pss_cons (ps_set (i := 12) scL.nd rfl (Or.inl rfl) (pe_call L.Rt.fn hRt (by rfl) L.Rt.g L.Rt.kp L.Rt.b .nil pass0 (pa_cons (pe_lc (own := [("k", 14)]) (g := gName 14) (tt := tYes) (te := tCall spSm [] E0 (tCons (tOp (rI0 fun i j => .int (i + j)) (tOp (rIxL K) (tVar 1) (tC (.int 1))) (tVar 14)) (tCons (tOp (rIxL K) (tVar 1) (tC (.int 2))) tNil))) rfl scL.nd (pi_range1 (by rfl) T.range (pa_cons (pv 2) pa_nil)) (blkOk_by (N := nL) (sc := defScope sLaw) (by decide +kernel)) (fun _ _ _ _ _ => pg_name (i := 14) scL.nd rfl (Or.inl rfl)) (fun _ _ _ _ _ => pts_nil) (fun _ _ _ _ _ => (pe_call L.Sm.fn hSm (by rfl) L.Sm.g L.Sm.kp L.Sm.b .nil pass0 (pa_cons (pe_op op_add (pe_ix ix_list (pv 1) pe_int fun _ _ => rfl) (pv 14)) (pa_cons (pe_ix ix_list (pv 1) pe_int fun _ _ => rfl) pa_nil))))) pa_nil)))
      (pss_cons (ps_set (i := 10) scL.nd rfl (Or.inl rfl) (pe_call L.CoM.fn hCoM (by rfl) L.CoM.g L.CoM.kp L.CoM.b .nil pass0 (pa_cons (pv 4) (pa_cons (pv 3) (pa_cons (pe_lc (own := [("c", 17)]) (g := gName 17) (tt := tYes) (te := tCall (spPair C) [] E0 (tCons (tVar 17) tNil)) rfl scL.nd (pi_tup (pv 12)) (blkOk_by (N := nL) (sc := defScope sLaw) (by decide +kernel)) (fun _ _ _ _ _ => pg_name (i := 17) scL.nd rfl (Or.inl rfl)) (fun _ _ _ _ _ => pts_nil) (fun _ _ _ _ _ => (pe_call L.Pr.fn hPr (by rfl) L.Pr.g L.Pr.kp L.Pr.b .nil pass0 (pa_cons (pv 17) pa_nil)))) pa_nil)))))
      (pss_one (ps_ret (pe_and (pe_cmpR (op_eqD hr.units) (pe_call L.Pa.fn hPa (by rfl) L.Pa.g L.Pa.kp L.Pa.b .nil pass0 (pa_cons (pe_call L.Cb.fn hCb (by rfl) L.Cb.g L.Cb.kp L.Cb.b .nil pass0 (pa_cons (pe_fld (pv 5) rfl) (pa_cons (pv 3) (pa_cons (pv 12) pa_nil)))) (pa_cons (pv 3) pa_nil))) (pv 10) (nomark _)) (pe_one (pe_cmpR op_isBl (pe_call L.Iv.fn hIv (by rfl) L.Iv.g L.Iv.kp L.Iv.b .nil pass0 (pa_cons (pe_callTy call_list_of (by rfl) TM.list (by decide +kernel) (pa_cons (pv 12) pa_nil)) (pa_cons (pv 2) pa_nil))) pe_bl (nomark _))))))))))))))))))))))), ?_⟩
    -- the sizes
    refine ⟨_, rfl, a, ns, 0, 4, 60, rfl, hS, by decide, by decide, by decide, by decide, fun ds H1 l hR s1 _ hl => ?_⟩
    obtain ⟨x0, x1, x2, x3, rfl⟩ : ∃ x0 x1 x2 x3, ds = [x0, x1, x2, x3] := by
      have := hR.1
      match ds, this with
      | [x0, x1, x2, x3], _ => exact ⟨x0, x1, x2, x3, rfl⟩
    refine ⟨_, rfl, l, _, _, _, rfl, rfl, SqL.of hl, atI_of (k := 0) rfl, _, _, rfl, rfl, (by show (5 : Int) ≠ 0; decide), ?_⟩
    refine ⟨_, rfl, l, _, _, _, rfl, rfl, SqL.of hl, atI_of (k := 0) rfl, _, _, rfl, rfl, ⟨by decide, by decide⟩, _, _, rfl, rfl, (by show (6 : Int) ≠ 0; decide), ?_⟩
    have f1 := fmod_in (x := x0) (b := 5) (by decide)
    have f2 := fmod_in (x := x0.fdiv 5) (b := 6) (by decide)
    obtain ⟨hh, eh⟩ : ∃ hh : Nat, x0.fmod 5 = (hh : Int) := ⟨(x0.fmod 5).toNat, (Int.toNat_of_nonneg f1.1).symm⟩
    obtain ⟨w, ew⟩ : ∃ w : Nat, (x0.fdiv 5).fmod 6 = (w : Int) := ⟨((x0.fdiv 5).fmod 6).toNat, (Int.toNat_of_nonneg f2.1).symm⟩
    dsimp only
    rw [eh, ew]
    rw [eh] at f1
    rw [ew] at f2
    have hh4 : hh ≤ 4 := by omega
    have hw5 : w ≤ 5 := by omega
    -- the rows, the matrix
    refine ⟨_, rfl, _, rfl, _, rfl, a, ns, 1, hh, w, rfl, s1.seq hS, by decide, by omega, by omega, fun H2 tR rs s2 hRs hrl hsm => ?_⟩
    have rowLo : ∀ r ∈ rs, (∀ q ∈ r, Lo q) ∧ r.length ≤ 100 := fun r hr => ⟨fun q hq => ((hsm r hr).2 q hq).lo, by rw [(hsm r hr).1]; omega⟩
    have toPLT : ∀ {Ha : Hp}, MatP Ha tR rs → Tp PLT Ha tR rs := fun {Ha} h => by
      obtain ⟨ps, e, q⟩ := h
      exact ⟨ps, e, Paired.imp (fun _ _ f => .inr f) q⟩
    refine ⟨_, rfl, _, rfl, tR, rs, (w : Int), rfl, toPLT hRs, rowLo, by omega, fun H3 m s3 hm => ?_⟩
    have S3 := s1.trans (s2.trans s3)
    subst hrl
    have hrw : ∀ r ∈ rs, r.length = w := fun r hr => (hsm r hr).1
    have okU := ub_ok hsm hh4 hw5
    have hg : grow (4 + 6) rs.length ≤ 175 := Nat.le_trans (grow_le (Nat.le_refl _) hh4) (by decide)
    have hRs3 := MatP.stb.same s3 hRs
    have hl3 := (s2.trans s3) _ _ hl
    obtain ⟨dm, tm, em, _⟩ := id hm
    -- told
    refine ⟨fun σ' Ha => ∃ (vt : V) (rs2 : List (List Q2)) (pz : List Nat), σ' = [some (.ref a), some (.ref l), some (.int (rs.length : Int)), some (.int (w : Int)), some (.ref tR), some (.ref m), some vt, none, none, none, none, none, none, none, none, none, none, none] ∧ Same H3 Ha ∧ RedQ (grow (4 + 6) rs.length) (w + rs.length) (ubQ rs) rs2 pz ∧
      ((vt = .non ∧ ∃ x ∈ pz.zip rs2, w ≤ x.1) ∨ ∃ tD, vt = .ref tD ∧ (∀ x ∈ pz.zip rs2, x.1 < w) ∧ MatT C Ha tD (dualsQ w rs2 pz rs.length)), ?_, ?_⟩
    · refine ⟨_, rfl, m, dm, _, rfl, em, mf_no _ _ (by decide +kernel) (by decide +kernel), m, rs, 4, 6, w, rfl, hm, okU, hrw, fun H4 rs2 pz s4 hred => ⟨fun hex => ?_, fun hn t ht => ?_⟩⟩
      · exact ⟨.non, rs2, pz, rfl, s4, hred, .inl ⟨rfl, hex⟩⟩
      · exact ⟨.ref t, rs2, pz, rfl, s4, hred, .inr ⟨t, rfl, hn, ht⟩⟩
    rintro σ' H4 ⟨vt, rs2, pz, rfl, s4, hred, htold⟩
    have hm4 := (MatAt.stb C CM w).same s4 hm
    obtain ⟨dm4, tm4, em4, _⟩ := id hm4
    -- weights
    refine ⟨fun σ' Ha => ∃ (vw : V), σ' = [some (.ref a), some (.ref l), some (.int (rs.length : Int)), some (.int (w : Int)), some (.ref tR), some (.ref m), some vt, some vw, none, none, none, none, none, none, none, none, none, none] ∧ Same H3 Ha ∧
      ((vt = .non ∧ ∃ (tw : Addr) (ws : List Q2), vw = .ref tw ∧ Tp (RatQ C) Ha tw ws ∧ ws.length = rs.length ∧ LoB 175 ws ∧ DepBy w rs (rowF ws)) ∨ ∃ (tD : Addr) (ds : List (List Q2)), vt = .ref tD ∧ vw = .non ∧ MatT C Ha tD ds ∧ ds.length = rs.length ∧ (∀ d ∈ ds, d.length = w ∧ LoB 176 d) ∧ FitsQ w rs ds), ?_, ?_⟩
    · refine ⟨_, rfl, m, dm4, _, rfl, em4, mf_no _ _ (by decide +kernel) (by decide +kernel), m, rs, 4, 6, w, rfl, hm4, okU, hrw, fun H5 rs3 pz3 s5 hred3 => ?_⟩
      have epz := piv_same8 hred hred3
      subst epz
      have toZ : ∀ {x : Nat × List Q2}, x ∈ pz.zip rs2 → ∃ y ∈ pz.zip rs3, y.1 = x.1 := fun {x} hx => zip_of hred3.len (List.of_mem_zip hx).1
      have toZ' : ∀ {x : Nat × List Q2}, x ∈ pz.zip rs3 → ∃ y ∈ pz.zip rs2, y.1 = x.1 := fun {x} hx => zip_of hred.len (List.of_mem_zip hx).1
      refine ⟨fun hn => ?_, fun x t hx hge ht => ?_⟩
      · rcases htold with ⟨rfl, x, hx, hge⟩ | ⟨tD, rfl, hn2, hT⟩
        · obtain ⟨y, hy, e⟩ := toZ hx
          have := hn y hy
          omega
        · refine ⟨.non, rfl, s4.trans s5, .inr ⟨tD, _, rfl, rfl, (MatT.stb C).same s5 hT, duals_len _ _ _ _, fun d hd => ?_, duals_fit hrw hred hn2⟩⟩
          have := duals_row hred d hd
          exact ⟨this.1, fun q hq => ⟨(this.2 q hq).1, (this.2 q hq).2.mono (by omega)⟩⟩
      · rcases htold with ⟨rfl, _⟩ | ⟨tD, rfl, hn2, hT⟩
        · have hd := dep_row hred3 hx
          exact ⟨.ref t, rfl, s4.trans s5, .inl ⟨rfl, t, _, rfl, ht, hd.1, fun q hq => ⟨(hd.2 q hq).1, (hd.2 q hq).2.mono hg⟩, dep_of hrw hred3 hx hge⟩⟩
        · obtain ⟨y, hy, e⟩ := toZ' hx
          have := hn2 y hy
          omega
    rintro σ' H5 ⟨vw, rfl, s5, hcase⟩
    have S5 := S3.trans s5
    -- others
    refine ⟨_, rfl, _, rfl, _, rfl, a, ns, 2, rs.length, w, rfl, S5.seq hS, by decide, by omega, by omega, fun H6 tO os s6 hO hol hos => ?_⟩
    obtain ⟨po, eo, qo⟩ := id hO
    have how : ∀ r ∈ os, r.length = w := fun r hr => (hos r hr).1
    -- drawn
    refine ⟨_, rfl, tO, rfl, ⟨_, SqT.of eo⟩, fun D1 hD1 => lc_tup (K := K) (a := tO) (xs := po.map V.ref) (fun i Ha => Col (Tp (RatQ C)) D1 H6 Ha (os.take i)) (Col.start hD1) (fun i Ha _ z => .of (z.s _ _ eo)) ?_ ?_⟩
    · rintro i x Ha hx z
      obtain ⟨u, hu, rfl⟩ := item_of hx
      obtain ⟨r, hri, hru⟩ := Paired.at qo hu
      have hrm := hos r (List.mem_of_getElem? hri)
      refine ⟨rfl, _, rfl, u, r, rfl, .inr (VecP.stb.same z.s hru), fun q hq => (hrm.2 q hq).lo, by rw [hrm.1]; omega, fun Hb t sb ht => ?_⟩
      rw [take_snoc hri]
      refine z.push ((VecR.stb C).x D1) hD1 sb ht ?_
      rw [List.length_take]
      omega
    rintro H7 z
    rw [List.length_map, qo.length, List.take_length] at z
    obtain ⟨pd, edr, qdr⟩ := z.at_
    refine ⟨D1, _, rfl, .inl ⟨SqL.of edr, fun td htd => ?_⟩⟩
    have s8 : Same H7 (upd H7 td (.tup (pd.map V.ref))) := same_upd htd
    have hDr : MatT C (upd H7 td (.tup (pd.map V.ref))) td os := ⟨pd, upd_same, Paired.imp (fun _ _ f => (VecR.stb C).same s8 f) qdr⟩
    generalize (upd H7 td (.tup (pd.map V.ref))) = H8 at s8 hDr ⊢
    have s68 := z.s.trans s8
    have s58 := s6.trans s68
    have s38 := s5.trans s58
    have hm8 := (MatAt.stb C CM w).same s38 hm
    obtain ⟨dm8, tm8, em8, hT8⟩ := id hm8
    have hT8 : MatT C H8 tm8 rs := hT8
    have rowsOk : ∀ r ∈ rs, r.length = w ∧ RowOk 4 6 r := fun r hr => ⟨hrw r hr, sm_row (hsm r hr).2 (by rw [hrw r hr]; omega)⟩
    have rowsLo : ∀ {b : Nat}, 4 ≤ b → ∀ r ∈ rs, r.length = w ∧ LoB b r := fun {b} hb r hr => ⟨hrw r hr, fun q hq => ⟨((hsm r hr).2 q hq).lo, ((hsm r hr).2 q hq).bq.mono hb⟩⟩
    have othLo : ∀ d ∈ os, d.length = w ∧ LoB 4 d := fun d hd => ⟨how d hd, fun q hq => ⟨((hos d hd).2 q hq).lo, ((hos d hd).2 q hq).bq⟩⟩
    -- drawn duals
    refine ⟨_, rfl, m, CM, dm8, _, _, rfl, em8, TM.cl, TM.nR, mf_rows _ _, _, rfl, _, rfl, ?_⟩
    refine ⟨tm8, td, rs, w, rfl, hT8, by omega, by omega, .inr (.inr ⟨os, 4, 6, hDr, hol, fun d hd => ⟨how d hd, sm_row (hos d hd).2 (by rw [how d hd]; omega)⟩, rowsOk, by decide, by decide, fun H9 t1 s9 ht1 => ?_⟩)⟩
    have s39 := s38.trans s9
    refine ⟨_, rfl, _, rfl, tR, tO, rs, os, w, 4, rfl, MatP.stb.same s39 hRs3, MatP.stb.same (s68.trans s9) hO, hol, by omega, by omega, rowsLo (by decide), othLo, by decide, fun H10 t2 s10 ht2 => ?_⟩
    have e12 : t1 = t2 := by
      have h := ht1.trans ht2.symm
      cases t1 <;> cases t2 <;> simp_all
    subst e12
    refine ⟨rfl, _, rfl, ?_⟩
    rw [show decide (V.bl t1 = V.bl t1) = true from decide_eq_true rfl]
    have s910 := s9.trans s10
    have s310 := s38.trans s910
    have s510 := s58.trans s910
    refine iteF ⟨_, rfl, rfl, _, rfl, ?_⟩
    rcases hcase with ⟨rfl, tw, ws, rfl, hws, hwl, hwb, hdep⟩ | ⟨tD, ds, rfl, rfl, hDs, hdl, hdr, hfit⟩
    · -- dependent
      rw [show decide (V.non = V.non) = true from decide_eq_true rfl]
      refine iteT ⟨_, rfl, _, rfl, tw, ws, rs.length, rfl, (VecR.stb C).same s510 hws, hwl, fun q hq => (hwb q hq).1, by omega, fun H11 tu s11 htu => ?_⟩
      refine ⟨_, rfl, rfl, _, rfl, iteF ?_⟩
      have zer : ∀ {Ha : Hp} {n : Nat} {D : Addr} (hD : Ha D = none) (hn : n ≤ 100), ∀ {i : Nat} {Hb : Hp}, i < n → Col PairQ D Ha Hb (List.replicate i q0) → ∀ t, Hb t = none → ∃ acc, (upd Hb t (.tup [.int 0, .int 1])) D = some (.lst acc) ∧ acc.length < sizeLine ∧ Col PairQ D Ha (upd (upd Hb t (.tup [.int 0, .int 1])) D (.lst (acc ++ [V.ref t]))) (List.replicate (i + 1) q0) := fun {Ha n D} hD hn {i Hb} hi y t ht => by
        rw [List.replicate_succ']
        refine y.push (PairQ.stb.x D) hD (same_upd ht) upd_same ?_
        rw [List.length_replicate]
        omega
      refine ⟨_, rfl, _, rfl, (rs.length : Int), rfl, by omega, by omega, fun D2 hD2 => ?_⟩
      refine lc_range (lo := 0) (n := rs.length) (fun i Ha => Col PairQ D2 H11 Ha (List.replicate i q0)) (Col.start hD2) (fun i Ha hi y => ⟨rfl, (by show 2 ≤ sizeLine; decide), fun t ht => zer hD2 (by omega) hi y t ht⟩) ?_
      rintro H12 y
      obtain ⟨pn, en, qn⟩ := y.at_
      refine ⟨D2, _, rfl, .inl ⟨SqL.of en, fun tn htn => ?_⟩⟩
      have s13 : Same H12 (upd H12 tn (.tup (pn.map V.ref))) := same_upd htn
      have hNo : Tp PairQ (upd H12 tn (.tup (pn.map V.ref))) tn (List.replicate rs.length q0) := ⟨pn, upd_same, Paired.imp (fun _ _ f => PairQ.stb.same s13 f) qn⟩
      generalize (upd H12 tn (.tup (pn.map V.ref))) = H13 at s13 hNo ⊢
      have s1113 := y.s.trans s13
      have htu13 := VecP.stb.same s1113 htu
      obtain ⟨pa1, ea1, qa1⟩ := id htu13
      obtain ⟨pa2, ea2, qa2⟩ := id hNo
      refine ⟨.tuple (ws.map pD), .tuple ((List.replicate rs.length q0).map pD), .tup (SqT.of ea1) (dp_all (F := PairQ) (fun p b h => dp_pair h) qa1), .tup (SqT.of ea2) (dp_all (F := PairQ) (fun p b h => dp_pair h) qa2), shape_tup _, shape_tup _, _, rfl, ?_⟩
      rw [eqv_tup, decide_eq_false (dep_ne hdep)]
      refine iteF ?_
      have s313 := s310.trans (s11.trans s1113)
      have s813 := s910.trans (s11.trans s1113)
      refine ⟨_, rfl, _, rfl, tR, tO, rs, os, w, 4, rfl, MatP.stb.same s313 hRs3, MatP.stb.same (s68.trans s813) hO, hol, by omega, by omega, rowsLo (by decide), othLo, by decide, fun H14 t3 s14 ht3 => ?_⟩
      have e3 : t3 = false := by
        cases t3 with
        | false => rfl
        | true => exact (no_fits hol hdep (ht3.mp rfl)).elim
      subst e3
      refine ⟨false, rfl, iteF ?_⟩
      refine ⟨_, rfl, _, rfl, _, rfl, tR, tu, rs, ws, w, 200, rfl, MatP.stb.same (s313.trans s14) hRs3, VecP.stb.same s14 htu13, hwl, by omega, by omega, rowsLo (by decide), fun q hq => ⟨(hwb q hq).1, (hwb q hq).2.mono (by decide)⟩, by decide, fun H15 tq qs s15 htq hql hqlo hqv => ?_⟩
      have eqs := zeros_of hql hqlo fun j hj => by rw [hqv j hj, hdep.row j hj]
      subst eqs
      refine ⟨_, rfl, (w : Int), rfl, by omega, by omega, fun D3 hD3 => ?_⟩
      refine lc_range (lo := 0) (n := w) (fun i Ha => Col PairQ D3 H15 Ha (List.replicate i q0)) (Col.start hD3) (fun i Ha hi y => ⟨rfl, (by show 2 ≤ sizeLine; decide), fun t ht => zer hD3 (by omega) hi y t ht⟩) ?_
      rintro H16 y2
      obtain ⟨pn2, en2, qn2⟩ := y2.at_
      refine ⟨D3, _, rfl, .inl ⟨SqL.of en2, fun tn2 htn2 => ?_⟩⟩
      have s17 : Same H16 (upd H16 tn2 (.tup (pn2.map V.ref))) := same_upd htn2
      have hNo2 : Tp PairQ (upd H16 tn2 (.tup (pn2.map V.ref))) tn2 (List.replicate w q0) := ⟨pn2, upd_same, Paired.imp (fun _ _ f => PairQ.stb.same s17 f) qn2⟩
      obtain ⟨pb1, eb1, qb1⟩ := VecP.stb.same (y2.s.trans s17) htq
      obtain ⟨pb2, eb2, qb2⟩ := hNo2
      refine ⟨.tuple ((List.replicate w q0).map pD), .tuple ((List.replicate w q0).map pD), .tup (SqT.of eb1) (dp_all (F := PairQ) (fun p b h => dp_pair h) qb1), .tup (SqT.of eb2) (dp_all (F := PairQ) (fun p b h => dp_pair h) qb2), shape_tup _, shape_tup _, ?_⟩
      rw [eqv_shape (shape_tup _)]
      exact kq _
    -- independent
    rw [show decide (V.ref tD = V.non) = false from decide_eq_false (fun z => nomatch z)]
    refine iteF ?_
    have hDs10 := (MatT.stb C).same s510 hDs
    obtain ⟨pT, eT, qT⟩ := id hDs10
    have lT := qT.length
    refine ⟨_, rfl, rfl, _, rfl, iteF ?_⟩
    refine ⟨_, rfl, _, _, _, _, true, rfl, ClsV.ty "tuple", .base (.tup eT), kit_ty (by decide +kernel), true, rfl, ?_⟩
    refine iteF ⟨_, rfl, tD, _, rfl, .inr (SqT.of eT), _, rfl, rfl, _, rfl, ?_⟩
    rw [List.length_map, lT, hdl, show decide (V.int ((rs.length : Nat) : Int) = V.int ((rs.length : Nat) : Int)) = true from decide_eq_true rfl]
    refine iteF ?_
    -- they fit
    refine ⟨_, rfl, _, rfl, tD, rfl, ⟨_, SqT.of eT⟩, fun D2 hD2 => lc_tup (K := K) (a := tD) (xs := pT.map V.ref) (fun i Ha => Col (Tp PairQ) D2 H10 Ha (ds.take i)) (Col.start hD2) (fun i Ha _ z => .of (z.s _ _ eT)) ?_ ?_⟩
    · rintro i x Ha hx z
      obtain ⟨u, hu, rfl⟩ := item_of hx
      obtain ⟨d, hdi, hdu⟩ := Paired.at qT hu
      have hd := hdr d (List.mem_of_getElem? hdi)
      refine ⟨rfl, _, rfl, _, rfl, u, d, w, rfl, (VecR.stb C).same z.s hdu, hd.1, fun q hq => (hd.2 q hq).1, by omega, fun Hb t sb ht => ?_⟩
      rw [take_snoc hdi]
      refine z.push (VecP.stb.x D2) hD2 sb ht ?_
      rw [List.length_take]
      omega
    rintro H11 z2
    rw [List.length_map, lT, List.take_length] at z2
    refine ⟨tR, D2, rs, ds, w, 176, rfl, MatP.stb.same (s310.trans z2.s) hRs3, z2.at_, hdl, by omega, by omega, rowsLo (by decide), hdr, by decide, fun H12 t3 s12 ht3 => ?_⟩
    have e3 : t3 = true := ht3.mpr hfit
    subst e3
    refine ⟨true, rfl, iteF ?_⟩
    have s1012 := z2.s.trans s12
    have s312 := s310.trans s1012
    have hm12 := (MatAt.stb C CM w).same s312 hm
    obtain ⟨dm12, tm12, em12, hT12⟩ := id hm12
    have hT12 : MatT C H12 tm12 rs := hT12
    have hDs12 := (MatT.stb C).same s1012 hDs10
    have okD : ∀ d ∈ ds, d.length = w ∧ RowOk 400 2100 d := fun d hd => ⟨(hdr d hd).1, row_all (fun q hq => ⟨((hdr d hd).2 q hq).1, ((hdr d hd).2 q hq).2.mono (by decide)⟩) (by rw [(hdr d hd).1]; omega) (by rw [(hdr d hd).1]; omega)⟩
    have okR : ∀ r ∈ rs, r.length = w ∧ RowOk 400 2100 r := fun r hr => ⟨hrw r hr, row_all ((rowsLo (b := 400) (by decide) r hr).2) (by rw [hrw r hr]; omega) (by rw [hrw r hr]; omega)⟩
    -- shown
    refine ⟨_, rfl, m, CM, dm12, _, _, rfl, em12, TM.cl, TM.nR, mf_rows _ _, _, rfl, _, rfl, ?_⟩
    refine ⟨tm12, tD, rs, w, rfl, hT12, by omega, by omega, .inr (.inr ⟨ds, 400, 2100, hDs12, hdl, okD, okR, by decide, by decide, fun H13 t4 s13 ht4 => ?_⟩)⟩
    have e4 : t4 = true := ht4.mpr hfit
    subst e4
    refine ⟨true, true, rfl, rfl, _, rfl, iteF ?_⟩
    -- a list
    obtain ⟨pL, eL, qL⟩ := (MatT.stb C).same s13 hDs12
    refine ⟨_, rfl, m, CM, dm12, _, _, rfl, s13 _ _ em12, TM.cl, TM.nR, mf_rows _ _, _, rfl, _, rfl, tD, _, rfl, .inr (SqT.of eL), fun ll hll => ?_⟩
    have sl := same_upd (o := .lst (pL.map V.ref)) hll
    refine ⟨tm12, ll, rs, w, rfl, (MatT.stb C).same (s13.trans sl) hT12, by omega, by omega, .inr (.inl ⟨_, upd_same, ?_⟩)⟩
    refine ⟨false, false, rfl, rfl, _, rfl, iteF ?_⟩
    have s1214 := s13.trans sl
    have s314 := s312.trans s1214
    have hm14 := (MatAt.stb C CM w).same s314 hm
    have hDs14 := (MatT.stb C).same s1214 hDs12
    have hR14 := MatP.stb.same s314 hRs3
    have hl14 := s314 _ _ hl3
    generalize (upd H13 ll (.lst (pL.map V.ref))) = H14 at sl s1214 s314 hm14 hDs14 hR14 hl14 ⊢
    obtain ⟨dm14, tm14, em14, hT14⟩ := id hm14
    have hT14 : MatT C H14 tm14 rs := hT14
    -- the first and the last one
    refine ⟨fun σ' Ha => ∃ vb : Option V, σ' = [some (.ref a), some (.ref l), some (.int (rs.length : Int)), some (.int (w : Int)), some (.ref tR), some (.ref m), some (.ref tD), some .non, some (.ref tO), some (.ref td), none, vb, none, none, none, none, none, none] ∧ Same H14 Ha, ?_, ?_⟩
    · refine ⟨_, rfl, _, _, rfl, rfl, _, rfl, ite2 (fun c => ?_) (fun c => ⟨none, rfl, same_rfl⟩)⟩
      have hpos : (0 : Int) < (rs.length : Int) := of_decide_eq_true c
      obtain ⟨n, hn⟩ : ∃ n, rs.length = n + 1 := ⟨rs.length - 1, by omega⟩
      have en1 : (rs.length : Int) - 1 = (n : Int) := by omega
      have hdn : ds.length = n + 1 := by omega
      obtain ⟨pT4, eT4, qT4⟩ := id hDs14
      have lT4 := qT4.length
      have lT4' : (pT4.map V.ref).length = n + 1 := by rw [List.length_map, lT4, hdn]
      have hsx : HT.sIx (pT4.map V.ref).length (pT4.map V.ref).length (some ((rs.length : Int) - 1)) = n := by
        rw [en1, lT4']
        unfold HT.sIx
        simp only
        rw [if_neg (by omega)]
        simp
      have hcut : cutV (pT4.map V.ref) none (some ((rs.length : Int) - 1)) = (pT4.take n).map V.ref := by
        unfold cutV
        rw [hsx, show HT.sIx (pT4.map V.ref).length 0 none = 0 from rfl, List.map_take]
        rfl
      -- told[:height - 1]
      refine ⟨_, rfl, _, rfl, _, _, rfl, rfl, _, rfl, tD, _, rfl, SqT.of eT4, fun z => ?_, fun ts hts => ?_⟩
      · have z2 := z.2
        rw [hsx, lT4'] at z2
        omega
      have s15 := same_upd (o := .tup (cutV (pT4.map V.ref) none (some ((rs.length : Int) - 1)))) hts
      have ets : (upd H14 ts (.tup (cutV (pT4.map V.ref) none (some ((rs.length : Int) - 1))))) ts = some (.tup ((pT4.take n).map V.ref)) := by rw [upd_same, hcut]
      generalize (upd H14 ts (.tup (cutV (pT4.map V.ref) none (some ((rs.length : Int) - 1))))) = H15 at s15 ets ⊢
      obtain ⟨dl, hdl1⟩ : ∃ dl, ds[n]? = some dl := ⟨_, List.getElem?_eq_getElem (by omega)⟩
      have hdlm := hdr dl (List.mem_of_getElem? hdl1)
      obtain ⟨ul, hul, fl⟩ := Paired.at2 qT4 hdl1
      obtain ⟨pl, el, ql⟩ := (VecR.stb C).same s15 fl
      -- doubled
      refine ⟨_, rfl, _, rfl, _, _, rfl, rfl, tD, _, _, V.ref ul, rfl, rfl, SqT.of (s15 _ _ eT4), (by rw [en1]; exact atI_of (ref_at hul)), ul, rfl, ⟨_, SqT.of el⟩, fun D3 hD3 => lc_tup (K := K) (a := ul) (xs := pl.map V.ref) (fun j Ha => Col (RatQ C) D3 H15 Ha ((dl.take j).map fun q => addq q q)) (Col.start hD3) (fun j Ha _ z => .of (z.s _ _ el)) ?_ ?_⟩
      · rintro j x Ha hx z3
        obtain ⟨c, hc, rfl⟩ := item_of hx
        obtain ⟨q, hq1, hqc⟩ := Paired.at ql hc
        have hqc := (RatQ.stb C).same z3.s hqc
        obtain ⟨dc, ec⟩ := id hqc
        have lq := hdlm.2 q (List.mem_of_getElem? hq1)
        have hjl := (List.getElem?_eq_some_iff.mp hq1).1
        refine ⟨rfl, _, rfl, _, rfl, c, dc, _, c, dc, _, rfl, rfl, ec, ec, c, c, q, q, rfl, hqc, hqc, lq.1, lq.1, lq.2.bg (by decide), lq.2.bg (by decide), fun Hb t sb ht => ?_⟩
        rw [map_take_snoc hq1]
        refine z3.push ((RatQ.stb C).x D3) hD3 sb ht ?_
        rw [List.length_map, List.length_take]
        omega
      rintro H16 z3
      rw [List.length_map, ql.length, List.take_length] at z3
      obtain ⟨p3, e3, q3⟩ := z3.at_
      refine ⟨D3, _, rfl, .inl ⟨SqL.of e3, fun tb htb => ⟨(by show 1 ≤ sizeLine; decide), fun tx htx => ?_⟩⟩⟩
      have s17 := same_upd (o := .tup (p3.map V.ref)) htb
      have s18 := same_upd (o := .tup [V.ref tb]) htx
      have s1518 := z3.s.trans (s17.trans s18)
      have htb18 : Tp (RatQ C) (upd (upd H16 tb (.tup (p3.map V.ref))) tx (.tup [V.ref tb])) tb (dblQ dl) := ⟨p3, s18 _ _ upd_same, Paired.imp (fun _ _ f => (RatQ.stb C).same (s17.trans s18) f) q3⟩
      refine ⟨ts, tx, _, _, rfl, rfl, s1518 _ _ ets, upd_same, ?_, fun pb H19 hpb s19 => ?_⟩
      · rw [List.length_map, List.length_take, lT4]
        exact Nat.le_trans (by omega : min n ds.length + 1 ≤ 5) (by decide)
      have s1419 := s15.trans (s1518.trans s19)
      have hBt : MatT C H19 pb (bentQ ds n) := by
        refine ⟨pT4.take n ++ [tb], by rw [hpb, List.map_append]; rfl, ?_⟩
        unfold bentQ
        rw [show ds.getD n [] = dl by rw [List.getD_eq_getElem?_getD, hdl1]; rfl]
        exact Paired.snocP (paired_take n (Paired.imp (fun _ _ f => (VecR.stb C).same s1419 f) qT4)) ((VecR.stb C).same s19 htb18)
      have okB : ∀ d ∈ bentQ ds n, d.length = w ∧ RowOk 400 2100 d := fun d hd => by
        unfold bentQ at hd
        rcases List.mem_append.mp hd with h | h
        · exact okD d (List.mem_of_mem_take h)
        · rw [List.mem_singleton.mp h, show ds.getD n [] = dl by rw [List.getD_eq_getElem?_getD, hdl1]; rfl]
          have hlo := dbl_lo hdlm.2
          exact ⟨by rw [dbl_len, hdlm.1], row_all (fun q hq => ⟨(hlo q hq).1, (hlo q hq).2.mono (by decide)⟩) (by rw [dbl_len, hdlm.1]; omega) (by rw [dbl_len, hdlm.1]; omega)⟩
      have em19 := s1419 _ _ em14
      refine ⟨_, rfl, m, CM, dm14, _, _, rfl, em19, TM.cl, TM.nR, mf_rows _ _, _, rfl, _, rfl, ?_⟩
      refine ⟨tm14, pb, rs, w, rfl, (MatT.stb C).same s1419 hT14, by omega, by omega, .inr (.inr ⟨bentQ ds n, 400, 2100, hBt, by rw [bent_len hdn, hn], okB, okR, by decide, by decide, fun H20 t5 s20 ht5 => ?_⟩)⟩
      have e5 : t5 = false := by
        cases t5 with
        | false => rfl
        | true => exact (bent_not hn hdn (fun d hd => (hdr d hd).2) hfit (ht5.mp rfl)).elim
      subst e5
      refine ⟨false, false, rfl, rfl, _, rfl, iteF ?_⟩
      have s1420 := s1419.trans s20
      have eT20 := s1420 _ _ eT4
      have hsx1 : HT.sIx (pT4.map V.ref).length 0 (some 1) = 1 := by
        rw [lT4']
        unfold HT.sIx
        simp only
        rw [if_neg (by decide)]
        show min 1 (n + 1) = 1
        omega
      have hcut1 : cutV (pT4.map V.ref) (some 1) none = (pT4.drop 1).map V.ref := by
        unfold cutV
        rw [hsx1, show HT.sIx (pT4.map V.ref).length (pT4.map V.ref).length none = (pT4.map V.ref).length from rfl, List.map_drop]
        exact List.take_of_length_le (by rw [List.length_drop]; exact Nat.le_refl _)
      -- one less
      refine ⟨_, rfl, m, CM, dm14, _, _, rfl, s1420 _ _ em14, TM.cl, TM.nR, mf_rows _ _, _, rfl, _, rfl, _, rfl, tD, _, rfl, SqT.of eT20, fun z => ?_, fun ts2 hts2 => ?_⟩
      · have z1 := z.1
        rw [hsx1] at z1
        cases z1
      have s21 := same_upd (o := .tup (cutV (pT4.map V.ref) (some 1) none)) hts2
      refine ⟨tm14, ts2, rs, w, rfl, (MatT.stb C).same (s1420.trans s21) hT14, by omega, by omega, .inl ⟨ds.drop 1, ⟨pT4.drop 1, by rw [upd_same, hcut1], paired_drop 1 (Paired.imp (fun _ _ f => (VecR.stb C).same (s1420.trans s21) f) qT4)⟩, ?_, ?_⟩⟩
      · rw [List.length_drop]
        omega
      refine ⟨false, false, rfl, rfl, _, rfl, iteF ?_⟩
      have s1421 := s1420.trans s21
      generalize (upd H20 ts2 (.tup (cutV (pT4.map V.ref) (some 1) none))) = H21 at s21 s1421 ⊢
      -- the first product
      obtain ⟨d0, hd0⟩ : ∃ d0, ds[0]? = some d0 := ⟨_, List.getElem?_eq_getElem (by omega)⟩
      obtain ⟨r0, hr0⟩ : ∃ r0, rs[0]? = some r0 := ⟨_, List.getElem?_eq_getElem (by omega)⟩
      obtain ⟨u0, hu0, fu0⟩ := Paired.at2 qT4 hd0
      obtain ⟨pm0, etm0, qm0⟩ := id hT14
      obtain ⟨v0, hv0, fv0⟩ := Paired.at2 qm0 hr0
      have od0 := okD d0 (List.mem_of_getElem? hd0)
      have or0 := okR r0 (List.mem_of_getElem? hr0)
      have eT21 := s1421 _ _ eT4
      refine ⟨_, rfl, tD, _, _, _, rfl, rfl, SqT.of eT21, atI_of (k := 0) (ref_at hu0), _, rfl, m, CM, dm14, _, _, rfl, s1421 _ _ em14, TM.cl, TM.nR, mf_rows _ _, tm14, _, _, _, rfl, rfl, SqT.of (s1421 _ _ etm0), atI_of (k := 0) (ref_at hv0), ?_⟩
      refine ⟨u0, v0, d0, r0, 400, 2100, rfl, (VecR.stb C).same s1421 fu0, (VecR.stb C).same s1421 fv0, by rw [od0.1, or0.1], od0.2, or0.2, by decide, by decide, fun H22 xq q s22 hxq lo hv => ?_⟩
      have eq1 : q = (1, 1) := by
        refine lo_eq lo ⟨by decide, by decide⟩ ?_
        rw [hv, rv_q1, od0.1, hfit 0 0 d0 r0 hd0 hr0, if_pos rfl]
      subst eq1
      refine ⟨xq, 1, 1, rfl, hxq, by decide, by decide, fun H23 t6 s23 _ ht6 => ⟨(by show 2 ≤ sizeLine; decide), fun t7 ht7 => ?_⟩⟩
      have s24 := same_upd (o := .tup [V.int 1, V.int 1]) ht7
      refine ⟨pD (1, 1), pD (1, 1), dp_pair (q := (1, 1)) (PairQ.stb.same s24 ht6), dp_pair (q := (1, 1)) upd_same, shape_pair _, shape_pair _, _, rfl, ?_⟩
      rw [eqv_shape (shape_pair _)]
      have s1424 := s1421.trans (s22.trans (s23.trans s24))
      refine iteF ⟨_, rfl, tD, _, _, _, rfl, rfl, SqT.of (s1424 _ _ eT4), atI_of (k := 0) (ref_at hu0), _, rfl, u0, w, rfl, by omega, .inl ⟨d0, (VecR.stb C).same s1424 fu0, by rw [od0.1]; omega, fun H25 s25 => ?_⟩⟩
      rw [decide_eq_true od0.1]
      exact ⟨true, true, rfl, rfl, _, rfl, iteF ⟨some (.ref pb), rfl, s1424.trans s25⟩⟩
    rintro σ' H30 ⟨vb, rfl, s30⟩
    have hl30 := s30 _ _ hl14
    -- v
    refine ⟨_, rfl, (rs.length : Int), rfl, by omega, by omega, fun D5 hD5 => ?_⟩
    refine lc_range (lo := 0) (n := rs.length) (fun i Ha => Col PairQ D5 H30 Ha (vQ x1 x2 i)) (Col.start hD5) ?_ ?_
    · intro i Ha hi z5
      rw [Int.zero_add]
      have hla := z5.s _ _ hl30
      refine ⟨rfl, _, rfl, l, _, _, _, rfl, rfl, SqL.of hla, atI_of (k := 1) rfl, _, rfl, _, _, rfl, rfl, _, rfl, l, _, _, _, rfl, rfl, SqL.of hla, atI_of (k := 2) rfl, ?_⟩
      refine ⟨x1 + (i : Int), x2, rfl, fun Hb t sb ht => ?_⟩
      rw [v_succ]
      refine z5.push (PairQ.stb.x D5) hD5 sb ht ?_
      rw [v_len]
      omega
    rintro H31 z5
    have vsm := v_sm x1 x2 rs.length
    have vlen := v_len x1 x2 rs.length
    have hV := z5.at_
    generalize vQ x1 x2 rs.length = vq at vsm vlen hV
    refine ⟨D5, vq, rfl, .inl hV, fun q hq => (vsm q hq).lo, by omega, fun H32 tv s32 htv => ?_⟩
    have s3032 := z5.s.trans s32
    obtain ⟨pv0, ev0, qv0⟩ := id htv
    -- due
    refine ⟨_, rfl, _, rfl, _, rfl, tv, rfl, ⟨_, SqT.of ev0⟩, fun D6 hD6 => lc_tup (K := K) (a := tv) (xs := pv0.map V.ref) (fun i Ha => Col PairQ D6 H32 Ha (vq.take i)) (Col.start hD6) (fun i Ha _ z => .of (z.s _ _ ev0)) ?_ ?_⟩
    · rintro i x Ha hx z6
      obtain ⟨u, hu, rfl⟩ := item_of hx
      obtain ⟨q, hqi, hqu⟩ := Paired.at qv0 hu
      have lo := (vsm q (List.mem_of_getElem? hqi)).lo
      refine ⟨rfl, _, rfl, u, q.1, q.2, rfl, (RatQ.stb C).same z6.s hqu, lo.pos, lo.low, fun Hb t sb _ ht => ?_⟩
      rw [take_snoc hqi]
      refine z6.push (PairQ.stb.x D6) hD6 sb ht ?_
      rw [List.length_take]
      omega
    rintro H33 z6
    rw [List.length_map, qv0.length, List.take_length] at z6
    have s3033 := s3032.trans z6.s
    have vlo : ∀ {b : Nat}, 4 ≤ b → LoB b vq := fun {b} hb q hq => ⟨(vsm q hq).lo, (vsm q hq).bq.mono hb⟩
    refine ⟨tR, D6, rs, vq, w, 200, rfl, MatP.stb.same (s30.trans s3033) hR14, z6.at_, vlen, by omega, by omega, rowsLo (by decide), vlo (by decide), by decide, fun H34 tq qs s34 htq hql hqlo hqv => ?_⟩
    have s1434 := s30.trans (s3033.trans s34)
    -- the end
    refine ⟨_, rfl, m, CM, dm14, _, _, rfl, s1434 _ _ em14, TM.cl, TM.nR, mf_rows _ _, _, rfl, _, rfl, ?_⟩
    refine ⟨tm14, tv, rs, vq, w, 200, rfl, (MatT.stb C).same s1434 hT14, (VecR.stb C).same (z6.s.trans s34) htv, vlen, by omega, by omega, rowsLo (by decide), vlo (by decide), by decide, fun H35 tc qs2 s35 htc hql2 hqlo2 hqv2 => ?_⟩
    refine ⟨_, rfl, tc, qs2, w, rfl, htc, hql2, hqlo2, by omega, fun H36 tp s36 htp => ?_⟩
    have eqs : qs2 = qs := vec_eq hql2 hql hqlo2 hqlo fun j hj => by rw [hqv2 j hj, hqv j hj]
    subst eqs
    obtain ⟨pc1, ec1, qc1⟩ := id htp
    obtain ⟨pc2, ec2, qc2⟩ := VecP.stb.same (s35.trans s36) htq
    refine ⟨_, rfl, .tuple (qs2.map pD), .tuple (qs2.map pD), .tup (SqT.of ec1) (dp_all (F := PairQ) (fun p b h => dp_pair h) qc1), .tup (SqT.of ec2) (dp_all (F := PairQ) (fun p b h => dp_pair h) qc2), shape_tup _, shape_tup _, _, rfl, ?_⟩
    rw [eqv_shape (shape_tup _)]
    have s3236 := z6.s.trans (s34.trans (s35.trans s36))
    refine iteT ⟨_, rfl, tv, _, rfl, .inr (SqT.of (s3236 _ _ ev0)), fun lv hlv => ?_⟩
    refine ⟨_, rfl, lv, rs.length, rfl, by omega, .inr ⟨_, upd_same, fun H38 s38 => ?_⟩⟩
    exact ⟨false, false, rfl, rfl, kq _⟩

end
end Ind

set_option Elab.async false
set_option linter.all false
set_option maxRecDepth 100000
set_option maxHeartbeats 4000000
namespace Ind
open PySem PySem.Spec PyProof.Rows L2
open Builtin.Int (intBits)
/-! ### the end of a law's row, where the base is known to let a long division run -/
section
variable {K L : PySem.W.Frag} {h base : Heap}
theorem look_app (K L : PySem.W.Frag) (a : Addr) : (K ++ L).lookup a = (K.lookup a).or (L.lookup a) := List.lookup_append
theorem ext_in (X : K.In h) (hL : ∀ p ∈ L, h.get? p.1 = some p.2) : PySem.W.Frag.In (K ++ L) h := fun a o e => by
  rw [look_app] at e
  cases q : K.lookup a with
  | some u =>
    rw [q] at e
    have e1 : u = o := Option.some.inj e
    exact X a o (e1 ▸ q)
  | none =>
    rw [q] at e
    have e2 : L.lookup a = some o := e
    obtain ⟨l1, l2, e3, _⟩ := List.lookup_eq_some_iff.mp e2
    exact hL (a, o) (by rw [e3]; simp)
theorem ext_at (X : K.In h) (hL : ∀ p ∈ L, h.get? p.1 = some p.2) (B : PySem.W.Frag.In (K ++ L) base) {a : Addr} {o : Obj} (hp : (a, o) ∈ L) : base.get? a = some o := by
  cases q : List.lookup a (K ++ L) with
  | none =>
    rw [look_app] at q
    have q2 : L.lookup a = none := by
      cases z : K.lookup a with
      | some u => rw [z] at q; cases q
      | none => rw [z] at q; exact q
    have := List.lookup_eq_none_iff.mp q2 (a, o) hp
    simp at this
  | some u =>
    have h1 : h.get? a = some u := ext_in X hL a u q
    have h2 := hL (a, o) hp
    rw [h1] at h2
    cases h2
    exact B a o q
theorem app_in (B : PySem.W.Frag.In (K ++ L) base) : K.In base := fun a o e => B a o (by rw [look_app, e]; rfl)
end
/-- the objects that a long division asks for -/
structure Seen (h : Heap) (L : PySem.W.Frag) : Prop where
  at_ : ∀ p ∈ L, h.get? p.1 = some p.2
  no : ∀ p ∈ L, p.2.cls ≠ .type "list" ∨ ∃ es ep, p.2.data = .dict es ep
  far : ∀ base : Heap, (∀ a o, (a, o) ∈ L → base.get? a = some o) → base.NoSeer
theorem seen_of {h : Heap} (x : h.NoSeer) : ∃ L, Seen h L := by
  obtain ⟨⟨m1, ⟨o1, e1, p1, g1, d1, r1⟩, s1, s2⟩, ⟨m2, ⟨o2, e2, p2, g2, d2, r2⟩, s3⟩, ⟨m3, ⟨o3, e3, p3, g3, d3, r3⟩, s4⟩, ⟨m4, bm, ob, ⟨o4, e4, p4, g4, d4, r4⟩, s5, g5, c5, s6⟩⟩ := x
  refine ⟨[(cStatics, o1), (sysModules, o2), (builtinsNs, o3), (mainGlobals, o4), (bm, ob)], ⟨fun p hp => ?_, fun p hp => ?_, fun base k => ?_⟩⟩
  · simp only [List.mem_cons, List.not_mem_nil, or_false] at hp
    rcases hp with rfl | rfl | rfl | rfl | rfl <;> assumption
  · simp only [List.mem_cons, List.not_mem_nil, or_false] at hp
    rcases hp with rfl | rfl | rfl | rfl | rfl
    · exact .inr ⟨_, _, d1⟩
    · exact .inr ⟨_, _, d2⟩
    · exact .inr ⟨_, _, d3⟩
    · exact .inr ⟨_, _, d4⟩
    · exact .inl (by show ob.cls ≠ _; rw [c5]; intro z; exact absurd (Value.type.inj z) (by decide))
  · exact ⟨⟨m1, ⟨o1, e1, p1, k _ _ (by simp), d1, r1⟩, s1, s2⟩, ⟨m2, ⟨o2, e2, p2, k _ _ (by simp), d2, r2⟩, s3⟩, ⟨m3, ⟨o3, e3, p3, k _ _ (by simp), d3, r3⟩, s4⟩, ⟨m4, bm, ob, ⟨o4, e4, p4, k _ _ (by simp), d4, r4⟩, s5, k _ _ (by simp), c5, s6⟩⟩
theorem sql_app {K L : PySem.W.Frag} {h : Heap} (S : Seen h L) {H : Hp} {a : Addr} {xs : List V} (q : SqL (K ++ L) H a xs) : SqL K H a xs := by
  rcases q with q | ⟨o, its, n, lk, c, d, dt, r⟩
  · exact .inl q
  · rw [look_app] at lk
    cases z : K.lookup a with
    | some u =>
      rw [z] at lk
      cases lk
      exact .inr ⟨o, its, n, z, c, d, dt, r⟩
    | none =>
      rw [z] at lk
      have lk2 : L.lookup a = some o := lk
      obtain ⟨l1, l2, e3, _⟩ := List.lookup_eq_some_iff.mp lk2
      rcases S.no (a, o) (by rw [e3]; simp) with w | ⟨es, ep, w⟩
      · exact absurd c w
      · rw [show o.data = _ from w] at dt
        cases dt
/-- a def's promise over a larger written part -/
theorem lift_fn {P : Program} {w : World} {K K' : PySem.W.Frag} {mg : Str → Option Value} {base : Heap} {CX : CXT} {k : Nat} {f : Addr} {fd : FuncData} {ps : List Str} {sp : Sp} (kin : K.In base) (F : FnOk P w K mg base CX k f fd ps sp) : FnOk P w K' mg base CX k f fd ps sp :=
  ⟨F.len, fun A outer s H args us vs Q E hr e0 => F.run A outer s H args us vs Q E hr ⟨e0.frames, ⟨kin, e0.mod.glob, e0.mod.blt, e0.mod.nolimit⟩, e0.bs, e0.bsz, e0.funs, e0.frf, e0.hok, e0.bare⟩⟩
theorem walk_far {l : PySem.W.OpenLaw} {n k : Nat} {q : Program} {loose : List Str} {XP : (Str → Option Value) → Heap → Prop} {YP : World → Heap → Prop} {d : DefRec} {K : Params → PySem.W.Frag} {sp : World → Sp} {x : Str}
    (hn : l.most = some n) (hn2 : n ≤ sizeLine) (hdf : d.params.defaults = []) (hr : Room k callerA) (hi : importsNone q = true)
    (hY : ∀ (w : World) (h : Heap), YP w h → (K w.params).In h)
    (F : ∀ (w : World) (mg : Str → Option Value) (fa : Addr) (h : Heap), (K w.params).In h → h.Ns mainGlobals mg → mg d.name = some (.ref fa) →
      ∃ fd : FuncData, (∀ (s : Shared) (u : Value), BindsTo s fd ⟨[u], []⟩ [(x, u)]) ∧
        ∀ base : Heap, (K w.params).In base → base.Ns mainGlobals mg → base.NoSeer → FnOk l.prog w (K w.params) mg base CX0 k fa fd [x] (sp w))
    (hsp : ∀ (w : World) (H : Hp) (a : Addr) (ns : List Int), ns.length ≤ n → (∀ z ∈ ns, intBits z ≤ 1048576) → SqL (K w.params) H a (ns.map V.int) → sp w [.ref a] H (fun v _ => v = .bl true) fun _ _ _ => False) :
    PySem.W.WalkO q loose XP YP l.row.toRowW d [] (fun f vs => PySem.call f vs) := by
  refine Att.attach_callB hn hdf fun w s₀ s₁ mg mb fa o pm cd doc a vs ns G Y ho hd hcd hmg hobj hints hlen hbits hg => ?_
  have KX := hY w _ Y
  obtain ⟨L, S⟩ := seen_of (G.T.seer hi)
  obtain ⟨fd, hb, hF⟩ := F w mg fa _ KX G.T.g hmg
  refine law_call (K := K w.params ++ L) (CX := CX0) (ext_in KX S.at_) G.T.g G.T.b G.T.builtins G.T.nolimit hg hobj hints (Nat.le_trans hlen hn2) hr (fun base B g => lift_fn (app_in B) (hF base (app_in B) g (S.far base fun a o hp => ext_at KX S.at_ B hp))) hb (fun H _ hS => hsp w H a ns hlen hbits (sql_app S hS)) fun _ _ _ z => z
end Ind

set_option Elab.async false
set_option linter.all false
set_option maxRecDepth 100000
set_option maxHeartbeats 4000000
namespace Ind
open PySem PySem.Spec PyProof.Rows L2
open Builtin.Int (intBits)
theorem all_mk {P : Program} {w : World} {K : PySem.W.Frag} {h : Heap} {mg : Str → Option Value} {fa C CM Z fCon fZr fCf fDt fCb fIv fUv fSI fEl fFw fCa fWc fC fD fG fRt fAd fMu fS fP fPa fRts fSm fMx fDo fCo fFi fToM fE fPl fTi fIz fMI fRd fBu fDl fDu fDe fBe fL : Addr} (hT : P.given.tree = none) (X : K.In h) (G : h.Ns mainGlobals mg) (hfa : mg "law" = some (.ref fa))
    {ocCon kVCon dcCon pmCon cdCon ctCon : Value} {odCon anCon : Option Addr} {slCon : Array (Option Value)}
    {ocZr kVZr dcZr pmZr cdZr ctZr : Value} {odZr anZr : Option Addr} {slZr : Array (Option Value)}
    {ocCf kVCf dcCf pmCf cdCf ctCf : Value} {odCf anCf : Option Addr} {slCf : Array (Option Value)}
    {ocDt kVDt dcDt pmDt cdDt ctDt : Value} {odDt anDt : Option Addr} {slDt : Array (Option Value)}
    {ocCb kVCb dcCb pmCb cdCb ctCb : Value} {odCb anCb : Option Addr} {slCb : Array (Option Value)}
    {ocIv kVIv dcIv pmIv cdIv ctIv : Value} {odIv anIv : Option Addr} {slIv : Array (Option Value)}
    {ocUv kVUv dcUv pmUv cdUv ctUv : Value} {odUv anUv : Option Addr} {slUv : Array (Option Value)}
    {ocSI kVSI dcSI pmSI cdSI ctSI : Value} {odSI anSI : Option Addr} {slSI : Array (Option Value)}
    {ocEl kVEl dcEl pmEl cdEl ctEl : Value} {odEl anEl : Option Addr} {slEl : Array (Option Value)}
    {ocFw kVFw dcFw pmFw cdFw ctFw : Value} {odFw anFw : Option Addr} {slFw : Array (Option Value)}
    {ocCa kVCa dcCa pmCa cdCa ctCa : Value} {odCa anCa : Option Addr} {slCa : Array (Option Value)}
    {ocWc kVWc dcWc pmWc cdWc ctWc : Value} {odWc anWc : Option Addr} {slWc : Array (Option Value)}
    {ocC kVC dcC pmC cdC ctC : Value} {odC anC : Option Addr} {slC : Array (Option Value)}
    {ocD kVD dcD pmD cdD ctD : Value} {odD anD : Option Addr} {slD : Array (Option Value)}
    {ocG kVG dcG pmG cdG ctG : Value} {odG anG : Option Addr} {slG : Array (Option Value)}
    {ocRt kVRt dcRt pmRt cdRt ctRt : Value} {odRt anRt : Option Addr} {slRt : Array (Option Value)}
    {ocAd kVAd dcAd pmAd cdAd ctAd : Value} {odAd anAd : Option Addr} {slAd : Array (Option Value)}
    {ocMu kVMu dcMu pmMu cdMu ctMu : Value} {odMu anMu : Option Addr} {slMu : Array (Option Value)}
    {ocS kVS dcS pmS cdS ctS : Value} {odS anS : Option Addr} {slS : Array (Option Value)}
    {ocP kVP dcP pmP cdP ctP : Value} {odP anP : Option Addr} {slP : Array (Option Value)}
    {ocPa kVPa dcPa pmPa cdPa ctPa : Value} {odPa anPa : Option Addr} {slPa : Array (Option Value)}
    {ocRts kVRts dcRts pmRts cdRts ctRts : Value} {odRts anRts : Option Addr} {slRts : Array (Option Value)}
    {ocSm kVSm dcSm pmSm cdSm ctSm : Value} {odSm anSm : Option Addr} {slSm : Array (Option Value)}
    {ocMx kVMx dcMx pmMx cdMx ctMx : Value} {odMx anMx : Option Addr} {slMx : Array (Option Value)}
    {ocDo kVDo dcDo pmDo cdDo ctDo : Value} {odDo anDo : Option Addr} {slDo : Array (Option Value)}
    {ocCo kVCo dcCo pmCo cdCo ctCo : Value} {odCo anCo : Option Addr} {slCo : Array (Option Value)}
    {ocFi kVFi dcFi pmFi cdFi ctFi : Value} {odFi anFi : Option Addr} {slFi : Array (Option Value)}
    {ocToM kVToM dcToM pmToM cdToM ctToM : Value} {odToM anToM : Option Addr} {slToM : Array (Option Value)}
    {ocE kVE dcE pmE cdE ctE : Value} {odE anE : Option Addr} {slE : Array (Option Value)}
    {ocPl kVPl dcPl pmPl cdPl ctPl : Value} {odPl anPl : Option Addr} {slPl : Array (Option Value)}
    {ocTi kVTi dcTi pmTi cdTi ctTi : Value} {odTi anTi : Option Addr} {slTi : Array (Option Value)}
    {ocIz kVIz dcIz pmIz cdIz ctIz : Value} {odIz anIz : Option Addr} {slIz : Array (Option Value)}
    {ocMI kVMI dcMI pmMI cdMI ctMI : Value} {odMI anMI : Option Addr} {slMI : Array (Option Value)}
    {ocRd kVRd dcRd pmRd cdRd ctRd : Value} {odRd anRd : Option Addr} {slRd : Array (Option Value)}
    {ocBu kVBu dcBu pmBu cdBu ctBu : Value} {odBu anBu : Option Addr} {slBu : Array (Option Value)}
    {ocDl kVDl dcDl pmDl cdDl ctDl : Value} {odDl anDl : Option Addr} {slDl : Array (Option Value)}
    {ocDu kVDu dcDu pmDu cdDu ctDu : Value} {odDu anDu : Option Addr} {slDu : Array (Option Value)}
    {ocDe kVDe dcDe pmDe cdDe ctDe : Value} {odDe anDe : Option Addr} {slDe : Array (Option Value)}
    {ocBe kVBe dcBe pmBe cdBe ctBe : Value} {odBe anBe : Option Addr} {slBe : Array (Option Value)}
    {ocL kVL dcL pmL cdL ctL : Value} {odL anL : Option Addr} {slL : Array (Option Value)}
    {ocI kVI dcI pmI cdI ctI cT : Value} {odI anI ddT : Option Addr} {slI slT : Array (Option Value)} {tT : Tok} {nT : Nat} {fI T' : Addr}
    (aCon : PySem.W.nsIn K mainGlobals "content" = some (some (.ref fCon)))
    (lCon : K.lookup fCon = some ⟨ocCon, odCon, .func (PySem.W.fnOf "content" "content" (defArgs sCont) (defBody sCont) (defScope sCont) .none kVCon dcCon pmCon anCon cdCon ctCon), slCon⟩)
    (cCon : PySem.W.codeIn K cdCon "content" = true)
    (kpCon : PySem.W.keepIn K (.ref fCon) = true)
    (aZr : PySem.W.nsIn K mainGlobals "zero" = some (some (.ref fZr)))
    (lZr : K.lookup fZr = some ⟨ocZr, odZr, .func (PySem.W.fnOf "zero" "zero" (defArgs sZero) (defBody sZero) (defScope sZero) .none kVZr dcZr pmZr anZr cdZr ctZr), slZr⟩)
    (cZr : PySem.W.codeIn K cdZr "zero" = true)
    (kpZr : PySem.W.keepIn K (.ref fZr) = true)
    (aCf : PySem.W.nsIn K mainGlobals "common_form" = some (some (.ref fCf)))
    (lCf : K.lookup fCf = some ⟨ocCf, odCf, .func (PySem.W.fnOf "common_form" "common_form" (defArgs sCF) (defBody sCF) (defScope sCF) .none kVCf dcCf pmCf anCf cdCf ctCf), slCf⟩)
    (cCf : PySem.W.codeIn K cdCf "common_form" = true)
    (kpCf : PySem.W.keepIn K (.ref fCf) = true)
    (aDt : PySem.W.nsIn K mainGlobals "dot" = some (some (.ref fDt)))
    (lDt : K.lookup fDt = some ⟨ocDt, odDt, .func (PySem.W.fnOf "dot" "dot" (defArgs sDot) (defBody sDot) (defScope sDot) .none kVDt dcDt pmDt anDt cdDt ctDt), slDt⟩)
    (cDt : PySem.W.codeIn K cdDt "dot" = true)
    (kpDt : PySem.W.keepIn K (.ref fDt) = true)
    (aCb : PySem.W.nsIn K mainGlobals "combine" = some (some (.ref fCb)))
    (lCb : K.lookup fCb = some ⟨ocCb, odCb, .func (PySem.W.fnOf "combine" "combine" (defArgs sComb) (defBody sComb) (defScope sComb) .none kVCb dcCb pmCb anCb cdCb ctCb), slCb⟩)
    (cCb : PySem.W.codeIn K cdCb "combine" = true)
    (kpCb : PySem.W.keepIn K (.ref fCb) = true)
    (aIv : PySem.W.nsIn K mainGlobals "is_vector" = some (some (.ref fIv)))
    (lIv : K.lookup fIv = some ⟨ocIv, odIv, .func (PySem.W.fnOf "is_vector" "is_vector" (defArgs sIsV) (defBody sIsV) (defScope sIsV) .none kVIv dcIv pmIv anIv cdIv ctIv), slIv⟩)
    (cIv : PySem.W.codeIn K cdIv "is_vector" = true)
    (kpIv : PySem.W.keepIn K (.ref fIv) = true)
    (aUv : PySem.W.nsIn K mainGlobals "unit_vector" = some (some (.ref fUv)))
    (lUv : K.lookup fUv = some ⟨ocUv, odUv, .func (PySem.W.fnOf "unit_vector" "unit_vector" (defArgs sUv) (defBody sUv) (defScope sUv) .none kVUv dcUv pmUv anUv cdUv ctUv), slUv⟩)
    (cUv : PySem.W.codeIn K cdUv "unit_vector" = true)
    (kpUv : PySem.W.keepIn K (.ref fUv) = true)
    (aSI : PySem.W.nsIn K mainGlobals "shows_independent" = some (some (.ref fSI)))
    (lSI : K.lookup fSI = some ⟨ocSI, odSI, .func (PySem.W.fnOf "shows_independent" "shows_independent" (defArgs sShI) (defBody sShI) (defScope sShI) .none kVSI dcSI pmSI anSI cdSI ctSI), slSI⟩)
    (cSI : PySem.W.codeIn K cdSI "shows_independent" = true)
    (kpSI : PySem.W.keepIn K (.ref fSI) = true)
    (aEl : PySem.W.nsIn K mainGlobals "eliminated" = some (some (.ref fEl)))
    (lEl : K.lookup fEl = some ⟨ocEl, odEl, .func (PySem.W.fnOf "eliminated" "eliminated" (defArgs sElim) (defBody sElim) (defScope sElim) .none kVEl dcEl pmEl anEl cdEl ctEl), slEl⟩)
    (cEl : PySem.W.codeIn K cdEl "eliminated" = true)
    (kpEl : PySem.W.keepIn K (.ref fEl) = true)
    (aFw : PySem.W.nsIn K mainGlobals "first_with_item" = some (some (.ref fFw)))
    (lFw : K.lookup fFw = some ⟨ocFw, odFw, .func (PySem.W.fnOf "first_with_item" "first_with_item" (defArgs sFwi) (defBody sFwi) (defScope sFwi) .none kVFw dcFw pmFw anFw cdFw ctFw), slFw⟩)
    (cFw : PySem.W.codeIn K cdFw "first_with_item" = true)
    (kpFw : PySem.W.keepIn K (.ref fFw) = true)
    (aCa : PySem.W.nsIn K mainGlobals "cancelled" = some (some (.ref fCa)))
    (lCa : K.lookup fCa = some ⟨ocCa, odCa, .func (PySem.W.fnOf "cancelled" "cancelled" (defArgs sCan) (defBody sCan) (defScope sCan) .none kVCa dcCa pmCa anCa cdCa ctCa), slCa⟩)
    (cCa : PySem.W.codeIn K cdCa "cancelled" = true)
    (kpCa : PySem.W.keepIn K (.ref fCa) = true)
    (aWc : PySem.W.nsIn K mainGlobals "without_content" = some (some (.ref fWc)))
    (lWc : K.lookup fWc = some ⟨ocWc, odWc, .func (PySem.W.fnOf "without_content" "without_content" (defArgs sWc) (defBody sWc) (defScope sWc) .none kVWc dcWc pmWc anWc cdWc ctWc), slWc⟩)
    (cWc : PySem.W.codeIn K cdWc "without_content" = true)
    (kpWc : PySem.W.keepIn K (.ref fWc) = true)
    (aC : PySem.W.nsIn K mainGlobals "_law_cell" = some (some (.ref fC)))
    (lC : K.lookup fC = some ⟨ocC, odC, .func (PySem.W.fnOf "_law_cell" "_law_cell" (defArgs sCell) (defBody sCell) (defScope sCell) .none kVC dcC pmC anC cdC ctC), slC⟩)
    (cC : PySem.W.codeIn K cdC "_law_cell" = true)
    (kpC : PySem.W.keepIn K (.ref fC) = true)
    (aD : PySem.W.nsIn K mainGlobals "_law_draws" = some (some (.ref fD)))
    (lD : K.lookup fD = some ⟨ocD, odD, .func (PySem.W.fnOf "_law_draws" "_law_draws" (defArgs sDraws) (defBody sDraws) (defScope sDraws) .none kVD dcD pmD anD cdD ctD), slD⟩)
    (cD : PySem.W.codeIn K cdD "_law_draws" = true)
    (kpD : PySem.W.keepIn K (.ref fD) = true)
    (aG : PySem.W.nsIn K mainGlobals "_law_gcd" = some (some (.ref fG)))
    (lG : K.lookup fG = some ⟨ocG, odG, .func (PySem.W.fnOf "_law_gcd" "_law_gcd" (defArgs sGcd) (defBody sGcd) (defScope sGcd) .none kVG dcG pmG anG cdG ctG), slG⟩)
    (cG : PySem.W.codeIn K cdG "_law_gcd" = true)
    (kpG : PySem.W.keepIn K (.ref fG) = true)
    (aRt : PySem.W.nsIn K mainGlobals "_law_rat" = some (some (.ref fRt)))
    (lRt : K.lookup fRt = some ⟨ocRt, odRt, .func (PySem.W.fnOf "_law_rat" "_law_rat" (defArgs sRat) (defBody sRat) (defScope sRat) .none kVRt dcRt pmRt anRt cdRt ctRt), slRt⟩)
    (cRt : PySem.W.codeIn K cdRt "_law_rat" = true)
    (kpRt : PySem.W.keepIn K (.ref fRt) = true)
    (aAd : PySem.W.nsIn K mainGlobals "_law_add" = some (some (.ref fAd)))
    (lAd : K.lookup fAd = some ⟨ocAd, odAd, .func (PySem.W.fnOf "_law_add" "_law_add" (defArgs sAdd) (defBody sAdd) (defScope sAdd) .none kVAd dcAd pmAd anAd cdAd ctAd), slAd⟩)
    (cAd : PySem.W.codeIn K cdAd "_law_add" = true)
    (kpAd : PySem.W.keepIn K (.ref fAd) = true)
    (aMu : PySem.W.nsIn K mainGlobals "_law_mul" = some (some (.ref fMu)))
    (lMu : K.lookup fMu = some ⟨ocMu, odMu, .func (PySem.W.fnOf "_law_mul" "_law_mul" (defArgs sMul) (defBody sMul) (defScope sMul) .none kVMu dcMu pmMu anMu cdMu ctMu), slMu⟩)
    (cMu : PySem.W.codeIn K cdMu "_law_mul" = true)
    (kpMu : PySem.W.keepIn K (.ref fMu) = true)
    (aS : PySem.W.nsIn K mainGlobals "_law_is_integer" = some (some (.ref fS)))
    (lS : K.lookup fS = some ⟨ocS, odS, .func (PySem.W.fnOf "_law_is_integer" "_law_is_integer" (defArgs sIsI) (defBody sIsI) (defScope sIsI) .none kVS dcS pmS anS cdS ctS), slS⟩)
    (cS : PySem.W.codeIn K cdS "_law_is_integer" = true)
    (kpS : PySem.W.keepIn K (.ref fS) = true)
    (aP : PySem.W.nsIn K mainGlobals "_law_pair" = some (some (.ref fP)))
    (lP : K.lookup fP = some ⟨ocP, odP, .func (PySem.W.fnOf "_law_pair" "_law_pair" (defArgs sPair) (defBody sPair) (defScope sPair) .none kVP dcP pmP anP cdP ctP), slP⟩)
    (cP : PySem.W.codeIn K cdP "_law_pair" = true)
    (kpP : PySem.W.keepIn K (.ref fP) = true)
    (aPa : PySem.W.nsIn K mainGlobals "_law_pairs" = some (some (.ref fPa)))
    (lPa : K.lookup fPa = some ⟨ocPa, odPa, .func (PySem.W.fnOf "_law_pairs" "_law_pairs" (defArgs sPairs) (defBody sPairs) (defScope sPairs) .none kVPa dcPa pmPa anPa cdPa ctPa), slPa⟩)
    (cPa : PySem.W.codeIn K cdPa "_law_pairs" = true)
    (kpPa : PySem.W.keepIn K (.ref fPa) = true)
    (aRts : PySem.W.nsIn K mainGlobals "_law_ratios" = some (some (.ref fRts)))
    (lRts : K.lookup fRts = some ⟨ocRts, odRts, .func (PySem.W.fnOf "_law_ratios" "_law_ratios" (defArgs sRts) (defBody sRts) (defScope sRts) .none kVRts dcRts pmRts anRts cdRts ctRts), slRts⟩)
    (cRts : PySem.W.codeIn K cdRts "_law_ratios" = true)
    (kpRts : PySem.W.keepIn K (.ref fRts) = true)
    (aSm : PySem.W.nsIn K mainGlobals "_law_small" = some (some (.ref fSm)))
    (lSm : K.lookup fSm = some ⟨ocSm, odSm, .func (PySem.W.fnOf "_law_small" "_law_small" (defArgs sSm) (defBody sSm) (defScope sSm) .none kVSm dcSm pmSm anSm cdSm ctSm), slSm⟩)
    (cSm : PySem.W.codeIn K cdSm "_law_small" = true)
    (kpSm : PySem.W.keepIn K (.ref fSm) = true)
    (aMx : PySem.W.nsIn K mainGlobals "_law_matrix" = some (some (.ref fMx)))
    (lMx : K.lookup fMx = some ⟨ocMx, odMx, .func (PySem.W.fnOf "_law_matrix" "_law_matrix" (defArgs sLMx) (defBody sLMx) (defScope sLMx) .none kVMx dcMx pmMx anMx cdMx ctMx), slMx⟩)
    (cMx : PySem.W.codeIn K cdMx "_law_matrix" = true)
    (kpMx : PySem.W.keepIn K (.ref fMx) = true)
    (aDo : PySem.W.nsIn K mainGlobals "_law_dot" = some (some (.ref fDo)))
    (lDo : K.lookup fDo = some ⟨ocDo, odDo, .func (PySem.W.fnOf "_law_dot" "_law_dot" (defArgs sLDot) (defBody sLDot) (defScope sLDot) .none kVDo dcDo pmDo anDo cdDo ctDo), slDo⟩)
    (cDo : PySem.W.codeIn K cdDo "_law_dot" = true)
    (kpDo : PySem.W.keepIn K (.ref fDo) = true)
    (aCo : PySem.W.nsIn K mainGlobals "_law_combine" = some (some (.ref fCo)))
    (lCo : K.lookup fCo = some ⟨ocCo, odCo, .func (PySem.W.fnOf "_law_combine" "_law_combine" (defArgs sLCo) (defBody sLCo) (defScope sLCo) .none kVCo dcCo pmCo anCo cdCo ctCo), slCo⟩)
    (cCo : PySem.W.codeIn K cdCo "_law_combine" = true)
    (kpCo : PySem.W.keepIn K (.ref fCo) = true)
    (aFi : PySem.W.nsIn K mainGlobals "_law_fits" = some (some (.ref fFi)))
    (lFi : K.lookup fFi = some ⟨ocFi, odFi, .func (PySem.W.fnOf "_law_fits" "_law_fits" (defArgs sFits) (defBody sFits) (defScope sFits) .none kVFi dcFi pmFi anFi cdFi ctFi), slFi⟩)
    (cFi : PySem.W.codeIn K cdFi "_law_fits" = true)
    (kpFi : PySem.W.keepIn K (.ref fFi) = true)
    (aToM : PySem.W.nsIn K mainGlobals "_law_to_matrix" = some (some (.ref fToM)))
    (lToM : K.lookup fToM = some ⟨ocToM, odToM, .func (PySem.W.fnOf "_law_to_matrix" "_law_to_matrix" (defArgs sToM) (defBody sToM) (defScope sToM) .none kVToM dcToM pmToM anToM cdToM ctToM), slToM⟩)
    (cToM : PySem.W.codeIn K cdToM "_law_to_matrix" = true)
    (kpToM : PySem.W.keepIn K (.ref fToM) = true)
    (aE : PySem.W.findIn K (.ref C) "__eq__" = some (some (.ref fE)))
    (iE : PySem.W.isFn K (.ref fE) = true)
    (lE : K.lookup fE = some ⟨ocE, odE, .func (PySem.W.fnOf "__eq__" "Ratio.__eq__" (defArgs sEq) (defBody sEq) (defScope sEq) .none kVE dcE pmE anE cdE ctE), slE⟩)
    (cE : PySem.W.codeIn K cdE "Ratio.__eq__" = true)
    (kpE : PySem.W.keepIn K (.ref fE) = true)
    (aPl : PySem.W.findIn K (.ref C) "__add__" = some (some (.ref fPl)))
    (iPl : PySem.W.isFn K (.ref fPl) = true)
    (lPl : K.lookup fPl = some ⟨ocPl, odPl, .func (PySem.W.fnOf "__add__" "Ratio.__add__" (defArgs sAddR) (defBody sAddR) (defScope sAddR) .none kVPl dcPl pmPl anPl cdPl ctPl), slPl⟩)
    (cPl : PySem.W.codeIn K cdPl "Ratio.__add__" = true)
    (kpPl : PySem.W.keepIn K (.ref fPl) = true)
    (aTi : PySem.W.findIn K (.ref C) "__mul__" = some (some (.ref fTi)))
    (iTi : PySem.W.isFn K (.ref fTi) = true)
    (lTi : K.lookup fTi = some ⟨ocTi, odTi, .func (PySem.W.fnOf "__mul__" "Ratio.__mul__" (defArgs sMulR) (defBody sMulR) (defScope sMulR) .none kVTi dcTi pmTi anTi cdTi ctTi), slTi⟩)
    (cTi : PySem.W.codeIn K cdTi "Ratio.__mul__" = true)
    (kpTi : PySem.W.keepIn K (.ref fTi) = true)
    (aIz : PySem.W.findIn K (.ref C) "is_zero" = some (some (.ref fIz)))
    (iIz : PySem.W.isFn K (.ref fIz) = true)
    (lIz : K.lookup fIz = some ⟨ocIz, odIz, .func (PySem.W.fnOf "is_zero" "Ratio.is_zero" (defArgs sIsZ) (defBody sIsZ) (defScope sIsZ) .none kVIz dcIz pmIz anIz cdIz ctIz), slIz⟩)
    (cIz : PySem.W.codeIn K cdIz "Ratio.is_zero" = true)
    (kpIz : PySem.W.keepIn K (.ref fIz) = true)
    (aMI : PySem.W.findIn K (.ref CM) "__init__" = some (some (.ref fMI)))
    (iMI : PySem.W.isFn K (.ref fMI) = true)
    (lMI : K.lookup fMI = some ⟨ocMI, odMI, .func (PySem.W.fnOf "__init__" "Matrix.__init__" (defArgs sMI) (defBody sMI) (defScope sMI) .none kVMI dcMI pmMI anMI cdMI ctMI), slMI⟩)
    (cMI : PySem.W.codeIn K cdMI "Matrix.__init__" = true)
    (kpMI : PySem.W.keepIn K (.ref fMI) = true)
    (aRd : PySem.W.findIn K (.ref CM) "reduced" = some (some (.ref fRd)))
    (iRd : PySem.W.isFn K (.ref fRd) = true)
    (lRd : K.lookup fRd = some ⟨ocRd, odRd, .func (PySem.W.fnOf "reduced" "Matrix.reduced" (defArgs sMRed) (defBody sMRed) (defScope sMRed) .none kVRd dcRd pmRd anRd cdRd ctRd), slRd⟩)
    (cRd : PySem.W.codeIn K cdRd "Matrix.reduced" = true)
    (kpRd : PySem.W.keepIn K (.ref fRd) = true)
    (aBu : PySem.W.findIn K (.ref CM) "beside_unit" = some (some (.ref fBu)))
    (iBu : PySem.W.isFn K (.ref fBu) = true)
    (lBu : K.lookup fBu = some ⟨ocBu, odBu, .func (PySem.W.fnOf "beside_unit" "Matrix.beside_unit" (defArgs sBu) (defBody sBu) (defScope sBu) .none kVBu dcBu pmBu anBu cdBu ctBu), slBu⟩)
    (cBu : PySem.W.codeIn K cdBu "Matrix.beside_unit" = true)
    (kpBu : PySem.W.keepIn K (.ref fBu) = true)
    (aDl : PySem.W.findIn K (.ref CM) "dual" = some (some (.ref fDl)))
    (iDl : PySem.W.isFn K (.ref fDl) = true)
    (lDl : K.lookup fDl = some ⟨ocDl, odDl, .func (PySem.W.fnOf "dual" "Matrix.dual" (defArgs sDual) (defBody sDual) (defScope sDual) .none kVDl dcDl pmDl anDl cdDl ctDl), slDl⟩)
    (cDl : PySem.W.codeIn K cdDl "Matrix.dual" = true)
    (kpDl : PySem.W.keepIn K (.ref fDl) = true)
    (aDu : PySem.W.findIn K (.ref CM) "duals" = some (some (.ref fDu)))
    (iDu : PySem.W.isFn K (.ref fDu) = true)
    (lDu : K.lookup fDu = some ⟨ocDu, odDu, .func (PySem.W.fnOf "duals" "Matrix.duals" (defArgs sDuals) (defBody sDuals) (defScope sDuals) .none kVDu dcDu pmDu anDu cdDu ctDu), slDu⟩)
    (cDu : PySem.W.codeIn K cdDu "Matrix.duals" = true)
    (kpDu : PySem.W.keepIn K (.ref fDu) = true)
    (aDe : PySem.W.findIn K (.ref CM) "dependence" = some (some (.ref fDe)))
    (iDe : PySem.W.isFn K (.ref fDe) = true)
    (lDe : K.lookup fDe = some ⟨ocDe, odDe, .func (PySem.W.fnOf "dependence" "Matrix.dependence" (defArgs sDep) (defBody sDep) (defScope sDep) .none kVDe dcDe pmDe anDe cdDe ctDe), slDe⟩)
    (cDe : PySem.W.codeIn K cdDe "Matrix.dependence" = true)
    (kpDe : PySem.W.keepIn K (.ref fDe) = true)
    (aBe : PySem.W.findIn K (.ref CM) "beside" = some (some (.ref fBe)))
    (iBe : PySem.W.isFn K (.ref fBe) = true)
    (lBe : K.lookup fBe = some ⟨ocBe, odBe, .func (PySem.W.fnOf "beside" "Matrix.beside" (defArgs sMBe) (defBody sMBe) (defScope sMBe) .none kVBe dcBe pmBe anBe cdBe ctBe), slBe⟩)
    (cBe : PySem.W.codeIn K cdBe "Matrix.beside" = true)
    (kpBe : PySem.W.keepIn K (.ref fBe) = true)
    (aL : PySem.W.nsIn K mainGlobals "law" = some (some (.ref fL)))
    (lL : K.lookup fL = some ⟨ocL, odL, .func (PySem.W.fnOf "law" "law" (defArgs sLaw) (defBody sLaw) (defScope sLaw) .none kVL dcL pmL anL cdL ctL), slL⟩)
    (cL : PySem.W.codeIn K cdL "law" = true)
    (kpL : PySem.W.keepIn K (.ref fL) = true)
    (aI : PySem.W.findIn K (.ref C) "__init__" = some (some (.ref fI)))
    (iI : PySem.W.isFn K (.ref fI) = true)
    (lI : K.lookup fI = some ⟨ocI, odI, .func (PySem.W.fnOf "__init__" "Ratio.__init__" (defArgs sInit) (defBody sInit) (defScope sInit) (.ref T') kVI dcI pmI anI cdI ctI), slI⟩)
    (lT : K.lookup T' = some ⟨cT, ddT, .seq #[.int 1 tT] nT, slT⟩)
    (cI : PySem.W.codeIn K cdI "Ratio.__init__" = true)
    (kpI : PySem.W.keepIn K (.ref fI) = true)
    (gC : PySem.W.nsIn K mainGlobals "Ratio" = some (some (.ref C)))
    (gM : PySem.W.nsIn K mainGlobals "Matrix" = some (some (.ref CM)))
    (pg1 : PySem.W.plainGet K C Str.empty = true)
    (hd1 : PySem.W.hasDictIn K C = true)
    (po1 : PySem.W.plainOver K C = true)
    (sa1 : PySem.W.findIn K (.ref C) "__setattr__" = some (some (.builtin "object.__setattr__")))
    (mk1 : PySem.W.makesIn K C = true)
    (kpC1 : PySem.W.keepIn K (.ref C) = true)
    (ca1 : PySem.W.findIn K (.ref C) "__class__" = some (some (.builtin "object.__class__")))
    (cm1 : PySem.W.mroIn K C (.type "object") = some true)
    (ck1 : PySem.W.kitOne K (.ref C) (.ref C) = some true)
    (pg2 : PySem.W.plainGet K CM Str.empty = true)
    (hd2 : PySem.W.hasDictIn K CM = true)
    (po2 : PySem.W.plainOver K CM = true)
    (sa2 : PySem.W.findIn K (.ref CM) "__setattr__" = some (some (.builtin "object.__setattr__")))
    (mk2 : PySem.W.makesIn K CM = true)
    (kpC2 : PySem.W.keepIn K (.ref CM) = true)
    (ca2 : PySem.W.findIn K (.ref CM) "__class__" = some (some (.builtin "object.__class__")))
    (cm2 : PySem.W.mroIn K CM (.type "object") = some true)
    (ck2 : PySem.W.kitOne K (.ref CM) (.ref CM) = some true)
    (nN : PySem.W.findIn K (.ref C) "n" = some none)
    (nD : PySem.W.findIn K (.ref C) "d" = some none)
    (nR : PySem.W.findIn K (.ref CM) "rows" = some none)
    (nW : PySem.W.findIn K (.ref CM) "width" = some none)
    (gg : PySem.W.nsIn K mainGlobals "gcd" = some (some (.builtin "math.gcd")))
    (gl : PySem.W.nsIn K mainGlobals "lcm" = some (some (.builtin "math.lcm")))
    (xZ : PySem.W.excIn K Z [.type "ValueError", .type "Exception", .type "BaseException", .type "object"] "ValueError.__new__" = true)
    (gZ : PySem.W.nsIn K mainGlobals "ZeroDivisor" = some (some (.ref Z)))
    (kpZ : PySem.W.keepIn K (.ref Z) = true)
    (bZ : PySem.W.subIn K (.ref Z) (.type "BaseException") = some true)
    (tZ : PySem.W.typeIn K (.ref Z) = some (.type "type"))
    (zlen : PySem.W.nsIn K mainGlobals "len" = some none)
    (zrange : PySem.W.nsIn K mainGlobals "range" = some none)
    (zint : PySem.W.nsIn K mainGlobals "int" = some none)
    (zabs : PySem.W.nsIn K mainGlobals "abs" = some none)
    (zisinstance : PySem.W.nsIn K mainGlobals "isinstance" = some none)
    (zbool : PySem.W.nsIn K mainGlobals "bool" = some none)
    (ztuple : PySem.W.nsIn K mainGlobals "tuple" = some none)
    (zlist : PySem.W.nsIn K mainGlobals "list" = some none)
    (ziter : PySem.W.nsIn K mainGlobals "iter" = some none)
    (zzip : PySem.W.nsIn K mainGlobals "zip" = some none)
    (zsum : PySem.W.nsIn K mainGlobals "sum" = some none)
    (zenumerate : PySem.W.nsIn K mainGlobals "enumerate" = some none)
    (zall : PySem.W.nsIn K mainGlobals "all" = some none)
    (zany : PySem.W.nsIn K mainGlobals "any" = some none)
    (cn : PySem.W.specialIn K (.builtin "object.__class__") "__get__" = some (some (.builtin "getset_descriptor.__get__")))
    (ct : PySem.W.takesIn K (.builtin "object.__class__") = some true)
    (sf : PySem.W.selfFirst K C = true) :
    ∃ fd : FuncData, (∀ (s : Shared) (v : Value), BindsTo s fd ⟨[v], []⟩ [("script", v)]) ∧ ∀ base : Heap, K.In base → base.Ns mainGlobals mg → base.NoSeer → FnOk P w K mg base CX0 60 fa fd ["script"] (spLaw K) := by
  have e := hfa.symm.trans (PySem.W.mg_of X G aL)
  cases e
  have T : TxL K mg := ⟨PySem.W.mg_none_of X G zlen, PySem.W.mg_none_of X G zrange, PySem.W.mg_none_of X G zint, PySem.W.mg_none_of X G zabs, PySem.W.mg_none_of X G zisinstance, PySem.W.mg_none_of X G zbool⟩
  have R : TxR K mg C Z := ⟨⟨pg1, hd1, po1, sa1⟩, nN, nD, PySem.W.mg_of X G gC, PySem.W.mg_of X G gg, xZ, PySem.W.mg_of X G gZ, kpZ, bZ, tZ⟩
  have TM : TxM K mg CM := ⟨⟨pg2, hd2, po2, sa2⟩, nR, nW, PySem.W.mg_of X G gM, PySem.W.mg_none_of X G ztuple, PySem.W.mg_none_of X G zlist, PySem.W.mg_none_of X G ziter, PySem.W.mg_none_of X G zzip, PySem.W.mg_none_of X G zsum, PySem.W.mg_none_of X G zenumerate⟩
  have I : TxI K C := ⟨ca1, cn, ct, cm1, ck1⟩
  have IM : TxI K CM := ⟨ca2, cn, ct, cm2, ck2⟩
  have ml := PySem.W.mg_of X G gl
  have FCon := fun_mk (st := sCont) lCon cCon kpCon
  have bCon := FCon.binds (ps := ["row"]) fun _ _ _ _ _ _ us hl => match us, hl with | [_], _ => rfl
  have mCon := PySem.W.mg_of X G aCon
  have FZr := fun_mk (st := sZero) lZr cZr kpZr
  have bZr := FZr.binds (ps := []) fun _ _ _ _ _ _ us hl => match us, hl with | [], _ => rfl
  have mZr := PySem.W.mg_of X G aZr
  have FCf := fun_mk (st := sCF) lCf cCf kpCf
  have bCf := FCf.binds (ps := ["numbers"]) fun _ _ _ _ _ _ us hl => match us, hl with | [_], _ => rfl
  have mCf := PySem.W.mg_of X G aCf
  have FDt := fun_mk (st := sDot) lDt cDt kpDt
  have bDt := FDt.binds (ps := ["a", "b"]) fun _ _ _ _ _ _ us hl => match us, hl with | [_, _], _ => rfl
  have mDt := PySem.W.mg_of X G aDt
  have FCb := fun_mk (st := sComb) lCb cCb kpCb
  have bCb := FCb.binds (ps := ["rows", "width", "weights"]) fun _ _ _ _ _ _ us hl => match us, hl with | [_, _, _], _ => rfl
  have mCb := PySem.W.mg_of X G aCb
  have FIv := fun_mk (st := sIsV) lIv cIv kpIv
  have bIv := FIv.binds (ps := ["value", "length"]) fun _ _ _ _ _ _ us hl => match us, hl with | [_, _], _ => rfl
  have mIv := PySem.W.mg_of X G aIv
  have FUv := fun_mk (st := sUv) lUv cUv kpUv
  have bUv := FUv.binds (ps := ["at", "length"]) fun _ _ _ _ _ _ us hl => match us, hl with | [_, _], _ => rfl
  have mUv := PySem.W.mg_of X G aUv
  have FSI := fun_mk (st := sShI) lSI cSI kpSI
  have bSI := FSI.binds (ps := ["rows", "width", "duals"]) fun _ _ _ _ _ _ us hl => match us, hl with | [_, _, _], _ => rfl
  have mSI := PySem.W.mg_of X G aSI
  have FEl := fun_mk (st := sElim) lEl cEl kpEl
  have bEl := FEl.binds (ps := ["rows", "width"]) fun _ _ _ _ _ _ us hl => match us, hl with | [_, _], _ => rfl
  have mEl := PySem.W.mg_of X G aEl
  have FFw := fun_mk (st := sFwi) lFw cFw kpFw
  have bFw := FFw.binds (ps := ["rows", "column"]) fun _ _ _ _ _ _ us hl => match us, hl with | [_, _], _ => rfl
  have mFw := PySem.W.mg_of X G aFw
  have FCa := fun_mk (st := sCan) lCa cCa kpCa
  have bCa := FCa.binds (ps := ["row", "top", "column"]) fun _ _ _ _ _ _ us hl => match us, hl with | [_, _, _], _ => rfl
  have mCa := PySem.W.mg_of X G aCa
  have FWc := fun_mk (st := sWc) lWc cWc kpWc
  have bWc := FWc.binds (ps := ["row"]) fun _ _ _ _ _ _ us hl => match us, hl with | [_], _ => rfl
  have mWc := PySem.W.mg_of X G aWc
  have FC := fun_mk (st := sCell) lC cC kpC
  have bC := FC.binds (ps := ["script", "k"]) fun _ _ _ _ _ _ us hl => match us, hl with | [_, _], _ => rfl
  have mC := PySem.W.mg_of X G aC
  have FD := fun_mk (st := sDraws) lD cD kpD
  have bD := FD.binds (ps := ["script", "at", "count", "bound"]) fun _ _ _ _ _ _ us hl => match us, hl with | [_, _, _, _], _ => rfl
  have mD := PySem.W.mg_of X G aD
  have FG := fun_mk (st := sGcd) lG cG kpG
  have bG := FG.binds (ps := ["a", "b"]) fun _ _ _ _ _ _ us hl => match us, hl with | [_, _], _ => rfl
  have mG := PySem.W.mg_of X G aG
  have FRt := fun_mk (st := sRat) lRt cRt kpRt
  have bRt := FRt.binds (ps := ["n", "d"]) fun _ _ _ _ _ _ us hl => match us, hl with | [_, _], _ => rfl
  have mRt := PySem.W.mg_of X G aRt
  have FAd := fun_mk (st := sAdd) lAd cAd kpAd
  have bAd := FAd.binds (ps := ["a", "b"]) fun _ _ _ _ _ _ us hl => match us, hl with | [_, _], _ => rfl
  have mAd := PySem.W.mg_of X G aAd
  have FMu := fun_mk (st := sMul) lMu cMu kpMu
  have bMu := FMu.binds (ps := ["a", "b"]) fun _ _ _ _ _ _ us hl => match us, hl with | [_, _], _ => rfl
  have mMu := PySem.W.mg_of X G aMu
  have FS := fun_mk (st := sIsI) lS cS kpS
  have bS := FS.binds (ps := ["value"]) fun _ _ _ _ _ _ us hl => match us, hl with | [_], _ => rfl
  have mS := PySem.W.mg_of X G aS
  have FP := fun_mk (st := sPair) lP cP kpP
  have bP := FP.binds (ps := ["value"]) fun _ _ _ _ _ _ us hl => match us, hl with | [_], _ => rfl
  have mP := PySem.W.mg_of X G aP
  have FPa := fun_mk (st := sPairs) lPa cPa kpPa
  have bPa := FPa.binds (ps := ["values", "size"]) fun _ _ _ _ _ _ us hl => match us, hl with | [_, _], _ => rfl
  have mPa := PySem.W.mg_of X G aPa
  have FRts := fun_mk (st := sRts) lRts cRts kpRts
  have bRts := FRts.binds (ps := ["row"]) fun _ _ _ _ _ _ us hl => match us, hl with | [_], _ => rfl
  have mRts := PySem.W.mg_of X G aRts
  have FSm := fun_mk (st := sSm) lSm cSm kpSm
  have bSm := FSm.binds (ps := ["n", "d"]) fun _ _ _ _ _ _ us hl => match us, hl with | [_, _], _ => rfl
  have mSm := PySem.W.mg_of X G aSm
  have FMx := fun_mk (st := sLMx) lMx cMx kpMx
  have bMx := FMx.binds (ps := ["script", "at", "rows", "width"]) fun _ _ _ _ _ _ us hl => match us, hl with | [_, _, _, _], _ => rfl
  have mMx := PySem.W.mg_of X G aMx
  have FDo := fun_mk (st := sLDot) lDo cDo kpDo
  have bDo := FDo.binds (ps := ["a", "b"]) fun _ _ _ _ _ _ us hl => match us, hl with | [_, _], _ => rfl
  have mDo := PySem.W.mg_of X G aDo
  have FCo := fun_mk (st := sLCo) lCo cCo kpCo
  have bCo := FCo.binds (ps := ["rows", "width", "y"]) fun _ _ _ _ _ _ us hl => match us, hl with | [_, _, _], _ => rfl
  have mCo := PySem.W.mg_of X G aCo
  have FFi := fun_mk (st := sFits) lFi cFi kpFi
  have bFi := FFi.binds (ps := ["rows", "duals"]) fun _ _ _ _ _ _ us hl => match us, hl with | [_, _], _ => rfl
  have mFi := PySem.W.mg_of X G aFi
  have FToM := fun_mk (st := sToM) lToM cToM kpToM
  have bToM := FToM.binds (ps := ["rows", "width"]) fun _ _ _ _ _ _ us hl => match us, hl with | [_, _], _ => rfl
  have mToM := PySem.W.mg_of X G aToM
  have FE := fun_mk (st := sEq) lE cE kpE
  have bE := FE.binds (ps := ["self", "other"]) fun _ _ _ _ _ _ us hl => match us, hl with | [_, _], _ => rfl
  have ME : Meth K C "__eq__" fE := ⟨aE, iE, kpE⟩
  have FPl := fun_mk (st := sAddR) lPl cPl kpPl
  have bPl := FPl.binds (ps := ["self", "other"]) fun _ _ _ _ _ _ us hl => match us, hl with | [_, _], _ => rfl
  have MPl : Meth K C "__add__" fPl := ⟨aPl, iPl, kpPl⟩
  have FTi := fun_mk (st := sMulR) lTi cTi kpTi
  have bTi := FTi.binds (ps := ["self", "other"]) fun _ _ _ _ _ _ us hl => match us, hl with | [_, _], _ => rfl
  have MTi : Meth K C "__mul__" fTi := ⟨aTi, iTi, kpTi⟩
  have FIz := fun_mk (st := sIsZ) lIz cIz kpIz
  have bIz := FIz.binds (ps := ["self"]) fun _ _ _ _ _ _ us hl => match us, hl with | [_], _ => rfl
  have MIz : Meth K C "is_zero" fIz := ⟨aIz, iIz, kpIz⟩
  have FMI := fun_mk (st := sMI) lMI cMI kpMI
  have bMI := FMI.binds (ps := ["self", "rows", "width"]) fun _ _ _ _ _ _ us hl => match us, hl with | [_, _, _], _ => rfl
  have MMI : Meth K CM "__init__" fMI := ⟨aMI, iMI, kpMI⟩
  have FRd := fun_mk (st := sMRed) lRd cRd kpRd
  have bRd := FRd.binds (ps := ["self"]) fun _ _ _ _ _ _ us hl => match us, hl with | [_], _ => rfl
  have MRd : Meth K CM "reduced" fRd := ⟨aRd, iRd, kpRd⟩
  have FBu := fun_mk (st := sBu) lBu cBu kpBu
  have bBu := FBu.binds (ps := ["self"]) fun _ _ _ _ _ _ us hl => match us, hl with | [_], _ => rfl
  have MBu : Meth K CM "beside_unit" fBu := ⟨aBu, iBu, kpBu⟩
  have FDl := fun_mk (st := sDual) lDl cDl kpDl
  have bDl := FDl.binds (ps := ["self", "matrix", "pivots", "k"]) fun _ _ _ _ _ _ us hl => match us, hl with | [_, _, _, _], _ => rfl
  have MDl : Meth K CM "dual" fDl := ⟨aDl, iDl, kpDl⟩
  have FDu := fun_mk (st := sDuals) lDu cDu kpDu
  have bDu := FDu.binds (ps := ["self"]) fun _ _ _ _ _ _ us hl => match us, hl with | [_], _ => rfl
  have MDu : Meth K CM "duals" fDu := ⟨aDu, iDu, kpDu⟩
  have FDe := fun_mk (st := sDep) lDe cDe kpDe
  have bDe := FDe.binds (ps := ["self"]) fun _ _ _ _ _ _ us hl => match us, hl with | [_], _ => rfl
  have MDe : Meth K CM "dependence" fDe := ⟨aDe, iDe, kpDe⟩
  have FBe := fun_mk (st := sMBe) lBe cBe kpBe
  have bBe := FBe.binds (ps := ["self", "columns", "count"]) fun _ _ _ _ _ _ us hl => match us, hl with | [_, _, _], _ => rfl
  have MBe : Meth K CM "beside" fBe := ⟨aBe, iBe, kpBe⟩
  have FL := fun_mk (st := sLaw) lL cL kpL
  have mL := PySem.W.mg_of X G aL
  have FI : FunD K "__init__" "Ratio.__init__" (defArgs sInit) (defBody sInit) (defScope sInit) [.int 1] [] fI (PySem.W.fnOf "__init__" "Ratio.__init__" (defArgs sInit) (defBody sInit) (defScope sInit) (.ref T') kVI dcI pmI anI cdI ctI) :=
    ⟨⟨_, _, _, _, _, _, _, _, _, _, rfl, lI, cI, .inr ⟨(by simp), _, _, [.int 1 tT], nT, rfl, lT, rfl, .cons ⟨tT, rfl⟩ .nil⟩, .inl rfl⟩, kpI⟩
  obtain ⟨ds2, v2, b2⟩ := FI.binds1 (ps := ["self", "n", "d"]) 3 1 (by simp) rfl (fun T kV doc pm an cdv ct us its h1 h2 => match us, its, h1, h2 with | [_, _, _], [_], _, _ => ⟨_, rfl, rfl⟩)
  obtain ⟨ds1, v1, b1⟩ := FI.binds1 (ps := ["self", "n", "d"]) 2 0 (by simp) rfl (fun T kV doc pm an cdv ct us its h1 h2 => match us, its, h1, h2 with | [_, _], [_], _, _ => ⟨_, rfl, rfl⟩)
  cases v2
  refine ⟨(PySem.W.fnOf "law" "law" (defArgs sLaw) (defBody sLaw) (defScope sLaw) .none kVL dcL pmL anL cdL ctL), fun s v => .of_eq rfl, fun base _ _ hN => ?_⟩
  have M : MkR P w K mg base C Z fI _ ds1 := ⟨⟨mk1, aI, iI, kpC1⟩, ok_init hN hT FI R, b2, b1, v1⟩
  have MM : MkM P w K mg base C CM fMI _ := ⟨⟨mk2, aMI, iMI, kpC2⟩, ok_mi FMI TM, bMI⟩
  have GRt := ok_rat (P := P) (w := w) hN hT FRt T FG bG mG
  have GRq := ratQ GRt
  have TE : TxEl P w K mg base C fCf fEl _ _ := ⟨mCf, kpCf, bCf, ok_cf FCf R ml, mEl, kpEl, bEl, ok_elim FEl T R FWc bWc mWc FCon bCon mCon TM.zip TM.enum FCa bCa mCa FFw bFw mFw⟩
  have TA : TxAM P w K mg base fAd fMu _ _ := ⟨mAd, kpAd, bAd, addQ (ok_addT FAd GRt kpRt bRt mRt), mMu, kpMu, bMu, mulQ (ok_mulT FMu GRt kpRt bRt mRt)⟩
  have GRs := ok_rts (P := P) (w := w) (base := base) FRts R TM M
  have GSm := ok_small (P := P) (w := w) (base := base) FSm GRq kpRt bRt mRt
  have GDt := ok_dot (P := P) (w := w) (base := base) FDt R M ml TM.sum TM.zip FCf bCf mCf
  have ga := PySem.W.mg_none_of X G zall
  have GIz := ok_isz (P := P) (w := w) (base := base) FIz R
  have TO : TxOp P w K mg base C fPl fTi fIz fZr _ _ _ _ := ⟨ok_addR FPl R M, aPl, iPl, bPl, ok_mulR FTi R M, aTi, iTi, bTi, sf, MIz, bIz, GIz, mZr, kpZr, bZr, ok_zero FZr R M⟩
  have gy := PySem.W.mg_none_of X G zany
  have GUv := ok_uv (P := P) (w := w) (base := base) FUv T R TM M
  have GRd := ok_mred (P := P) (w := w) (base := base) FRd T R TM TE M MM
  have GIv := ok_isv (P := P) (w := w) (base := base) FIv T R TM I ga
  have TDu : TxDu P w K mg base C CM fBu fRd _ _ := ⟨MBu, bBu, ok_bu FBu T TM MBe bBe (ok_mbe FBe TM MM) GUv kpUv bUv mUv, MRd, bRd, GRd⟩
  have TSI : TxSI P w K mg base C fIv fDt fUv fE _ _ _ _ := ⟨mIv, kpIv, bIv, GIv, mDt, kpDt, bDt, GDt, mUv, kpUv, bUv, GUv, ok_eq FE T R I, aE, iE, bE⟩
  have GLd := ok_ldot (P := P) (w := w) (base := base) FDo T TA
  exact ok_law FL T TM R I ⟨⟨mD, kpD, bD, ok_draws FD T FC bC mC⟩,
    ⟨mMx, kpMx, bMx, ok_lmx FMx T TM FC bC mC FD bD mD GSm kpSm bSm mSm⟩,
    ⟨mToM, kpToM, bToM, ok_tom FToM TM MM GRs kpRts bRts mRts⟩,
    ⟨mPa, kpPa, bPa, ok_pairs FPa T TM (ok_pair FP T R I FS bS mS FG bG mG) kpP bP mP⟩,
    ⟨mP, kpP, bP, ok_pair FP T R I FS bS mS FG bG mG⟩,
    ⟨mCo, kpCo, bCo, ok_lco FCo T TM TA⟩,
    ⟨mCo, kpCo, bCo, ok_lcoM FCo T TM TA⟩,
    ⟨mRts, kpRts, bRts, GRs⟩,
    ⟨mSm, kpSm, bSm, GSm⟩,
    ⟨mFi, kpFi, bFi, ok_fitsT FFi T GLd kpDo bDo mDo⟩,
    ⟨mFi, kpFi, bFi, ok_fitsL FFi T GLd kpDo bDo mDo⟩,
    ⟨mSI, kpSI, bSI, ok_shI FSI T R TM I ga TSI⟩,
    ⟨mDt, kpDt, bDt, GDt⟩,
    ⟨mCb, kpCb, bCb, ok_comb FCb T R TM TO⟩,
    ⟨mIv, kpIv, bIv, GIv⟩,
    ⟨MDu, bDu, ok_duals FDu T TM TDu gy MDl bDl (ok_dual FDl T TM mZr kpZr bZr (ok_zero FZr R M))⟩,
    ⟨MDe, bDe, ok_dep FDe T TM TDu⟩,
    ⟨ok_addR FPl R M, aPl, iPl, bPl, sf⟩⟩
theorem walk {l : PySem.W.OpenLaw} {q : Program} {loose : List Str} {XP : (Str → Option Value) → Heap → Prop} {YP : World → Heap → Prop} {d : DefRec} {K : Params → PySem.W.Frag} (hn : l.most = some 63) (hdf : d.params.defaults = []) (hi : importsNone q = true)
    (hY : ∀ (w : World) (h : Heap), YP w h → (K w.params).In h)
    (F : ∀ (w : World) (mg : Str → Option Value) (fa : Addr) (h : Heap), (K w.params).In h → h.Ns mainGlobals mg → mg d.name = some (.ref fa) →
      ∃ fd : FuncData, (∀ (s : Shared) (u : Value), BindsTo s fd ⟨[u], []⟩ [("script", u)]) ∧ ∀ base : Heap, (K w.params).In base → base.Ns mainGlobals mg → base.NoSeer → FnOk l.prog w (K w.params) mg base CX0 60 fa fd ["script"] (spLaw (K w.params))) :
    PySem.W.WalkO q loose XP YP l.row.toRowW d [] (fun f vs => PySem.call f vs) :=
  walk_far (n := 63) (k := 60) (x := "script") (sp := fun w => spLaw (K w.params)) hn (by decide) hdf ⟨rfl, by decide, by decide⟩ hi hY F fun _ _ a ns _ hb hS => ⟨a, ns, rfl, hS, fun _ => rfl⟩
end Ind

set_option Elab.async false
set_option linter.all false
open PySem PySem.W PyProof.Rows in
set_option maxRecDepth 100000 in
set_option maxHeartbeats 0 in
theorem PySem.Challenge.cw_indicial_k08_duals_and_dependences_holds : PySem.Challenge.rw_indicial_k08_duals_and_dependences.Holds := by
  w_on; o_law; k_head; (case hw => w_witness2)
  k_fill
  refine Ind.walk (l := PySem.Challenge.rw_indicial_k08_duals_and_dependences) rfl rfl (by decide +kernel) (fun w h Y => PySem.W.kIn_of Y) ?F
  case F =>
    intro w mg fa h KX G hmg
    refine' Ind.all_mk rfl KX G hmg ?aCon ?lCon ?cCon ?kpCon ?aZr ?lZr ?cZr ?kpZr ?aCf ?lCf ?cCf ?kpCf ?aDt ?lDt ?cDt ?kpDt ?aCb ?lCb ?cCb ?kpCb ?aIv ?lIv ?cIv ?kpIv ?aUv ?lUv ?cUv ?kpUv ?aSI ?lSI ?cSI ?kpSI ?aEl ?lEl ?cEl ?kpEl ?aFw ?lFw ?cFw ?kpFw ?aCa ?lCa ?cCa ?kpCa ?aWc ?lWc ?cWc ?kpWc ?aC ?lC ?cC ?kpC ?aD ?lD ?cD ?kpD ?aG ?lG ?cG ?kpG ?aRt ?lRt ?cRt ?kpRt ?aAd ?lAd ?cAd ?kpAd ?aMu ?lMu ?cMu ?kpMu ?aS ?lS ?cS ?kpS ?aP ?lP ?cP ?kpP ?aPa ?lPa ?cPa ?kpPa ?aRts ?lRts ?cRts ?kpRts ?aSm ?lSm ?cSm ?kpSm ?aMx ?lMx ?cMx ?kpMx ?aDo ?lDo ?cDo ?kpDo ?aCo ?lCo ?cCo ?kpCo ?aFi ?lFi ?cFi ?kpFi ?aToM ?lToM ?cToM ?kpToM ?aE ?iE ?lE ?cE ?kpE ?aPl ?iPl ?lPl ?cPl ?kpPl ?aTi ?iTi ?lTi ?cTi ?kpTi ?aIz ?iIz ?lIz ?cIz ?kpIz ?aMI ?iMI ?lMI ?cMI ?kpMI ?aRd ?iRd ?lRd ?cRd ?kpRd ?aBu ?iBu ?lBu ?cBu ?kpBu ?aDl ?iDl ?lDl ?cDl ?kpDl ?aDu ?iDu ?lDu ?cDu ?kpDu ?aDe ?iDe ?lDe ?cDe ?kpDe ?aBe ?iBe ?lBe ?cBe ?kpBe ?aL ?lL ?cL ?kpL ?aI ?iI ?lI ?lT ?cI ?kpI ?gC ?gM ?pg1 ?hd1 ?po1 ?sa1 ?mk1 ?kpC1 ?ca1 ?cm1 ?ck1 ?pg2 ?hd2 ?po2 ?sa2 ?mk2 ?kpC2 ?ca2 ?cm2 ?ck2 ?nN ?nD ?nR ?nW ?gg ?gl ?xZ ?gZ ?kpZ ?bZ ?tZ ?zlen ?zrange ?zint ?zabs ?zisinstance ?zbool ?ztuple ?zlist ?ziter ?zzip ?zsum ?zenumerate ?zall ?zany ?cn ?ct ?sf
    (case gC => k_is)
    (case gZ => k_is)
    (case gM => k_is)
    (case aCon => k_is)
    (case lCon => k_is)
    (case cCon => k_is)
    (case kpCon => k_is)
    (case aZr => k_is)
    (case lZr => k_is)
    (case cZr => k_is)
    (case kpZr => k_is)
    (case aCf => k_is)
    (case lCf => k_is)
    (case cCf => k_is)
    (case kpCf => k_is)
    (case aDt => k_is)
    (case lDt => k_is)
    (case cDt => k_is)
    (case kpDt => k_is)
    (case aCb => k_is)
    (case lCb => k_is)
    (case cCb => k_is)
    (case kpCb => k_is)
    (case aIv => k_is)
    (case lIv => k_is)
    (case cIv => k_is)
    (case kpIv => k_is)
    (case aUv => k_is)
    (case lUv => k_is)
    (case cUv => k_is)
    (case kpUv => k_is)
    (case aSI => k_is)
    (case lSI => k_is)
    (case cSI => k_is)
    (case kpSI => k_is)
    (case aEl => k_is)
    (case lEl => k_is)
    (case cEl => k_is)
    (case kpEl => k_is)
    (case aFw => k_is)
    (case lFw => k_is)
    (case cFw => k_is)
    (case kpFw => k_is)
    (case aCa => k_is)
    (case lCa => k_is)
    (case cCa => k_is)
    (case kpCa => k_is)
    (case aWc => k_is)
    (case lWc => k_is)
    (case cWc => k_is)
    (case kpWc => k_is)
    (case aC => k_is)
    (case lC => k_is)
    (case cC => k_is)
    (case kpC => k_is)
    (case aD => k_is)
    (case lD => k_is)
    (case cD => k_is)
    (case kpD => k_is)
    (case aG => k_is)
    (case lG => k_is)
    (case cG => k_is)
    (case kpG => k_is)
    (case aRt => k_is)
    (case lRt => k_is)
    (case cRt => k_is)
    (case kpRt => k_is)
    (case aAd => k_is)
    (case lAd => k_is)
    (case cAd => k_is)
    (case kpAd => k_is)
    (case aMu => k_is)
    (case lMu => k_is)
    (case cMu => k_is)
    (case kpMu => k_is)
    (case aS => k_is)
    (case lS => k_is)
    (case cS => k_is)
    (case kpS => k_is)
    (case aP => k_is)
    (case lP => k_is)
    (case cP => k_is)
    (case kpP => k_is)
    (case aPa => k_is)
    (case lPa => k_is)
    (case cPa => k_is)
    (case kpPa => k_is)
    (case aRts => k_is)
    (case lRts => k_is)
    (case cRts => k_is)
    (case kpRts => k_is)
    (case aSm => k_is)
    (case lSm => k_is)
    (case cSm => k_is)
    (case kpSm => k_is)
    (case aMx => k_is)
    (case lMx => k_is)
    (case cMx => k_is)
    (case kpMx => k_is)
    (case aDo => k_is)
    (case lDo => k_is)
    (case cDo => k_is)
    (case kpDo => k_is)
    (case aCo => k_is)
    (case lCo => k_is)
    (case cCo => k_is)
    (case kpCo => k_is)
    (case aFi => k_is)
    (case lFi => k_is)
    (case cFi => k_is)
    (case kpFi => k_is)
    (case aToM => k_is)
    (case lToM => k_is)
    (case cToM => k_is)
    (case kpToM => k_is)
    (case aE => k_is)
    (case iE => k_is)
    (case lE => k_is)
    (case cE => k_is)
    (case kpE => k_is)
    (case aPl => k_is)
    (case iPl => k_is)
    (case lPl => k_is)
    (case cPl => k_is)
    (case kpPl => k_is)
    (case aTi => k_is)
    (case iTi => k_is)
    (case lTi => k_is)
    (case cTi => k_is)
    (case kpTi => k_is)
    (case aIz => k_is)
    (case iIz => k_is)
    (case lIz => k_is)
    (case cIz => k_is)
    (case kpIz => k_is)
    (case aMI => k_is)
    (case iMI => k_is)
    (case lMI => k_is)
    (case cMI => k_is)
    (case kpMI => k_is)
    (case aRd => k_is)
    (case iRd => k_is)
    (case lRd => k_is)
    (case cRd => k_is)
    (case kpRd => k_is)
    (case aBu => k_is)
    (case iBu => k_is)
    (case lBu => k_is)
    (case cBu => k_is)
    (case kpBu => k_is)
    (case aDl => k_is)
    (case iDl => k_is)
    (case lDl => k_is)
    (case cDl => k_is)
    (case kpDl => k_is)
    (case aDu => k_is)
    (case iDu => k_is)
    (case lDu => k_is)
    (case cDu => k_is)
    (case kpDu => k_is)
    (case aDe => k_is)
    (case iDe => k_is)
    (case lDe => k_is)
    (case cDe => k_is)
    (case kpDe => k_is)
    (case aBe => k_is)
    (case iBe => k_is)
    (case lBe => k_is)
    (case cBe => k_is)
    (case kpBe => k_is)
    (case aL => k_is)
    (case lL => k_is)
    (case cL => k_is)
    (case kpL => k_is)
    (case aI => k_is)
    (case iI => k_is)
    (case lI => k_is)
    (case lT => k_is)
    (case cI => k_is)
    (case kpI => k_is)
    (case pg1 => k_is)
    (case hd1 => k_is)
    (case po1 => k_is)
    (case sa1 => k_is)
    (case mk1 => k_is)
    (case kpC1 => k_is)
    (case ca1 => k_is)
    (case cm1 => k_is)
    (case ck1 => kit_is)
    (case pg2 => k_is)
    (case hd2 => k_is)
    (case po2 => k_is)
    (case sa2 => k_is)
    (case mk2 => k_is)
    (case kpC2 => k_is)
    (case ca2 => k_is)
    (case cm2 => k_is)
    (case ck2 => kit_is)
    (case nN => k_is)
    (case nD => k_is)
    (case nR => k_is)
    (case nW => k_is)
    (case gg => k_is)
    (case gl => k_is)
    (case xZ => k_exc)
    (case kpZ => k_is)
    (case bZ => k_is)
    (case tZ => k_is)
    (case zlen => k_is)
    (case zrange => k_is)
    (case zint => k_is)
    (case zabs => k_is)
    (case zisinstance => k_is)
    (case zbool => k_is)
    (case ztuple => k_is)
    (case zlist => k_is)
    (case ziter => k_is)
    (case zzip => k_is)
    (case zsum => k_is)
    (case zenumerate => k_is)
    (case zall => k_is)
    (case zany => k_is)
    (case cn => k_is)
    (case ct => k_is)
    (case sf => k_is)
#print axioms PySem.Challenge.cw_indicial_k08_duals_and_dependences_holds
