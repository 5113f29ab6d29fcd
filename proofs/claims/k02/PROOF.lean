import PyProof.Rows.All
import Wide.All
import OpenK.AllK
import Wide.FinOn
import HandS.ForMost
import HandS.ForExc
import HandS.EndBits
import HandS.Gcd
import HandS.IsInst
import HandS.ExcIs
import HandS.OwnEq
import HandS.Defaults
import HandS.Wide
import HandS.Property
import KE.IntBitsLaws
import HandS.StrMore
import HandS.Codes
import HandS.WideBits
import HandS.Style
import HandS.Walk
import HandS.FStr
import KE.KCallOwn
import HandS.ExcInit
import HandS.ExcField
import HandS.Nested
import KE.KExcSuper
import KE.KSuper
import HandS.WordsExc
import KE.RegKIsAll
import PySem.Challenge.RW_indicial_k02_written_form
set_option Elab.async false
set_option linter.all false
set_option maxRecDepth 100000
set_option maxHeartbeats 4000000
namespace Ind
open PySem PySem.Spec PyProof.Rows L2
open Builtin.Int (intBits)

/-! ### operators over ints of any size -/
/-- what a body must show for // of any size -/
structure Far (X : Cx) : Prop where
  seer : X.base.NoSeer
  tree : X.prog.given.tree = none
  stk : X.stack = X.env :: X.outer
  gen : X.env.scope.isGenerator = false
  co : X.env.scope.isCoroutine = false
  room : Room 40 X.A
theorem op_fdivB {X : Cx} (f : Far X) : OpR X (binaryOp .FloorDiv) (rI (fun _ j => j ≠ 0) fun i j => .int (i.fdiv j)) := by
  intro pins s σ H x y v u Q I rx ry h
  obtain ⟨i, j, rfl, rfl, hc, q⟩ := h
  obtain ⟨t, rfl⟩ := rx
  obtain ⟨t', rfl⟩ := ry
  refine floordiv_int hc ⟨.int (i.fdiv j), H, I.tok _, ⟨_, rfl⟩, q⟩ (.inr (PylongRoom.of I.nolimit ?_ (SeerAt.of (env := X.env) (l := X.outer) (f.seer.keeps I.bk) f.tree ?_ f.gen f.co I.ok.blt I.ok.glob)))
  · have h1 := f.room.dp
    have h2 : Builtin.pylongFrames = 100 := rfl
    omega
  · rw [I.ok.frames, f.stk]
theorem op_mulB {X : Cx} : OpR X (binaryOp .Mult) (rI (fun i j => intBits i + intBits j ≤ 134217728) fun i j => .int (i * j)) :=
  opI fun i j _ _ _ _ _ hc q => mul_int q (IntMulOk.of_le (Nat.le_refl _) (Nat.le_refl _) hc)

/-- tracked objects stay -/
theorem same_rfl {H : Hp} : Same H H := fun _ _ e => e
end Ind

set_option Elab.async false
set_option linter.all false
set_option maxRecDepth 100000
set_option maxHeartbeats 4000000
namespace Ind
open PySem PySem.Spec PyProof.Rows L2
open Builtin.Int (intBits)
def top (i : Nat) : Stmt := PySem.Challenge.pw_indicial_k02_written_form.main.body.getD i (.Pass ⟨0, 0, 0, 0⟩)
abbrev sInit : Stmt := inClass (top 12) 0
/-! ### the divisor with the denominator's sign; lowest terms -/
def cg (n d : Int) : Int := if d < 0 then -((Nat.gcd n.natAbs d.natAbs : Nat) : Int) else ((Nat.gcd n.natAbs d.natAbs : Nat) : Int)
def nN (n d : Int) : Int := n.fdiv (cg n d)
def nD (n d : Int) : Int := d.fdiv (cg n d)
theorem cg_ne {n d : Int} (h : d ≠ 0) : cg n d ≠ 0 := by
  have h1 : 0 < Nat.gcd n.natAbs d.natAbs := Nat.gcd_pos_of_pos_right _ (by omega)
  unfold cg
  split <;> omega
/-! ### a number's fields -/
theorem nd_ : ¬ (("n" : Str) = "d") := by decide +kernel
theorem dn_ : ¬ (("d" : Str) = "n") := by decide +kernel
def rf (a b : Int) : List (Str × V) := putF "d" (.int b) (putF "n" (.int a) [])
theorem rf_eq (a b : Int) : rf a b = ([("n", V.int a), ("d", V.int b)] : List (Str × V)) := by
  show (if ("n" : Str) = "d" then [(("n" : Str), V.int b)] else (("n" : Str), V.int a) :: putF "d" (V.int b) []) = ([("n", V.int a), ("d", V.int b)] : List (Str × V))
  rw [if_neg nd_]
  all_goals rfl
theorem rf_n (a b : Int) : (rf a b).lookup ("n" : Str) = some (.int a) := by
  unfold rf
  rw [lookup_putF, if_neg nd_, lookup_putF, if_pos rfl]
theorem rf_d (a b : Int) : (rf a b).lookup ("d" : Str) = some (.int b) := by
  unfold rf
  rw [lookup_putF, if_pos rfl]
theorem rf_no (a b : Int) {m : Str} (h1 : ¬ m = "d") (h2 : ¬ m = "n") : (rf a b).lookup m = none := by
  unfold rf
  rw [lookup_putF, if_neg h1, lookup_putF, if_neg h2]
  all_goals rfl
def RatAt (C : Addr) (H : Hp) (p : Addr) (a b : Int) : Prop := ∃ dx, H p = some (.ins C dx (rf a b))
theorem RatAt.same {C : Addr} {H H' : Hp} {p : Addr} {a b : Int} (r : RatAt C H p a b) (s : Same H H') : RatAt C H' p a b := let ⟨dx, e⟩ := r; ⟨dx, s _ _ e⟩
/-- what the top says of Ratio and of ZeroDivisor -/
structure TxR (K : PySem.W.Frag) (mg : Str → Option Value) (C Z : Addr) : Prop where
  cl : Cls K C
  nN : NoAttr K C "n"
  nD : NoAttr K C "d"
  mgC : mg "Ratio" = some (.ref C)
  gcd : mg "gcd" = some (.builtin "math.gcd")
  xZ : PySem.W.excIn K Z [.type "ValueError", .type "Exception", .type "BaseException", .type "object"] "ValueError.__new__" = true
  gZ : mg "ZeroDivisor" = some (.ref Z)
  kZ : PySem.W.keepIn K (.ref Z) = true
  bZ : PySem.W.subIn K (.ref Z) (.type "BaseException") = some true
  tZ : PySem.W.typeIn K (.ref Z) = some (.type "type")
def spInit (C Z : Addr) : Sp := fun vs H Q E => ∃ (p dx : Addr) (n d : Int), vs = [.ref p, .int n, .int d] ∧ H p = some (.ins C dx []) ∧ (d = 0 → E (.ref Z) none H) ∧
  (d ≠ 0 → ∀ H' : Hp, RatAt C H' p (nN n d) (nD n d) → (∀ b o, H b = some o → b ≠ p → H' b = some o) → Q .non H')
section
variable {P : Program} {w : World} {K : PySem.W.Frag} {mg : Str → Option Value} {base : Heap} {C Z : Addr}
theorem scI : FnScope ["self", "n", "d", "common"] ["self", "n", "d"] (defScope sInit) := ⟨rfl, rfl, rfl, by decide +kernel, rfl, by decide +kernel, by decide +kernel⟩
theorem ok_init {f : Addr} {fd : FuncData} (hN : base.NoSeer) (hT : P.given.tree = none) (F : FunD K "__init__" "Ratio.__init__" (defArgs sInit) (defBody sInit) (defScope sInit) [.int 1] [] f fd) (T : TxR K mg C Z) :
    FnOk P w K mg base (L2.CX P w) 41 f fd ["self", "n", "d"] (spInit C Z) := by
  refine F.ok (CX := L2.CX P w) (k := 40) scI (fun vs H Q E h => ?_) (fun cdv A outer s H vs Q E hr h => ?_)
  · obtain ⟨p, dx, n, d, rfl, _⟩ := h
    rfl
  · obtain ⟨p, dx, n, d, rfl, hp, kz, k⟩ := h
    have far : Far (cxOf (L2.CX P w) P w K mg base ["self", "n", "d", "common"] "Ratio.__init__" (defScope sInit) f cdv A outer s H E) := ⟨hN, hT, rfl, rfl, rfl, hr⟩
    refine ⟨_, pss_cons (ps_if (pt_cmpR op_eq (pv 2) pe_int (nomark _)) (pss_one (ps_raise rfl (takes_of rfl rfl rfl rfl) (pmk_own PySem.F.excBase_ValueError T.xZ T.gZ T.kZ (raises_own T.bZ T.tZ) rfl))) pss_nil)
      (pss_cons (ps_set (i := 3) scI.nd rfl (Or.inl rfl) (pe_callBfun cr_gcd (by rfl) T.gcd (pa_cons (pv 1) (pa_cons (pv 2) pa_nil))))
      (pss_cons (ps_if (pt_cmpR op_lt (pv 2) pe_int (nomark _)) (pss_one (ps_set (i := 3) scI.nd rfl (Or.inl rfl) (pe_un un_neg (pv 3)))) pss_nil)
      (pss_cons (ps_fld (pv 0) (pe_op (op_fdivB far) (pv 1) (pv 3)) rfl)
      (pss_one (ps_fld (pv 0) (pe_op (op_fdivB far) (pv 2) (pv 3)) rfl))))), ?_⟩
    refine ⟨_, rfl, rfl, _, rfl, ite2 (fun c => ?_) (fun c => ?_)⟩
    · exact kz (by simpa using c)
    · have hd : d ≠ 0 := by simpa using c
      refine ⟨_, rfl, _, rfl, _, _, rfl, ?_⟩
      have put : putF "d" (V.int (d.fdiv (cg n d))) (putF "n" (V.int (n.fdiv (cg n d))) []) = rf (nN n d) (nD n d) := rfl
      have fin : ∀ b o, H b = some o → b ≠ p → (upd (upd H p (.ins C dx (putF "n" (.int (nN n d)) []))) p (.ins C dx (rf (nN n d) (nD n d)))) b = some o := fun b o e hb => by
        rw [upd_ne hb, upd_ne hb]
        exact e
      refine ⟨_, rfl, _, _, rfl, rfl, _, rfl, ite2 (fun c2 => ?_) (fun c2 => ?_)⟩
      · have hneg : d < 0 := by simpa using c2
        have ec : -((Nat.gcd n.natAbs d.natAbs : Nat) : Int) = cg n d := by unfold cg; rw [if_pos hneg]
        refine ⟨_, rfl, _, rfl, _, rfl, _, rfl, _, _, rfl, rfl, by rw [ec]; exact cg_ne hd, _, rfl, p, C, dx, [], rfl, hp, T.cl, T.nN, by decide, ?_⟩
        refine ⟨_, rfl, _, rfl, _, _, rfl, rfl, by rw [ec]; exact cg_ne hd, _, rfl, p, C, dx, _, rfl, upd_same, T.cl, T.nD, (by show 1 < 1000; decide), ?_⟩
        rw [ec]
        exact k hd _ ⟨dx, upd_same⟩ fin
      · have hneg : ¬ d < 0 := by simpa using c2
        have ec : ((Nat.gcd n.natAbs d.natAbs : Nat) : Int) = cg n d := by unfold cg; rw [if_neg hneg]
        refine ⟨_, rfl, _, rfl, _, _, rfl, rfl, by rw [ec]; exact cg_ne hd, _, rfl, p, C, dx, [], rfl, hp, T.cl, T.nN, by decide, ?_⟩
        refine ⟨_, rfl, _, rfl, _, _, rfl, rfl, by rw [ec]; exact cg_ne hd, _, rfl, p, C, dx, _, rfl, upd_same, T.cl, T.nD, (by show 1 < 1000; decide), ?_⟩
        rw [ec]
        exact k hd _ ⟨dx, upd_same⟩ fin
end
end Ind

set_option Elab.async false
set_option linter.all false
set_option maxRecDepth 100000
set_option maxHeartbeats 4000000
namespace Ind
open PySem PySem.Spec PyProof.Rows L2
open Builtin.Int (intBits)
abbrev sCell : Stmt := top 16
abbrev sDraws : Stmt := top 17
abbrev sGcd : Stmt := top 18
abbrev sIsI : Stmt := top 20
abbrev sPair : Stmt := top 21
/-! ### the law's helpers: what each promises -/
def cell (ns : List Int) (k : Nat) : Int := ns.getD k 0
theorem atI_of {α : Type} {xs : List α} {k : Nat} {x : α} (h : xs[k]? = some x) : atI xs ((k : Nat) : Int) = some x := by
  have hk : k < xs.length := (List.getElem?_eq_some_iff.mp h).1
  have h1 : ixN xs.length ((k : Nat) : Int) = some k := by
    unfold ixN
    rw [if_pos (by omega), if_pos (by omega)]
    all_goals rfl
  unfold atI
  rw [h1]
  exact h
def spCellI (K : PySem.W.Frag) : Sp := fun vs H Q _ => ∃ (a : Addr) (ns : List Int) (k : Nat), vs = [.ref a, .int k] ∧ SqL K H a (ns.map V.int) ∧ Q (.int (cell ns k)) H
/-- draws in their range -/
def InR (ds : List Int) (n : Nat) (b : Int) : Prop := ds.length = n ∧ ∀ d ∈ ds, 0 ≤ d ∧ d < b
def spDraws (K : PySem.W.Frag) : Sp := fun vs H Q _ => ∃ (a : Addr) (ns : List Int) (k n : Nat) (b : Int), vs = [.ref a, .int k, .int n, .int b] ∧ SqL K H a (ns.map V.int) ∧ k ≤ 1000 ∧ n ≤ 1000 ∧ 0 < b ∧ b < 1000000 ∧
  ∀ (ds : List Int) (H' : Hp) (p : Addr), InR ds n b → Same H H' → H p = none → H' p = some (.lst (ds.map V.int)) → Q (.ref p) H'
def spGcdI : Sp := fun vs H Q _ => ∃ a b : Int, vs = [.int a, .int b] ∧ Q (.int ((Nat.gcd a.natAbs b.natAbs : Nat) : Int)) H
def spIsI : Sp := fun vs H Q _ => ∃ a : Int, vs = [.int a] ∧ Q (.bl true) H
def spPair (C : Addr) : Sp := fun vs H Q _ => ∃ (p : Addr) (a b : Int), vs = [.ref p] ∧ RatAt C H p a b ∧ 0 < b ∧ Nat.gcd a.natAbs b.natAbs = 1 ∧
  ∀ (H' : Hp) (t : Addr), Same H H' → H t = none → H' t = some (.tup [.int a, .int b]) → Q (.ref t) H'
/-- what the top says of built-ins that the helpers name -/
structure TxL (K : PySem.W.Frag) (mg : Str → Option Value) : Prop where
  len : mg "len" = none
  range : mg "range" = none
  int : mg "int" = none
  abs : mg "abs" = none
  isinstance : mg "isinstance" = none
  bool : mg "bool" = none
theorem same_upd {H : Hp} {p : Addr} {o : HO} (h : H p = none) : Same H (upd H p o) := fun b u e => by
  rw [upd_ne (ne_of_none e h)]
  exact e
section
variable {P : Program} {w : World} {K : PySem.W.Frag} {mg : Str → Option Value} {base : Heap} {C Z : Addr}
theorem scCell : FnScope ["script", "k"] ["script", "k"] (defScope sCell) := ⟨rfl, rfl, rfl, by decide +kernel, rfl, by decide +kernel, by decide +kernel⟩
theorem ok_cell {f : Addr} {fd : FuncData} (F : Fun K "_law_cell" "_law_cell" sCell f fd) (T : TxL K mg) : FnOk P w K mg base CX0 1 f fd ["script", "k"] (spCellI K) := by
  refine F.ok scCell (fun vs H Q E h => ?_) (fun cdv A outer s H vs Q E hr h => ?_)
  · obtain ⟨a, ns, k, rfl, _⟩ := h
    rfl
  · obtain ⟨a, ns, k, rfl, hS, q⟩ := h
    refine ⟨_, pss_cons (ps_if (pt_cmpR op_lt (pv 1) (pe_callB call_len_seq (by rfl) T.len PySem.boot_len (pa_cons (pv 0) pa_nil)) (nomark _)) (pss_one (ps_ret (pe_ix ix_list (pv 0) (pv 1) fun _ _ => rfl))) pss_nil)
      (pss_one (ps_ret pe_int)), ?_⟩
    refine ⟨_, rfl, _, rfl, a, _, rfl, .inl hS, _, _, rfl, rfl, _, rfl, ite2 (fun c => ?_) (fun c => ?_)⟩
    · have hk : k < ns.length := by simpa using c
      refine ⟨_, rfl, _, rfl, a, _, _, _, rfl, rfl, hS, atI_of (x := V.int (cell ns k)) ?_, q⟩
      rw [List.getElem?_map, List.getElem?_eq_getElem hk]
      simp [cell, hk]
    · have hk : ¬ k < ns.length := by simpa using c
      have e : cell ns k = 0 := by
        unfold cell
        rw [List.getD_eq_getElem?_getD, List.getElem?_eq_none (by omega)]
        rfl
      show Q (.int 0) H
      rw [← e]
      exact q
theorem scGcd : FnScope ["a", "b", "one", "two", "rest"] ["a", "b"] (defScope sGcd) := ⟨rfl, rfl, rfl, by decide +kernel, rfl, by decide +kernel, by decide +kernel⟩
theorem abs_nat (i : Int) : (if i < 0 then -i else i) = ((i.natAbs : Nat) : Int) := by split <;> omega
theorem ok_gcd {f : Addr} {fd : FuncData} (F : Fun K "_law_gcd" "_law_gcd" sGcd f fd) (T : TxL K mg) : FnOk P w K mg base CX0 1 f fd ["a", "b"] spGcdI := by
  refine F.ok scGcd (fun vs H Q E h => ?_) (fun cdv A outer s H vs Q E hr h => ?_)
  · obtain ⟨a, b, rfl, _⟩ := h
    rfl
  · obtain ⟨a, b, rfl, q⟩ := h
    refine ⟨_, pss_cons (ps_set (i := 2) scGcd.nd rfl (Or.inl rfl) (pe_callB call_abs (by rfl) T.abs (by decide +kernel) (pa_cons (pv 0) pa_nil)))
      (pss_cons (ps_set (i := 3) scGcd.nd rfl (Or.inl rfl) (pe_callB call_abs (by rfl) T.abs (by decide +kernel) (pa_cons (pv 1) pa_nil)))
      (pss_cons (ps_while PassesOwn.never (pt_cmpR op_ne (pv 3) pe_int (nomark _))
        (pss_cons (ps_set (i := 4) scGcd.nd rfl (Or.inl rfl) (pe_op op_modN (pe_callTy call_int1 (by rfl) T.int (by decide +kernel) (pa_cons (pv 2) pa_nil)) (pv 3)))
        (pss_cons (ps_set (i := 2) scGcd.nd rfl (Or.inl rfl) (pv 3)) (pss_one (ps_set (i := 3) scGcd.nd rfl (Or.inl rfl) (pv 4))))))
      (pss_one (ps_ret (pv 2))))), ?_⟩
    refine ⟨_, rfl, _, rfl, _, rfl, _, rfl, ?_⟩
    rw [abs_nat, abs_nat]
    refine while_by (fun σ H' => H' = H ∧ ∃ (x y : Nat) (v : Option V), σ = [some (.int a), some (.int b), some (.int (x : Int)), some (.int (y : Int)), v] ∧ Nat.gcd x y = Nat.gcd a.natAbs b.natAbs)
      (fun σ _ => match σ[3]? with | some (some (V.int y)) => y.natAbs | _ => 0) ⟨rfl, _, _, none, rfl, rfl⟩ ?_ ?_
    · rintro σ H' ⟨rfl, x, y, v, rfl, hg⟩
      refine ⟨_, rfl, rfl, _, rfl, ite2 (fun c => ?_) (fun c => ?_)⟩
      · have hy : y ≠ 0 := by
          intro z
          subst z
          simp at c
        have em : ((x : Int)).fmod (y : Int) = ((x % y : Nat) : Int) := by
          rw [Int.fmod_eq_emod_of_nonneg _ (by omega)]
          rfl
        refine ⟨_, rfl, .inl ⟨_, rfl, _, rfl, _, _, rfl, rfl, (by show ((y : Nat) : Int) ≠ 0; omega), ?_⟩⟩
        refine ⟨_, rfl, _, rfl, ⟨rfl, y, x % y, some (.int (((x % y : Nat) : Int))), ?_, ?_⟩, ?_⟩
        · rw [← em]
          rfl
        · rw [← hg, Nat.gcd_comm x y, Nat.gcd_rec y x, Nat.gcd_comm]
        · show (((x : Int)).fmod (y : Int)).natAbs < ((y : Nat) : Int).natAbs
          rw [em]
          have := Nat.mod_lt x (Nat.pos_of_ne_zero hy)
          omega
      · have hy : y = 0 := by
          have z : ¬ ¬ (V.int (y : Int) = V.int 0) := by simpa using c
          have z2 : V.int (y : Int) = V.int 0 := Classical.not_not.mp z
          injection z2 with z3
          omega
        subst hy
        rw [Nat.gcd_zero_right] at hg
        refine ⟨_, rfl, ?_⟩
        rw [hg]
        exact q
    · rintro σ H' R R' hR ⟨v, e1, e2, b1, e3, h3⟩
      exact ⟨v, e1, e2, b1, e3, hR _ _ h3⟩
end
end Ind

set_option Elab.async false
set_option linter.all false
set_option maxRecDepth 100000
set_option maxHeartbeats 4000000
namespace Ind
open PySem PySem.Spec PyProof.Rows L2
open Builtin.Int (intBits)
/-- what isinstance asks of Ratio as the value's class -/
structure TxI (K : PySem.W.Frag) (C : Addr) : Prop where
  ha : PySem.W.findIn K (.ref C) "__class__" = some (some (.builtin "object.__class__"))
  hn : PySem.W.specialIn K (.builtin "object.__class__") "__get__" = some (some (.builtin "getset_descriptor.__get__"))
  ht : PySem.W.takesIn K (.builtin "object.__class__") = some true
  hm : PySem.W.mroIn K C (.type "object") = some true
  kC : PySem.W.kitOne K (.ref C) (.ref C) = some true
section
variable {P : Program} {w : World} {K : PySem.W.Frag} {mg : Str → Option Value} {base : Heap} {C Z : Addr}
theorem scIsI : FnScope ["value"] ["value"] (defScope sIsI) := ⟨rfl, rfl, rfl, by decide +kernel, rfl, by decide +kernel, by decide +kernel⟩
theorem ok_isI {f : Addr} {fd : FuncData} (F : Fun K "_law_is_integer" "_law_is_integer" sIsI f fd) (T : TxL K mg) : FnOk P w K mg base CX0 1 f fd ["value"] spIsI := by
  refine F.ok scIsI (fun vs H Q E h => ?_) (fun cdv A outer s H vs Q E hr h => ?_)
  · obtain ⟨a, rfl, _⟩ := h
    rfl
  · obtain ⟨a, rfl, q⟩ := h
    refine ⟨_, pss_one (ps_ret (pe_and (pe_callB call_isi (by rfl) T.isinstance (by decide +kernel) (pa_cons (pv 0) (pa_cons (pe_bltn (v := .ty "int") (by rfl) T.int (by decide +kernel) rfl) pa_nil)))
      (pe_one (pe_not (pe_callB call_isi (by rfl) T.isinstance (by decide +kernel) (pa_cons (pv 0) (pa_cons (pe_bltn (v := .ty "bool") (by rfl) T.bool (by decide +kernel) rfl) pa_nil))))))), ?_⟩
    refine ⟨_, rfl, _, _, _, _, true, rfl, ClsV.ty "int", .base (.int a), kit_ty (by decide +kernel), true, rfl, ?_⟩
    refine iteT ⟨_, rfl, _, _, _, _, false, rfl, ClsV.ty "bool", .base (.int a), kit_ty (by decide +kernel), false, rfl, q⟩
theorem scPair : FnScope ["value"] ["value"] (defScope sPair) := ⟨rfl, rfl, rfl, by decide +kernel, rfl, by decide +kernel, by decide +kernel⟩
theorem ok_pair {f fI fG : Addr} {fd fdI fdG : FuncData} (F : Fun K "_law_pair" "_law_pair" sPair f fd) (T : TxL K mg) (R : TxR K mg C Z) (I : TxI K C)
    (FI : Fun K "_law_is_integer" "_law_is_integer" sIsI fI fdI) (bI : Binds K fdI ["value"] []) (gI : mg "_law_is_integer" = some (.ref fI))
    (FG : Fun K "_law_gcd" "_law_gcd" sGcd fG fdG) (bG : Binds K fdG ["a", "b"] []) (gG : mg "_law_gcd" = some (.ref fG)) : FnOk P w K mg base CX0 2 f fd ["value"] (spPair C) := by
  have GI : FnOk P w K mg base CX0 1 fI fdI ["value"] spIsI := ok_isI FI T
  have GG : FnOk P w K mg base CX0 1 fG fdG ["a", "b"] spGcdI := ok_gcd FG T
  refine F.ok scPair (fun vs H Q E h => ?_) (fun cdv A outer s H vs Q E hr h => ?_)
  · obtain ⟨p, a, b, rfl, _⟩ := h
    rfl
  · obtain ⟨p, a, b, rfl, ⟨dx, hp⟩, hb, hg, k⟩ := h
    refine ⟨_, pss_cons (ps_if (PW.pt (pw_or (pt_not (pt_val (pe_callB call_isi (by rfl) T.isinstance (by decide +kernel) (pa_cons (pv 0) (pa_cons (pe_glob (v := .ref C) rfl R.mgC rfl) pa_nil)))))
        (pw_or (pt_not (pt_val (pe_call GI hr (by rfl) gI FI.kp bI .nil pass0 (pa_cons (pe_fld (pv 0) rfl) pa_nil))))
        (pw_or1 (pt_not (pt_val (pe_call GI hr (by rfl) gI FI.kp bI .nil pass0 (pa_cons (pe_fld (pv 0) rfl) pa_nil)))))))) (pss_one (ps_ret pe_non)) pss_nil)
      (pss_cons (ps_if (PW.pt (pw_or (pt_cmpR op_lt (pe_fld (pv 0) rfl) pe_int (nomark _)) (pw_or1 (pt_cmpR op_ne (pe_call GG hr (by rfl) gG FG.kp bG .nil pass0 (pa_cons (pe_fld (pv 0) rfl) (pa_cons (pe_fld (pv 0) rfl) pa_nil))) pe_int (nomark _)))))
        (pss_one (ps_ret pe_non)) pss_nil)
      (pss_one (ps_ret (pe_tup (pa_cons (pe_fld (pv 0) rfl) (pa_cons (pe_fld (pv 0) rfl) pa_nil)))))), ?_⟩
    have hne : ¬ b < 1 := by omega
    refine ⟨_, rfl, _, _, _, _, true, rfl, ClsV.own C, .base (.ins hp R.cl I.ha I.hn I.ht I.hm), I.kC, true, rfl, ?_⟩
    refine iteF ⟨_, rfl, p, C, dx, _, _, rfl, hp, R.cl, R.nN, rf_n _ _, a, rfl, true, rfl, ?_⟩
    refine iteF ⟨_, rfl, p, C, dx, _, _, rfl, hp, R.cl, R.nD, rf_d _ _, b, rfl, true, rfl, iteF ?_⟩
    refine ⟨_, rfl, p, C, dx, _, _, rfl, hp, R.cl, R.nD, rf_d _ _, _, _, rfl, rfl, _, rfl, ite2 (fun c => absurd (of_decide_eq_true c) hne) (fun c => ?_)⟩
    refine ⟨_, rfl, p, C, dx, _, _, rfl, hp, R.cl, R.nN, rf_n _ _, _, rfl, p, C, dx, _, _, rfl, hp, R.cl, R.nD, rf_d _ _, a, b, rfl, rfl, _, rfl, ?_⟩
    rw [hg]
    refine iteF ⟨_, rfl, p, C, dx, _, _, rfl, hp, R.cl, R.nN, rf_n _ _, _, rfl, p, C, dx, _, _, rfl, hp, R.cl, R.nD, rf_d _ _, (by show 2 ≤ sizeLine; decide), fun t ht => ?_⟩
    exact k _ t (same_upd ht) ht upd_same
end
end Ind

set_option Elab.async false
set_option linter.all false
set_option maxRecDepth 100000
set_option maxHeartbeats 4000000
namespace Ind
open PySem PySem.Spec PyProof.Rows L2
open Builtin.Int (intBits)
structure DrSt (H H' : Hp) (l : Addr) (ds : List Int) (i : Nat) (b : Int) : Prop where
  s : Same H H'
  n : H l = none
  at_ : H' l = some (.lst (ds.map V.int))
  r : InR ds i b
theorem DrSt.push {H H' : Hp} {l : Addr} {ds : List Int} {i : Nat} {b z : Int} (x : DrSt H H' l ds i b) (h0 : 0 ≤ z) (h1 : z < b) : DrSt H (upd H' l (.lst (ds.map V.int ++ [.int z]))) l (ds ++ [z]) (i + 1) b where
  s := fun c o e => by
    have hc : c ≠ l := ne_of_none e x.n
    rw [upd_ne hc]
    exact x.s c o e
  n := x.n
  at_ := by
    rw [upd_same, List.map_append]
    rfl
  r := by
    refine ⟨by rw [List.length_append, x.r.1]; rfl, fun d hd => ?_⟩
    rcases List.mem_append.mp hd with h | h
    · exact x.r.2 d h
    · have e : d = z := by simpa using h
      subst e
      exact ⟨h0, h1⟩
theorem fmod_in {x b : Int} (h : 0 < b) : 0 ≤ x.fmod b ∧ x.fmod b < b := ⟨Int.fmod_nonneg_of_pos x h, Int.fmod_lt_of_pos x h⟩
section
variable {P : Program} {w : World} {K : PySem.W.Frag} {mg : Str → Option Value} {base : Heap} {C Z : Addr}
theorem scDr : FnScope ["script", "at", "count", "bound", "cell", "out", "k", "number", "mixed"] ["script", "at", "count", "bound"] (defScope sDraws) := ⟨rfl, rfl, rfl, by decide +kernel, rfl, by decide +kernel, by decide +kernel⟩
theorem ok_draws {f fC : Addr} {fd fdC : FuncData} (F : Fun K "_law_draws" "_law_draws" sDraws f fd) (T : TxL K mg) (FC : Fun K "_law_cell" "_law_cell" sCell fC fdC) (bC : Binds K fdC ["script", "k"] []) (gC : mg "_law_cell" = some (.ref fC)) :
    FnOk P w K mg base CX0 2 f fd ["script", "at", "count", "bound"] (spDraws K) := by
  have GC : FnOk P w K mg base CX0 1 fC fdC ["script", "k"] (spCellI K) := ok_cell FC T
  refine F.ok scDr (fun vs H Q E h => ?_) (fun cdv A outer s H vs Q E hr h => ?_)
  · obtain ⟨a, ns, k, n, b, rfl, _⟩ := h
    rfl
  · obtain ⟨a, ns, k, n, b, rfl, hS, hk, hn, hb, hb2, q⟩ := h
    refine ⟨_, pss_cons (ps_set (i := 4) scDr.nd rfl (Or.inl rfl) (pe_call GC hr (by rfl) gC FC.kp bC .nil pass0 (pa_cons (pv 0) (pa_cons (pv 1) pa_nil))))
      (pss_cons (ps_set (i := 5) scDr.nd rfl (Or.inl rfl) (pe_lst pa_nil))
      (pss_cons (ps_if (pt_cmpR op_ge (pv 4) (pe_op op_pow pe_int pe_int) (nomark _))
        (pss_cons (ps_for PassesOwn.never rfl (pi_range1 (by rfl) T.range (pa_cons (pv 2) pa_nil)) (pg_name (i := 6) scDr.nd rfl (Or.inl rfl))
          (pss_cons (ps_expr (pe_bm PySem.F.plainAttrs_list PySem.F.slot_list_append PySem.F.type_list_append mt_append (pv 5) (pa_cons (pe_op op_modN (pe_callTy call_int1 (by rfl) T.int (by decide +kernel) (pa_cons (pv 4) pa_nil)) (pv 3)) pa_nil)))
          (pss_one (ps_set (i := 4) scDr.nd rfl (Or.inl rfl) (pe_op op_fdivN (pe_callTy call_int1 (by rfl) T.int (by decide +kernel) (pa_cons (pv 4) pa_nil)) (pv 3))))))
        (pss_one (ps_ret (pv 5)))) pss_nil)
      (pss_cons (ps_set (i := 7) scDr.nd rfl (Or.inl rfl) (pe_op op_add (pe_op op_add (pe_op op_modN (pe_callTy call_int1 (by rfl) T.int (by decide +kernel) (pa_cons (pv 4) pa_nil)) pe_int) (pe_op op_mul pe_int (pv 1))) pe_int))
      (pss_cons (ps_for PassesOwn.never rfl (pi_range1 (by rfl) T.range (pa_cons (pv 2) pa_nil)) (pg_name (i := 6) scDr.nd rfl (Or.inl rfl))
          (pss_cons (ps_set (i := 7) scDr.nd rfl (Or.inl rfl) (pe_op op_modN (pe_callTy call_int1 (by rfl) T.int (by decide +kernel) (pa_cons (pe_op op_add (pe_op op_add (pe_op op_mul (pv 7) pe_int) (pe_op op_mul pe_int (pv 6))) (pv 1)) pa_nil)) pe_int))
          (pss_cons (ps_set (i := 8) scDr.nd rfl (Or.inl rfl) (pe_op op_modN (pe_callTy call_int1 (by rfl) T.int (by decide +kernel) (pa_cons (pe_op op_add (pe_op op_add (pe_op op_mul (pv 7) pe_int) (pe_op op_mul pe_int (pv 6))) pe_int) pa_nil)) pe_int))
          (pss_one (ps_expr (pe_bm PySem.F.plainAttrs_list PySem.F.slot_list_append PySem.F.type_list_append mt_append (pv 5) (pa_cons (pe_op op_modN (pe_callTy call_int1 (by rfl) T.int (by decide +kernel) (pa_cons (pv 8) pa_nil)) (pv 3)) pa_nil)))))))
      (pss_one (ps_ret (pv 5))))))), ?_⟩
    refine ⟨_, rfl, _, rfl, a, ns, k, rfl, hS, Nat.zero_le _, fun l hl => ?_⟩
    have d0 : DrSt H (upd H l (.lst [])) l [] 0 b := ⟨same_upd hl, hl, upd_same, rfl, fun d hd => nomatch hd⟩
    have hlen : ∀ {ds : List Int} {i : Nat}, InR ds i b → i < n → (ds.map V.int).length < sizeLine := fun {ds i} r hi => by
      rw [List.length_map, r.1]
      exact Nat.lt_of_lt_of_le (Nat.lt_of_lt_of_le hi hn) (by decide)
    have bnd : b ≠ 0 ∧ b.natAbs < 1073741824 := ⟨by omega, by omega⟩
    refine ⟨_, rfl, _, _, rfl, rfl, ⟨by decide, by decide, by decide⟩, _, _, rfl, rfl, _, rfl, ite2 (fun _ => ?_) (fun _ => ?_)⟩
    · refine ⟨_, rfl, (n : Int), rfl, by omega, by omega, for_range (lo := 0) (n := n) (fun i σ H' => ∃ (c : Int) (ds : List Int) (kv : Option V), σ = [some (.ref a), some (.int k), some (.int n), some (.int b), some (.int c), some (.ref l), kv, none, none] ∧ DrSt H H' l ds i b)
        ⟨_, [], none, rfl, d0⟩ ?_ ?_⟩
      · rintro i σ H' hi ⟨c, ds, kv, rfl, D⟩
        have hm := fmod_in (x := c) hb
        refine ⟨_, rfl, .inl ⟨rfl, _, SqL.of D.at_⟩, _, rfl, .inl ⟨_, rfl, _, rfl, _, _, rfl, rfl, bnd.1, l, _, _, rfl, rfl, D.at_, hlen D.r hi, ?_⟩⟩
        refine ⟨_, rfl, .inl ⟨_, rfl, _, rfl, _, _, rfl, rfl, bnd, ?_⟩⟩
        exact ⟨_, _, _, rfl, D.push hm.1 hm.2⟩
      · rintro σ H' ⟨c, ds, kv, rfl, D⟩
        exact ⟨_, rfl, q ds H' l D.r D.s D.n D.at_⟩
    · have r31 : ∀ x : Int, 0 ≤ x.fmod 2147483647 ∧ x.fmod 2147483647 < 2147483647 := fun x => fmod_in (by decide)
      have hz := r31 (cell ns k)
      refine ⟨_, rfl, .inl ⟨_, rfl, _, _, rfl, rfl, (by show (2147483647 : Int) ≠ 0; decide), _, rfl, _, _, rfl, rfl, .inl ⟨by decide, by decide⟩, _, _, rfl, rfl, _, _, rfl, rfl, ?_⟩⟩
      refine ⟨_, rfl, (n : Int), rfl, by omega, by omega, for_range (lo := 0) (n := n) (fun i σ H' => ∃ (z : Int) (ds : List Int) (kv mv : Option V), σ = [some (.ref a), some (.int k), some (.int n), some (.int b), some (.int (cell ns k)), some (.ref l), kv, some (.int z), mv] ∧ (0 ≤ z ∧ z < 2 ^ 40) ∧ DrSt H H' l ds i b)
        ⟨_, [], none, none, rfl, ⟨by omega, by omega⟩, d0⟩ ?_ ?_⟩
      · rintro i σ H' hi ⟨z, ds, kv, mv, rfl, hz, D⟩
        have hm : ∀ x : Int, _ := fun x => fmod_in (x := x) hb
        refine ⟨_, rfl, _, _, rfl, rfl, .inr ⟨by decide, by decide⟩, _, rfl, _, _, rfl, rfl, .inl ⟨by decide, by decide⟩, _, _, rfl, rfl, _, rfl, _, _, rfl, rfl, .inl ⟨_, rfl, _, _, rfl, rfl, (by show (2147483647 : Int) ≠ 0; decide), ?_⟩⟩
        refine ⟨_, rfl, _, _, rfl, rfl, .inr ⟨by decide, by decide⟩, _, rfl, _, _, rfl, rfl, .inl ⟨by decide, by decide⟩, _, _, rfl, rfl, _, _, rfl, rfl, .inl ⟨_, rfl, _, _, rfl, rfl, (by show (2147483629 : Int) ≠ 0; decide), ?_⟩⟩
        refine ⟨_, rfl, .inl ⟨rfl, _, SqL.of D.at_⟩, _, rfl, .inl ⟨_, rfl, _, rfl, _, _, rfl, rfl, bnd.1, l, _, _, rfl, rfl, D.at_, hlen D.r hi, ?_⟩⟩
        have hw := r31 (z * 48271 + 11 * (0 + (i : Int)) + (k : Int))
        exact ⟨_, _, _, _, rfl, ⟨hw.1, by omega⟩, D.push (hm _).1 (hm _).2⟩
      · rintro σ H' ⟨z, ds, kv, mv, rfl, hz, D⟩
        exact ⟨_, rfl, q ds H' l D.r D.s D.n D.at_⟩
end
end Ind

set_option Elab.async false
namespace Ind
open PySem.Builtin.Int (intBits)
theorem cg_natAbs (n d : Int) : (cg n d).natAbs = Nat.gcd n.natAbs d.natAbs := by
  unfold cg
  split <;> omega
theorem fdiv_of_mul {a b q : Int} (hb : b ≠ 0) (h : a = q * b) : a.fdiv b = q := by
  rw [h]
  exact Int.mul_fdiv_cancel _ hb
theorem cg_dvd_n (n d : Int) : cg n d ∣ n := by
  have h : (cg n d).natAbs ∣ n.natAbs := by rw [cg_natAbs]; exact Nat.gcd_dvd_left _ _
  exact Int.natAbs_dvd_natAbs.mp h
theorem cg_dvd_d (n d : Int) : cg n d ∣ d := by
  have h : (cg n d).natAbs ∣ d.natAbs := by rw [cg_natAbs]; exact Nat.gcd_dvd_right _ _
  exact Int.natAbs_dvd_natAbs.mp h
theorem nN_mul {n d : Int} (h : d ≠ 0) : n = nN n d * cg n d := by
  obtain ⟨q, e⟩ := cg_dvd_n n d
  have e2 : nN n d = q := fdiv_of_mul (cg_ne h) (e.trans (Int.mul_comm _ _))
  rw [e2, Int.mul_comm]
  exact e
theorem nD_mul {n d : Int} (h : d ≠ 0) : d = nD n d * cg n d := by
  obtain ⟨q, e⟩ := cg_dvd_d n d
  have e2 : nD n d = q := fdiv_of_mul (cg_ne h) (e.trans (Int.mul_comm _ _))
  rw [e2, Int.mul_comm]
  exact e
theorem nD_pos {n d : Int} (h : d ≠ 0) : 0 < nD n d := by
  have e := nD_mul (n := n) h
  have g := cg_natAbs n d
  have gp : 0 < Nat.gcd n.natAbs d.natAbs := Nat.gcd_pos_of_pos_right _ (by omega)
  by_cases hd : d < 0
  · have hc : cg n d < 0 := by
      unfold cg
      rw [if_pos hd]
      omega
    by_cases hq : 0 < nD n d
    · exact hq
    · have : 0 ≤ nD n d * cg n d := Int.mul_nonneg_of_nonpos_of_nonpos (by omega) (by omega)
      omega
  · have hc : 0 < cg n d := by
      unfold cg
      rw [if_neg hd]
      omega
    by_cases hq : 0 < nD n d
    · exact hq
    · have : nD n d * cg n d ≤ 0 := Int.mul_nonpos_of_nonpos_of_nonneg (by omega) (by omega)
      omega
theorem n_gcd {n d : Int} (h : d ≠ 0) : Nat.gcd (nN n d).natAbs (nD n d).natAbs = 1 := by
  have e1 : n.natAbs = (nN n d).natAbs * (cg n d).natAbs := by
    rw [← Int.natAbs_mul, ← nN_mul h]
  have e2 : d.natAbs = (nD n d).natAbs * (cg n d).natAbs := by
    rw [← Int.natAbs_mul, ← nD_mul h]
  have g := cg_natAbs n d
  have hg : 0 < (cg n d).natAbs := by
    have := cg_ne (n := n) h
    omega
  have e3 : Nat.gcd n.natAbs d.natAbs = Nat.gcd (nN n d).natAbs (nD n d).natAbs * (cg n d).natAbs := by
    conv => lhs; rw [e1, e2]
    rw [Nat.gcd_mul_right]
  rw [← g] at e3
  have e4 : 1 * (cg n d).natAbs = Nat.gcd (nN n d).natAbs (nD n d).natAbs * (cg n d).natAbs := by rw [Nat.one_mul]; exact e3
  exact (Nat.eq_of_mul_eq_mul_right hg e4).symm
theorem n_cross {n d : Int} (h : d ≠ 0) : nN n d * d = n * nD n d := by
  have e1 := nN_mul (n := n) h
  have e2 := nD_mul (n := n) h
  calc nN n d * d = nN n d * (nD n d * cg n d) := by rw [← e2]
    _ = (nN n d * cg n d) * nD n d := by rw [Int.mul_comm (nD n d), Int.mul_assoc]
    _ = n * nD n d := by rw [← e1]
/-- two fractions in lowest terms of one value are one -/
theorem low_uniq {p q r s : Int} (hq : 0 < q) (hs : 0 < s) (g1 : Nat.gcd p.natAbs q.natAbs = 1) (g2 : Nat.gcd r.natAbs s.natAbs = 1) (e : p * s = r * q) : p = r ∧ q = s := by
  have en : p.natAbs * s.natAbs = r.natAbs * q.natAbs := by rw [← Int.natAbs_mul, ← Int.natAbs_mul, e]
  have d1 : q.natAbs ∣ s.natAbs := Nat.Coprime.dvd_of_dvd_mul_left (Nat.Coprime.symm g1) ⟨r.natAbs, by rw [en, Nat.mul_comm]⟩
  have d2 : s.natAbs ∣ q.natAbs := Nat.Coprime.dvd_of_dvd_mul_left (Nat.Coprime.symm g2) ⟨p.natAbs, by rw [← en, Nat.mul_comm]⟩
  have e1 : q.natAbs = s.natAbs := Nat.dvd_antisymm d1 d2
  have e2 : q = s := by omega
  subst e2
  exact ⟨Int.eq_of_mul_eq_mul_right (by omega) e, rfl⟩
theorem n_uniq {a b c d : Int} (hb : b ≠ 0) (hd : d ≠ 0) (e : a * d = c * b) : nN a b = nN c d ∧ nD a b = nD c d := by
  refine low_uniq (nD_pos hb) (nD_pos hd) (n_gcd hb) (n_gcd hd) ?_
  have e1 := n_cross (n := a) hb
  have e2 := n_cross (n := c) hd
  have z : (nN a b * nD c d) * (b * d) = (nN c d * nD a b) * (b * d) := by
    calc (nN a b * nD c d) * (b * d) = (nN a b * b) * (nD c d * d) := by ac_rfl
      _ = (a * nD a b) * (nD c d * d) := by rw [e1]
      _ = (a * d) * (nD a b * nD c d) := by ac_rfl
      _ = (c * b) * (nD a b * nD c d) := by rw [e]
      _ = (c * nD c d) * (nD a b * b) := by ac_rfl
      _ = (nN c d * d) * (nD a b * b) := by rw [e2]
      _ = (nN c d * nD a b) * (b * d) := by ac_rfl
  exact Int.eq_of_mul_eq_mul_right (Int.mul_ne_zero hb hd) z
theorem n_same {a b c d : Int} (hb : b ≠ 0) (hd : d ≠ 0) (h1 : nN a b = nN c d) (h2 : nD a b = nD c d) : a * d = c * b := by
  have e1 := n_cross (n := a) hb
  have e2 := n_cross (n := c) hd
  have hp := nD_pos (n := a) hb
  have z : (a * d) * nD a b = (c * b) * nD a b := by
    calc (a * d) * nD a b = (a * nD a b) * d := by ac_rfl
      _ = (nN a b * b) * d := by rw [e1]
      _ = (nN c d * d) * b := by rw [h1]; ac_rfl
      _ = (c * nD c d) * b := by rw [e2]
      _ = (c * b) * nD a b := by rw [h2]; ac_rfl
  exact Int.eq_of_mul_eq_mul_right (by omega) z
theorem n_one (n : Int) : nN n 1 = n ∧ nD n 1 = 1 := by
  have e : cg n 1 = 1 := by
    unfold cg
    rw [if_neg (by decide)]
    simp
  unfold nN nD
  rw [e]
  simp
theorem bits_nN {n d : Int} {m : Nat} (h : intBits n ≤ m) : intBits (nN n d) ≤ m := PySem.intBits_fdiv_le h
theorem bits_nD {n d : Int} {m : Nat} (h : intBits d ≤ m) : intBits (nD n d) ≤ m := PySem.intBits_fdiv_le h
end Ind

set_option Elab.async false
set_option maxRecDepth 100000
namespace Ind
open PySem SX
open PySem.NumText (AllDigits digitsVal)
open TL (numL numL_lt numL_step)
/-! ### digits of a number in blocks -/
/-- the last k digits, with zeros ahead -/
def zp : Nat → Nat → List Nat
  | 0, _ => []
  | k + 1, n => zp k (n / 10) ++ [48 + n % 10]
theorem zp_len : ∀ (k n : Nat), (zp k n).length = k
  | 0, _ => rfl
  | k + 1, n => by rw [zp, List.length_append, zp_len]; rfl
theorem zp_zero : ∀ k : Nat, zp k 0 = List.replicate k 48
  | 0 => rfl
  | k + 1 => by
    rw [zp, Nat.zero_div, zp_zero k, List.replicate_succ']
theorem numL_pos {n : Nat} (h : 10 ≤ n) : numL n = numL (n / 10) ++ [48 + n % 10] := numL_step h
theorem zp_num : ∀ {k n : Nat}, 0 < k → n < 10 ^ k → List.replicate (k - (numL n).length) 48 ++ numL n = zp k n
  | k + 1, n, _, h => by
    by_cases hn : n < 10
    · rw [numL_lt hn, zp, Nat.div_eq_of_lt hn, zp_zero, Nat.mod_eq_of_lt hn]
      rfl
    · have h1 : n / 10 < 10 ^ k := by
        rw [Nat.pow_succ] at h
        omega
      have hk : 0 < k := by
        cases k with
        | zero => simp at h1; omega
        | succ k => omega
      rw [numL_step (by omega), zp, ← zp_num hk h1, ← List.append_assoc]
      congr 2
      rw [List.length_append]
      have : k + 1 - ((numL (n / 10)).length + [48 + n % 10].length) = k - (numL (n / 10)).length := by
        show k + 1 - (_ + 1) = _
        omega
      rw [this]
theorem zp_len_num {k n : Nat} (hk : 0 < k) (h : n < 10 ^ k) : (numL n).length ≤ k := TL.numL_len hk h
theorem numL_split : ∀ (k q r : Nat), 0 < q → r < 10 ^ k → numL (q * 10 ^ k + r) = numL q ++ zp k r
  | 0, q, r, _, h => by
    have : r = 0 := by simpa using h
    subst this
    simp [zp]
  | k + 1, q, r, hq, h => by
    have hp : 0 < 10 ^ k := Nat.pow_pos (by decide)
    have h1 : r / 10 < 10 ^ k := by
      rw [Nat.pow_succ] at h
      omega
    have e : q * 10 ^ (k + 1) = 10 * (q * 10 ^ k) := by rw [Nat.pow_succ]; ac_rfl
    have hb : 1 ≤ q * 10 ^ k := Nat.mul_pos hq hp
    have d : (q * 10 ^ (k + 1) + r) / 10 = q * 10 ^ k + r / 10 := by rw [e]; omega
    have m : (q * 10 ^ (k + 1) + r) % 10 = r % 10 := by rw [e]; omega
    rw [numL_step (by rw [e]; omega), d, m, numL_split k q (r / 10) hq h1, zp, List.append_assoc]
theorem digitsVal_app (a b : List Nat) : digitsVal (a ++ b) = digitsVal a * 10 ^ b.length + digitsVal b := by
  have key : ∀ (b : List Nat) (v : Nat), b.foldl (fun acc c => acc * 10 + (c - 48)) v = v * 10 ^ b.length + b.foldl (fun acc c => acc * 10 + (c - 48)) 0 := by
    intro b
    induction b with
    | nil => intro v; simp
    | cons c b ih =>
      intro v
      rw [List.foldl_cons, List.foldl_cons, ih, ih (0 * 10 + (c - 48)), List.length_cons, Nat.pow_succ, Nat.add_mul, Nat.zero_mul, Nat.zero_add]
      have : v * 10 * 10 ^ b.length = v * (10 ^ b.length * 10) := by ac_rfl
      omega
  unfold digitsVal
  rw [List.foldl_append, key]
theorem digitsVal_one (c : Nat) : digitsVal [c] = c - 48 := by
  show 0 * 10 + (c - 48) = _
  omega
theorem digitsVal_lt : ∀ {l : List Nat}, AllDigits l → digitsVal l < 10 ^ l.length
  | [], _ => by decide
  | c :: l, h => by
    have h1 := digitsVal_lt (l := l) h.tail
    have h2 := h.head
    have e := digitsVal_app [c] l
    rw [digitsVal_one] at e
    have e2 : digitsVal (c :: l) = (c - 48) * 10 ^ l.length + digitsVal l := e
    rw [e2, List.length_cons, Nat.pow_succ]
    have h3 : (c - 48) * 10 ^ l.length ≤ 9 * 10 ^ l.length := Nat.mul_le_mul_right _ (by omega)
    omega
/-- zfill of a number's text -/
theorem zfill_num {n : Nat} (h : n < 10 ^ 64) : Txt.zfill (S (numL n)) 64 = S (zp 64 n) := by
  have hl := zp_len_num (k := 64) (by decide) h
  have e := zp_num (k := 64) (by decide) h
  unfold Txt.zfill
  by_cases c : (64 : Int) ≤ ((S (numL n)).length : Int)
  · rw [if_pos c]
    rw [S_len] at c
    have : (numL n).length = 64 := by omega
    rw [← e, this]
    rfl
  · rw [if_neg c]
    rw [S_len] at c
    have hz : zfilled (S (numL n)) ((64 : Int).toNat - (S (numL n)).length) = Builtin.Str.padded (S (numL n)) (64 - (numL n).length) 0 48 := by
      have hd := TL.numL_digits n
      have hne := TL.numL_ne n
      rw [S_len]
      unfold zfilled
      cases h0 : numL n with
      | nil => exact absurd h0 hne
      | cons c0 cs =>
        have hc := hd c0 (by rw [h0]; simp)
        show (match (S (c0 :: cs)).cps[0]? with | some 43 | some 45 => _ | _ => _) = _
        have : (S (c0 :: cs)).cps[0]? = some c0 := by simp [S]
        rw [this]
        split
        · rename_i z; cases z; omega
        · rename_i z; cases z; omega
        · rfl
    rw [hz, ← e]
    unfold Builtin.Str.padded
    congr 1
    simp [S]
end Ind

set_option Elab.async false
set_option linter.all false
set_option maxRecDepth 100000
set_option maxHeartbeats 4000000
set_option exponentiation.threshold 3000
namespace Ind
open PySem PySem.Spec PyProof.Rows L2 SX
open Builtin.Int (intBits)
open TL (numL)
abbrev sDec : Stmt := top 9
abbrev sNum : Stmt := top 10
/-- the texts of code lists, as values -/
def Ss (ls : List (List Nat)) : List V := ls.map fun l => V.str (S l)
theorem Ss_strs (ls : List (List Nat)) : Ss ls = (ls.map S).map V.str := by
  unfold Ss
  rw [List.map_map]
  rfl
theorem joinL_nil : ∀ ls : List (List Nat), TL.joinL [] ls = ls.flatten
  | [] => rfl
  | [p] => by
    show p = _
    simp
  | p :: q :: r => by
    show p ++ ([] ++ TL.joinL [] (q :: r)) = _
    rw [joinL_nil (q :: r)]
    simp
def dec (n : Int) : List Nat := (if n < 0 then [45] else []) ++ numL n.natAbs
structure TxP (mg : Str → Option Value) : Prop where
  part : ∃ v, mg "PART" = some v ∧ RelV (.int (10 ^ 64)) v
  dig : ∃ v, mg "DIGITS" = some v ∧ RelV (.int 64) v
  divmod : mg "divmod" = none
  str : mg "str" = none
  max : mg "max" = none
def spDec : Sp := fun vs H Q _ => ∃ n : Int, vs = [.int n] ∧ n.natAbs < 10 ^ 200 ∧ ∀ H' : Hp, Same H H' → Q (.str (S (dec n))) H'
theorem flat64 : ∀ {ls : List (List Nat)}, (∀ p ∈ ls, p.length = 64) → ls.flatten.length = 64 * ls.length
  | [], _ => rfl
  | p :: ls, h => by
    rw [List.flatten_cons, List.length_append, flat64 fun q hq => h q (List.mem_cons_of_mem _ hq), h p (by simp), List.length_cons]
    omega
/-- the pieces behind each turn -/
structure DecSt (m rest : Nat) (ls : List (List Nat)) : Prop where
  all : numL m = numL rest ++ ls.reverse.flatten
  len : ∀ p ∈ ls, p.length = 64
theorem DecSt.few {m rest : Nat} {ls : List (List Nat)} (h : DecSt m rest ls) (hm : m < 10 ^ 200) : ls.length ≤ 4 := by
  have h1 := TL.numL_len (k := 200) (by decide) hm
  rw [h.all, List.length_append, flat64 fun p hp => h.len p (List.mem_reverse.mp hp), List.length_reverse] at h1
  omega
theorem DecSt.go {m rest : Nat} {ls : List (List Nat)} (h : DecSt m rest ls) (hr : 10 ^ 64 ≤ rest) : DecSt m (rest / 10 ^ 64) (ls ++ [zp 64 (rest % 10 ^ 64)]) := by
  have hp : 0 < 10 ^ 64 := Nat.pow_pos (by decide)
  have e := numL_split 64 (rest / 10 ^ 64) (rest % 10 ^ 64) (Nat.div_pos hr hp) (Nat.mod_lt _ hp)
  rw [Nat.div_add_mod'] at e
  refine ⟨?_, fun p hq => ?_⟩
  · rw [h.all, e, List.reverse_append]
    simp
  · rcases List.mem_append.mp hq with z | z
    · exact h.len p z
    · rw [List.mem_singleton.mp z, zp_len]
theorem lt_log {n k : Nat} (h : n < 2 ^ k) (hk : 0 < k) : n.log2 < k := by
  by_cases z : n = 0
  · subst z
    exact hk
  · exact (Nat.log2_lt z).mpr h
theorem ediv64 (r : Nat) : (r : Int) / (10 ^ 64) = ((r / 10 ^ 64 : Nat) : Int) := by
  rw [Int.natCast_ediv]
  rfl
theorem emod64 (r : Nat) : (r : Int) % (10 ^ 64) = ((r % 10 ^ 64 : Nat) : Int) := by
  rw [Int.natCast_emod]
  rfl
theorem p64 : (10 ^ 64 : Nat) < 2 ^ 250 := by decide
section
variable {P : Program} {w : World} {K : PySem.W.Frag} {mg : Str → Option Value} {base : Heap} {C Z : Addr}
theorem scDec : FnScope ["n", "rest", "parts", "part"] ["n"] (defScope sDec) := ⟨rfl, rfl, rfl, by decide +kernel, rfl, by decide +kernel, by decide +kernel⟩
theorem ok_dec {f : Addr} {fd : FuncData} (F : Fun K "decimal" "decimal" sDec f fd) (T : TxL K mg) (G : TxP mg) : FnOk P w K mg base CX0 1 f fd ["n"] spDec := by
  obtain ⟨vP, gP, rP⟩ := G.part
  obtain ⟨vD, gD, rD⟩ := G.dig
  refine F.ok scDec (fun vs H Q E h => ?_) (fun cdv A outer s H vs Q E hr h => ?_)
  · obtain ⟨n, rfl, _⟩ := h
    rfl
  · obtain ⟨n, rfl, hn, q⟩ := h
    refine ⟨_, pss_cons (ps_set (i := 1) scDec.nd rfl (Or.inl rfl) (pe_callB call_abs (by rfl) T.abs (by decide +kernel) (pa_cons (pv 0) pa_nil)))
      (pss_cons (ps_set (i := 2) scDec.nd rfl (Or.inl rfl) (pe_lst pa_nil))
      (pss_cons (ps_while PassesOwn.never (pt_cmpR op_ge (pv 1) (pe_glob rfl gP rP) (nomark _))
        (pss_cons (ps_asg (pe_callB call_divmodW (by rfl) G.divmod (by decide +kernel) (pa_cons (pv 1) (pa_cons (pe_glob rfl gP rP) pa_nil))) (pg_tup (by rfl) (pgs_cons (pg_name (i := 1) scDec.nd rfl (Or.inl rfl)) (pgs_cons (pg_name (i := 3) scDec.nd rfl (Or.inl rfl)) pgs_nil))))
        (pss_one (ps_expr (pe_bm PySem.F.plainAttrs_list PySem.F.slot_list_append PySem.F.type_list_append mt_append (pv 2) (pa_cons
          (pe_bm PySem.F.plainAttrs_str PySem.F.slot_str_zfill PySem.F.type_str_zfill mt_zfill (pe_callTy call_str_int (by rfl) G.str (by decide +kernel) (pa_cons (pv 3) pa_nil)) (pa_cons (pe_glob rfl gD rD) pa_nil)) pa_nil))))))
      (pss_cons (ps_expr (pe_bm PySem.F.plainAttrs_list PySem.F.slot_list_append PySem.F.type_list_append mt_append (pv 2) (pa_cons (pe_callTy call_str_int (by rfl) G.str (by decide +kernel) (pa_cons (pv 1) pa_nil)) pa_nil)))
      (pss_cons (ps_if (pt_cmpR op_lt (pv 0) pe_int (nomark _)) (pss_one (ps_expr (pe_bm PySem.F.plainAttrs_list PySem.F.slot_list_append PySem.F.type_list_append mt_append (pv 2) (pa_cons pe_str pa_nil)))) pss_nil)
      (pss_one (ps_ret (pe_bm PySem.F.plainAttrs_str PySem.F.slot_str_join PySem.F.type_str_join mt_join pe_str (pa_cons (pe_revL (pv 2)) pa_nil)))))))), ?_⟩
    refine ⟨_, rfl, _, rfl, Nat.zero_le _, fun l hl => ?_⟩
    rw [abs_nat]
    have keep : ∀ {H' : Hp} {xs : List V}, Same H H' → Same H (upd H' l (.lst xs)) := fun {H' xs} s c o e => by
      rw [upd_ne (ne_of_none e hl)]
      exact s c o e
    refine while_by (fun σ H' => ∃ (rest : Nat) (ls : List (List Nat)) (v : Option V), σ = [some (.int n), some (.int (rest : Int)), some (.ref l), v] ∧ H' l = some (.lst (Ss ls)) ∧ Same H H' ∧ DecSt n.natAbs rest ls ∧ rest ≤ n.natAbs)
      (fun σ _ => match σ[1]? with | some (some (V.int y)) => y.natAbs | _ => 0) ⟨n.natAbs, [], none, rfl, upd_same, same_upd hl, ⟨by simp, by simp⟩, Nat.le_refl _⟩ ?_ ?_
    · rintro σ H' ⟨rest, ls, v, rfl, hL, s1, D, hle⟩
      have hfew := D.few hn
      have hlen : (Ss ls).length < sizeLine := by
        unfold Ss
        rw [List.length_map]
        exact Nat.lt_of_le_of_lt hfew (by decide)
      refine ⟨_, rfl, _, _, rfl, rfl, _, rfl, ite2 (fun c => ?_) (fun c => ?_)⟩
      · have hr1 : 10 ^ 64 ≤ rest := by
          have := of_decide_eq_true c
          omega
        have hb : rest % 10 ^ 64 < 10 ^ 64 := Nat.mod_lt _ (Nat.pow_pos (by decide))
        refine ⟨_, rfl, _, _, rfl, divp_ok (by decide) ?_, fun p hp => ?_⟩
        · refine Nat.le_trans (m := 700) (PySem.intBits_le_iff.mpr ?_) (Nat.le_trans (by decide) (Nat.le_add_left 4000 _))
          have h7 : (10 : Nat) ^ 200 < 2 ^ 700 := by decide
          omega
        · rw [ediv64, emod64]
          refine ⟨p, _, rfl, SqT.of upd_same, rfl, _, _, rfl, _, _, rfl, rfl, ?_⟩
          have hL2 : (upd H' p (.tup [.int ((rest / 10 ^ 64 : Nat) : Int), .int ((rest % 10 ^ 64 : Nat) : Int)])) l = some (.lst (Ss ls)) := same_upd hp _ _ hL
          refine ⟨_, rfl, .inl ⟨rfl, _, SqL.of hL2⟩, _, rfl, _, rfl, lt_log (Nat.lt_trans hb (Nat.lt_trans p64 (by decide))) (by decide), rfl, _, _, rfl, rfl, by decide +kernel, _, _, _, rfl, rfl, hL2, hlen, ?_⟩
          rw [num_S, zfill_num hb]
          refine ⟨⟨_, ls ++ [zp 64 (rest % 10 ^ 64)], _, rfl, ?_, keep (s1.trans (same_upd hp)), D.go hr1, Nat.le_trans (Nat.div_le_self _ _) hle⟩, ?_⟩
          · rw [upd_same]
            unfold Ss
            rw [List.map_append]
            rfl
          · show ((rest / 10 ^ 64 : Nat) : Int).natAbs < ((rest : Nat) : Int).natAbs
            have : rest / 10 ^ 64 < rest := Nat.div_lt_self (by have : 0 < 10 ^ 64 := Nat.pow_pos (by decide); omega) (by decide)
            omega
      · have hr1 : rest < 10 ^ 64 := by
          have : ¬ ((10 : Int) ^ 64 ≤ (rest : Int)) := fun z => c (decide_eq_true z)
          omega
        refine ⟨_, rfl, .inl ⟨rfl, _, SqL.of hL⟩, _, rfl, _, rfl, lt_log (Nat.lt_trans hr1 (Nat.lt_trans p64 (by decide))) (by decide), _, _, _, rfl, rfl, hL, hlen, ?_⟩
        rw [num_S]
        have hL2 : (upd H' l (.lst (Ss ls ++ [V.str (S (numL rest))]))) l = some (.lst (Ss (ls ++ [numL rest]))) := by
          rw [upd_same]
          unfold Ss
          rw [List.map_append]
          rfl
        have sum64 : ∀ {xs : List (List Nat)}, (∀ p ∈ xs, p.length ≤ 64) → (xs.map (·.length)).sum ≤ 64 * xs.length := fun {xs} => by
          induction xs with
          | nil => intro _; exact Nat.le_refl _
          | cons p xs ih =>
            intro h
            have h1 := ih fun q hq => h q (List.mem_cons_of_mem _ hq)
            have h2 := h p (by simp)
            rw [List.map_cons, List.sum_cons, List.length_cons]
            omega
        have hlen2 : ∀ p ∈ ls ++ [numL rest], p.length ≤ 64 := fun p hp => by
          rcases List.mem_append.mp hp with z | z
          · rw [D.len p z]
            exact Nat.le_refl _
          · rw [List.mem_singleton.mp z]
            exact zp_len_num (by decide) hr1
        refine ⟨_, rfl, _, _, rfl, rfl, _, rfl, ite2 (fun c2 => ?_) (fun c2 => ?_)⟩
        · have hneg : n < 0 := of_decide_eq_true c2
          refine ⟨_, rfl, .inl ⟨rfl, _, SqL.of hL2⟩, _, _, _, rfl, rfl, hL2, ?_, ?_⟩
          · unfold Ss
            rw [List.length_map, List.length_append]
            exact Nat.lt_of_le_of_lt (m := 5) (by show ls.length + 1 ≤ 5; omega) (by decide)
          · refine ⟨rfl, _, rfl, l, _, rfl, SqL.of upd_same, fun p hp => ?_⟩
            refine ⟨_, p, ((ls ++ [numL rest] ++ [[45]]).reverse.map S), rfl, rfl, .inl (SqL.of ?_), ?_, ?_⟩
            · rw [upd_same, ← Ss_strs]
              unfold Ss
              rw [show (Str.ofString "-") = S [45] by decide +kernel]
              simp only [List.map_append, List.map_reverse]
              rfl
            · rw [lens, List.length_map]
              have h1 := sum64 (xs := (ls ++ [numL rest] ++ [[45]]).reverse) fun p hp => by
                rcases List.mem_append.mp (List.mem_reverse.mp hp) with z | z
                · exact hlen2 p z
                · rw [List.mem_singleton.mp z]
                  decide
              have h2 : (ls ++ [numL rest] ++ [[45]]).reverse.length ≤ 10 := by
                rw [List.length_reverse, List.length_append, List.length_append]
                show ls.length + 1 + 1 ≤ 10
                omega
              have h3 : (Str.ofString "").length = 0 := by decide +kernel
              show _ + _ * (Str.ofString "").length ≤ 16777216
              rw [h3]
              omega
            · rw [show (Str.ofString "") = S [] by decide +kernel, join_S, joinL_nil]
              have e : (ls ++ [numL rest] ++ [[45]]).reverse.flatten = dec n := by
                unfold dec
                rw [if_pos hneg, D.all]
                simp
              rw [e]
              exact q _ ((keep (keep s1)).trans (same_upd hp))
        · have hneg : ¬ n < 0 := fun z => c2 (decide_eq_true z)
          refine ⟨rfl, _, rfl, l, _, rfl, SqL.of hL2, fun p hp => ?_⟩
          refine ⟨_, p, ((ls ++ [numL rest]).reverse.map S), rfl, rfl, .inl (SqL.of ?_), ?_, ?_⟩
          · rw [upd_same, ← Ss_strs]
            unfold Ss
            rw [List.map_reverse]
          · rw [lens, List.length_map]
            have h1 := sum64 (xs := (ls ++ [numL rest]).reverse) fun p hp => hlen2 p (List.mem_reverse.mp hp)
            have h2 : (ls ++ [numL rest]).reverse.length ≤ 10 := by
              rw [List.length_reverse, List.length_append]
              show ls.length + 1 ≤ 10
              omega
            have h3 : (Str.ofString "").length = 0 := by decide +kernel
            show _ + _ * (Str.ofString "").length ≤ 16777216
            rw [h3]
            omega
          · rw [show (Str.ofString "") = S [] by decide +kernel, join_S, joinL_nil]
            have e : (ls ++ [numL rest]).reverse.flatten = dec n := by
              unfold dec
              rw [if_neg hneg, D.all]
              simp
            rw [e]
            exact q _ ((keep s1).trans (same_upd hp))
    · rintro σ H' R R' hR ⟨v, e1, i, j, e2, e3, b1, e4, h3⟩
      exact ⟨v, e1, i, j, e2, e3, b1, e4, hR _ _ h3⟩
end
end Ind

set_option Elab.async false
set_option linter.all false
set_option maxRecDepth 100000
set_option maxHeartbeats 4000000
namespace Ind
open PySem PySem.Spec PyProof.Rows L2
/-! ### str(x) of an own instance, by its own __str__ -/
section
variable {X : Cx} {CX : CXT} {n : Nat} {C f : Addr} {fd : FuncData} {ps : List Str} {sp : Sp} {E : XK}
def rStrO (C : Addr) (sp : Sp) (E : XK) : List V → Hp → VK → Prop := fun xs H Q => ∃ a dx fs, xs = [.ref a] ∧ H a = some (.ins C dx fs) ∧ sp [.ref a] H (fun z H' => ∃ y, z = .str y ∧ Q (.str y) H') E
structure StrC (X : Cx) (CX : CXT) (n : Nat) (C f : Addr) (fd : FuncData) (ps : List Str) (sp : Sp) (E : XK) : Prop where
  fn : FnOk X.prog X.w X.K X.mg X.base CX n f fd ps sp
  st : PySem.W.findIn X.K (.ref C) "__str__" = some (some (.ref f))
  isf : PySem.W.isFn X.K (.ref f) = true
  b : Binds X.K fd ps []
  px : Passes CX X E
theorem call_strO (G : StrC X CX n C f fd ps sp E) (hr : Room (n + 2) X.A) : CallR X (.type "str") (rStrO C sp E) := by
  intro pins s σ H xs us Q I r h
  obtain ⟨a, dx, fs, rfl, ha, q⟩ := h
  obtain ⟨u, rfl, rx⟩ := vals1 r
  cases (show u = Value.ref a from rx)
  obtain ⟨mA, O, _⟩ := ins_get I.hok ha
  obtain ⟨od, J, _⟩ := O.look
  have hr2 : Room n X.A.in1.in1 := hr.in1.in1
  have e0 : Env0 X.prog X.w X.K X.mg X.base X.A.in1.in1 X.stack s H := I.env0.in1.in1
  have hl := G.fn.len _ _ _ _ q
  have r2 : Vals [V.ref a] [Value.ref a] := .cons rfl .nil
  refine PySem.W.kso_call (by have := hr2.un; omega) I.kIn J G.st G.isf ?_
  refine wpAny_call (codeAny_mono (G.fn.run _ X.stack s H ⟨[.ref a], []⟩ [.ref a] [.ref a] _ E hr2 e0 (by
    have := G.b s [.ref a] I.kIn (by simpa using hl)
    simpa using this) r2 q) fun r s' hq => ?_)
  cases r with
  | error e => exact G.px pins σ H s e s' I hq
  | ok fl =>
    cases fl with
    | ret u =>
      obtain ⟨z, H', I', rz, y, ez, q⟩ := I.after hq
      subst ez
      obtain ⟨t, rfl⟩ := rz
      exact ⟨.str y, H', I', ⟨t, rfl⟩, q⟩
    | next => exact False.elim hq
    | brk => exact False.elim hq
    | cont => exact False.elim hq
end
end Ind

set_option Elab.async false
set_option linter.all false
set_option maxRecDepth 100000
set_option maxHeartbeats 4000000
set_option exponentiation.threshold 3000
namespace Ind
open PySem PySem.Spec PyProof.Rows L2 SX
open Builtin.Int (intBits)
open TL (numL)
open PySem.NumText (AllDigits digitsVal)
abbrev sStr : Stmt := inClass (top 12) 6
abbrev sRead : Stmt := top 13
abbrev sCnt : Stmt := top 14
theorem dec_len {n : Int} (h : n.natAbs < 10 ^ 200) : (dec n).length ≤ 201 := by
  have := TL.numL_len (k := 200) (by decide) h
  unfold dec
  rw [List.length_append]
  split
  · show 1 + _ ≤ 201
    omega
  · show 0 + _ ≤ 201
    omega
/-- a number's text -/
def rtx (a b : Int) : List Nat := dec a ++ (if b = 1 then [] else 47 :: dec b)
def spStr (C : Addr) : Sp := fun vs H Q _ => ∃ (p : Addr) (a b : Int), vs = [.ref p] ∧ RatAt C H p a b ∧ a.natAbs < 10 ^ 200 ∧ b.natAbs < 10 ^ 200 ∧ ∀ H' : Hp, Same H H' → Q (.str (S (rtx a b))) H'
/-- what is_count answers -/
def dgB (l : List Nat) : Bool := l.all fun c => decide (48 ≤ c) && decide (c ≤ 57)
def cntB (l : List Nat) : Bool := dgB l && !l.isEmpty && (decide (l = [48]) || !decide (l.head? = some 48))
theorem uni_digit : ∀ c : Nat, c < 128 → Unicode.isDigit c = (decide (48 ≤ c) && decide (c ≤ 57)) := by decide +kernel
theorem uni_digit' (c : Fin 128) : Unicode.isDigit c.val = (decide (48 ≤ c.val) && decide (c.val ≤ 57)) := uni_digit c.val c.isLt
theorem all_digit : ∀ l : List Nat, (l.all (fun c => decide (c < 128)) && l.all Unicode.isDigit) = dgB l
  | [] => rfl
  | c :: l => by
    have ih := all_digit l
    unfold dgB at ih ⊢
    rw [List.all_cons, List.all_cons, List.all_cons, ← ih]
    by_cases h : c < 128
    · rw [uni_digit c h, decide_eq_true h]
      cases (decide (48 ≤ c) && decide (c ≤ 57)) <;> simp
    · have h2 : decide (c ≤ 57) = false := decide_eq_false (by omega)
      rw [decide_eq_false h, h2]
      simp
theorem count_is (l : List Nat) : (Txt.isascii (S l) && Txt.isdigit (S l)) = (dgB l && !l.isEmpty) := by
  have e1 : Txt.isascii (S l) = l.all (· < 128) := by
    show (S l).cps.all _ = _
    rw [← Array.all_toList]
  have e2 : Txt.isdigit (S l) = (decide (0 < l.length) && l.all Unicode.isDigit) := by
    show (decide ((S l).length > 0) && (S l).cps.all _) = _
    rw [S_len, ← Array.all_toList]
  rw [e1, e2, ← all_digit l]
  have e3 : decide (0 < l.length) = !l.isEmpty := by cases l <;> simp
  rw [e3]
  cases l.all (fun c => decide (c < 128)) <;> cases l.all Unicode.isDigit <;> cases l.isEmpty <;> rfl
theorem starts_one (l : List Nat) (c : Nat) : Txt.startswith (S l) (S [c]) = decide (l.head? = some c) := by
  unfold Txt.startswith
  rw [StrLaws.subAt_eq, S_len, S_len]
  cases l with
  | nil => simp
  | cons d r =>
    show (decide (0 + 1 ≤ (d :: r).length) && ([d] == [c])) = _
    by_cases h : d = c
    · subst h
      simp
    · simp [h]
def spCnt : Sp := fun vs H Q _ => ∃ l : List Nat, vs = [.str (S l)] ∧ l.length ≤ 1000 ∧ Q (.bl (cntB l)) H
section
variable {P : Program} {w : World} {K : PySem.W.Frag} {mg : Str → Option Value} {base : Heap} {C Z : Addr}
theorem scStr : FnScope ["self"] ["self"] (defScope sStr) := ⟨rfl, rfl, rfl, by decide +kernel, rfl, by decide +kernel, by decide +kernel⟩
theorem S_le {l : List Nat} {n : Nat} (h : l.length ≤ n) (hn : n ≤ 1000000 := by decide) : (S l).length ≤ sizeLine := by
  rw [S_len]
  have : (1000000 : Nat) ≤ sizeLine := by decide
  omega
theorem ok_str {f fD : Addr} {fd fdD : FuncData} (F : Fun K "__str__" "Ratio.__str__" sStr f fd) (R : TxR K mg C Z) (T : TxL K mg) (G : TxP mg)
    (FD : Fun K "decimal" "decimal" sDec fD fdD) (bD : Binds K fdD ["n"] []) (gD : mg "decimal" = some (.ref fD)) : FnOk P w K mg base CX0 2 f fd ["self"] (spStr C) := by
  have GD : FnOk P w K mg base CX0 1 fD fdD ["n"] spDec := ok_dec FD T G
  refine F.ok scStr (fun vs H Q E h => ?_) (fun cdv A outer s H vs Q E hr h => ?_)
  · obtain ⟨p, a, b, rfl, _⟩ := h
    rfl
  · obtain ⟨p, a, b, rfl, hp, ha, hb, q⟩ := h
    refine ⟨_, pss_cons (ps_if (pt_cmpR op_eq (pe_fld (pv 0) rfl) pe_int (nomark _)) (pss_one (ps_ret (pe_joined1 (pe_fmt (pe_call GD hr (by rfl) gD FD.kp bD .nil pass0 (pa_cons (pe_fld (pv 0) rfl) pa_nil)))))) pss_nil)
      (pss_one (ps_ret (pe_joined (.cons (pe_fmt (pe_call GD hr (by rfl) gD FD.kp bD .nil pass0 (pa_cons (pe_fld (pv 0) rfl) pa_nil))) (.cons pe_str (.cons (pe_fmt (pe_call GD hr (by rfl) gD FD.kp bD .nil pass0 (pa_cons (pe_fld (pv 0) rfl) pa_nil))) .nil)))))), ?_⟩
    obtain ⟨dx, hp1⟩ := id hp
    have la := dec_len ha
    have lb := dec_len hb
    refine ⟨_, rfl, p, C, dx, _, _, rfl, hp1, R.cl, R.nD, rf_d _ _, rfl, _, rfl, ite2 (fun c => ?_) (fun c => ?_)⟩
    · have hb1 : b = 1 := V.int.inj (of_decide_eq_true c)
      refine ⟨_, rfl, p, C, dx, _, _, rfl, hp1, R.cl, R.nN, rf_n _ _, a, rfl, ha, fun H1 s1 => .inl ⟨_, rfl, S_le la, ?_⟩⟩
      have e : rtx a b = dec a := by
        unfold rtx
        rw [if_pos hb1, List.append_nil]
      rw [← e]
      exact q _ s1
    · have hb1 : ¬ b = 1 := fun z => c (decide_eq_true (by rw [z]))
      refine ⟨_, rfl, p, C, dx, _, _, rfl, hp1, R.cl, R.nN, rf_n _ _, a, rfl, ha, fun H1 s1 => .inl ⟨_, rfl, S_le la, ?_⟩⟩
      obtain ⟨dx1, hp2⟩ := hp.same s1
      have e0 : Str.empty ++ S (dec a) = S (dec a) := by
        rw [show Str.empty = S [] from rfl, S_cat]
        rfl
      have e1 : Str.empty ++ S (dec a) ++ (Str.ofString "/") = S (dec a ++ [47]) := by
        rw [e0, show (Str.ofString "/") = S [47] by decide +kernel, S_cat]
      have e2 : Str.empty ++ S (dec a) ++ (Str.ofString "/") ++ S (dec b) = S (rtx a b) := by
        unfold rtx
        rw [if_neg hb1, e1, S_cat]
        simp
      have l2 : (rtx a b).length ≤ 403 := by
        unfold rtx
        rw [if_neg hb1, List.length_append, List.length_cons]
        omega
      refine ⟨_, rfl, by rw [e0]; exact S_le la, _, rfl, by rw [e1]; exact S_le (n := 500) (by rw [List.length_append]; show _ + 1 ≤ 500; omega), ?_⟩
      refine ⟨_, rfl, p, C, dx1, _, _, rfl, hp2, R.cl, R.nD, rf_d _ _, b, rfl, hb, fun H2 s2 => .inl ⟨_, rfl, S_le lb, _, rfl, by rw [e2]; exact S_le l2, ?_⟩⟩
      show Q (.str (Str.empty ++ S (dec a) ++ (Str.ofString "/") ++ S (dec b))) H2
      rw [e2]
      exact q _ (s1.trans s2)
theorem scCnt : FnScope ["digits"] ["digits"] (defScope sCnt) := ⟨rfl, rfl, rfl, by decide +kernel, rfl, by decide +kernel, by decide +kernel⟩
theorem ok_cnt {f : Addr} {fd : FuncData} (F : Fun K "is_count" "is_count" sCnt f fd) : FnOk P w K mg base CX0 1 f fd ["digits"] spCnt := by
  refine F.ok scCnt (fun vs H Q E h => ?_) (fun cdv A outer s H vs Q E hr h => ?_)
  · obtain ⟨l, rfl, _⟩ := h
    rfl
  · obtain ⟨l, rfl, hl, q⟩ := h
    refine ⟨_, pss_cons (ps_if (PW.pt (pw_or (pt_not (pt_val (pe_bm0 PySem.F.plainAttrs_str PySem.F.slot_str_isascii PySem.F.type_str_isascii mt_isascii (pv 0)))) (pw_or1 (pt_not (pt_val (pe_bm0 PySem.F.plainAttrs_str PySem.F.slot_str_isdigit PySem.F.type_str_isdigit mt_isdigit (pv 0))))))) (pss_one (ps_ret pe_bl)) pss_nil)
      (pss_one (ps_ret (pe_or (pe_cmpR op_eq (pv 0) pe_str (nomark _)) (pe_one (pe_not (pe_bm PySem.F.plainAttrs_str PySem.F.slot_str_startswith PySem.F.type_str_startswith mt_startswith (pv 0) (pa_cons pe_str pa_nil))))))), ?_⟩
    have hc := count_is l
    refine ⟨_, rfl, rfl, _, rfl, rfl, trivial, Txt.isascii (S l), rfl, ?_⟩
    cases hA : Txt.isascii (S l)
    · have e : cntB l = false := by
        unfold cntB
        rw [← hc, hA]
        rfl
      refine iteT ?_
      rw [← e]
      exact q
    refine iteF ⟨_, rfl, rfl, _, rfl, rfl, trivial, Txt.isdigit (S l), rfl, ?_⟩
    cases hD : Txt.isdigit (S l)
    · have e : cntB l = false := by
        unfold cntB
        rw [← hc, hA, hD]
        rfl
      refine iteT ?_
      rw [← e]
      exact q
    have e : cntB l = (decide (l = [48]) || !decide (l.head? = some 48)) := by
      unfold cntB
      rw [← hc, hA, hD]
      rfl
    refine iteF ⟨_, rfl, rfl, _, rfl, ?_⟩
    have e0 : (Str.ofString "0") = S [48] := by decide +kernel
    have e5 : decide (V.str (S l) = V.str (Str.ofString "0")) = decide (l = [48]) := by
      rw [e0]
      by_cases h : l = [48]
      · subst h
        simp
      · rw [decide_eq_false h, decide_eq_false (fun z => h (S_inj (V.str.inj z)))]
    rw [e5]
    by_cases h : l = [48]
    · rw [decide_eq_true h] at e ⊢
      refine iteT ?_
      show Q (.bl true) H
      rw [show (true : Bool) = cntB l by rw [e]; rfl]
      exact q
    · rw [decide_eq_false h] at e ⊢
      refine iteF ⟨_, rfl, rfl, _, _, rfl, rfl, _, rfl, ?_⟩
      rw [e0, starts_one]
      rw [e] at q
      exact q
end
end Ind

set_option Elab.async false
set_option linter.all false
set_option maxRecDepth 100000
set_option maxHeartbeats 4000000
namespace Ind
open PySem PySem.Spec PyProof.Rows L2
/-! ### super().__init__(..) of an own exception over ValueError -/
theorem mw_call {X : Cx} {pins : List (Addr × Obj)} {σ : L2.St} {H : Hp} {s : Shared} {a u C : Addr} {us : List Value} {Q : Value → Shared → Prop} {E : Value → Shared → Prop} {A : Around} (T : OexC X.K C) (I : Inv X pins σ H s)
    (hu : s.heap.get? u = some (PySem.W.kxs_mw "ValueError.__init__" a)) (e : H a = some (exo a C none)) (hl : us.length ≤ sizeLine) (h : ∀ s', Inv X pins σ H s' → Q .none s') : wpAny (model X.prog X.w) A (call (.ref u) us) Q E s := by
  obtain ⟨nm, q, N, bs, bm, sn, sub, ab, col, dd, k0, k1, k2, k3, k5, hC, hbm⟩ := T.cls
  obtain ⟨t1, ho⟩ := exo_at I.hok e
  obtain ⟨hp, g, d, t, os⟩ := s
  have fin : ∀ (h' : Heap) (t2 : Addr), (∀ b o, b ≠ a → hp.get? b = some o → h'.get? b = some o) → h'.get? a = some ({ cls := .ref C, dict := none, data := .fields #[.ref t2, .none, .none, .none, .bool false, .none] } : Obj) → Q .none ⟨h', g, d, t, os⟩ := fun h' t2 k hx => by
    have J := I.write (t' := t) (x := a) (e := a) (o := exo a C none) (by rw [e]; exact True.intro) (.inl rfl) k ⟨_, hx⟩ (exo_ok hx)
    have eu : upd H a (exo a C none) = H := by
      funext b
      by_cases hb : b = a
      · rw [hb, upd_same, e]
      · rw [upd_ne hb]
    rw [eu] at J
    exact h _ J
  refine wpAny_call (codeAny_of_tree ?_)
  show wpAny _ A.in1 (callAny (.ref u) ⟨us, []⟩) _ _ _
  simp only [callAny]
  refine wpAny_bind (wpAny_load hu ?_)
  simp only [PySem.W.kxs_mw, show (Value.type "method-wrapper" == Value.type "method" || Value.type "method-wrapper" == Value.type "builtin_function_or_method" || Value.type "method-wrapper" == Value.type "method-wrapper") = true by decide, if_true]
  refine PySem.W.KFB.if_so (by decide) ?_
  refine wpAny_bind (PySem.W.check_bound_init (PySem.F.excBase_ValueError).toExcCallFacts (I.kIn _ _ hC) ho rfl ?_)
  refine wpAny_bind (wpAny_pure (wpAny_pure ?_))
  refine ⟨PySem.plainId_quiet PySem.F.excBase_ValueError.init.plain _, codeAny_builtin PySem.F.excBase_ValueError.initEntry ?_⟩
  exact PySem.W.exc_init_tree (cls := .ref C) (t0 := t1) (dv := none) (c2 := .none) (c3 := .none) (b4 := .bool false) ho hl fun h' k e' _ => fin h' _ k e'
theorem kept_inv {X : Cx} {pins : List (Addr × Obj)} {σ : L2.St} {H : Hp} {s : Shared} {h' : Heap} (t' : Nat) (I : Inv X pins σ H s) (k : ∀ b o, s.heap.get? b = some o → h'.get? b = some o) : Inv X pins σ H { s with heap := h', toks := t' } :=
  I.un (t' := t') (Un.kept k) (I.hok.kept k)
theorem add_pin {X : Cx} {pins : List (Addr × Obj)} {σ : L2.St} {H : Hp} {s : Shared} {u : Addr} {o : Obj} {n : Nat} (I : Inv X pins σ H s) (hu : s.heap.get? u = some o) (hn : H u = none) (hL : u ≠ X.env.locals) (hf : u ∉ X.fs) (hd : ∀ v, o.data ≠ .cell v) : Inv X ((u, o) :: pins) σ H s :=
  ⟨I.ok, I.os, I.bare, I.base, I.loc, I.cell, I.free, I.freeC, fun p hp => by
    rcases List.mem_append.mp hp with h | h
    · exact I.pin p (List.mem_append_left _ h)
    · rcases List.mem_cons.mp h with rfl | h
      · exact ⟨hu, hn, hL, hf, hd⟩
      · exact I.pin p (List.mem_append_right _ h), I.hok, I.len⟩
theorem less_pin {X : Cx} {pins : List (Addr × Obj)} {σ : L2.St} {H : Hp} {s : Shared} {p : Addr × Obj} (I : Inv X (p :: pins) σ H s) : Inv X pins σ H s :=
  ⟨I.ok, I.os, I.bare, I.base, I.loc, I.cell, I.free, I.freeC, fun q hq => I.pin q (by
    rcases List.mem_append.mp hq with h | h
    · exact List.mem_append_left _ h
    · exact List.mem_append_right _ (List.mem_cons_of_mem _ h)), I.hok, I.len⟩
theorem kxs_cw {M : Model} {A : Around} {E : Value → Shared → Prop} {s : Shared} {i : String} {x u : Addr} {pos : Pos} {env : Env} {e : Expr} {rest : List Expr} {Q : Value → Shared → Prop}
    (he : starEach (e :: rest) env = (false, eval e env) :: starEach rest env) (hplain : (backTo pos (starEach rest env)).any (·.1) = false)
    (h : wpAny M A (spliced (backTo pos (starEach (e :: rest) env))) (fun vs s₁ => PySem.W.KxsAt i u x s₁.heap ∧ wpAny M A (call (.ref u) vs) Q E s₁) E s) :
    wpAny M A (callWith pos (.ref u) [] (backTo pos (starEach (e :: rest) env)) []) Q E s := by
  rw [he] at h ⊢
  refine PySem.W.kxs_callWith (i := i) (x := x) (by show (false || (backTo pos (starEach rest env)).any (·.1)) = false; rw [hplain]; rfl) ?_
  exact PySem.Calls.evalArgs_plain h
/-- what the text and the written part say of a def whose first row is super().__init__(..): class D over ValueError -/
structure SupD (P : Program) (K : PySem.W.Frag) (mg : Str → Option Value) (name qual : Str) (params : Arguments) (body : List Stmt) (scope : Scope) (D cc cda f : Addr) (fd : FuncData) (slf : Str) : Prop where
  ex : ∃ (oc : Value) (od : Option Addr) (dV kV doc pm : Value) (an : Option Addr) (ct : Value) (osl : Array (Option Value)),
    fd = PySem.W.fnX name qual params body scope [("__class__", cc)] dV kV doc pm an (.ref cda) ct ∧ K.lookup f = some ⟨oc, od, .func fd, osl⟩
  code : PySem.W.codeIn K (.ref cda) qual = true
  file : ∃ (ccl : Value) (cdd : Option Addr) (vs : Array Value) (ccs : Array (Option Value)) (fl : Str) (tf : Tok), K.lookup cda = some ⟨ccl, cdd, .fields vs, ccs⟩ ∧ vs[2]? = some (.str fl tf) ∧ ((P.main.file : Str) == fl) = true
  cell : ∃ (cl : Value) (cld : Option Addr) (csl : Array (Option Value)), K.lookup cc = some ⟨cl, cld, .cell (some (.ref D)), csl⟩
  head : ∃ ar : Arg, (params.posonlyargs ++ params.args).head? = some ar ∧ ar.arg = slf
  T : OexC K D
  mro : PySem.W.mroIn K D (.ref D) = some true
  sup : PySem.W.ks_superIn K D D "__init__" = some (some (.builtin "ValueError.__init__"))
  sub : PySem.W.subIn K (.ref D) (.type "ValueError") = some true
  st : PySem.W.nsIn K cStatics "thirdparty.any" = some none
  top : (P.main.scope.names.lookup ("super" : Str)).isSome = false
  none : mg "super" = none
/-- .. its scope -/
structure SupS (slf : Str) (scope : Scope) : Prop where
  sup : scope.names.lookup ("super" : Str) = some .globalImplicit
  cls : scope.names.lookup ("__class__" : Str) = some .free
  me : scope.names.lookup slf = some .local
section
variable {CX : CXT} {P : Program} {w : World} {K : PySem.W.Frag} {mg : Str → Option Value} {base : Heap} {k : Nat} {f D cc cda : Addr} {fd : FuncData} {name qual slf : Str} {params : Arguments} {scope : Scope} {N ps : List Str} {sp : Sp} {e0 : Expr} {es : List Expr} {rest : List Stmt} {p0 p1 p2 p3 p4 : Pos}
abbrev nfOf (name qual : Str) (params : Arguments) (body : List Stmt) (scope : Scope) (cc cda : Addr) : NdefX.NF := ⟨name, qual, params, body, scope, [("__class__", cc)], cda⟩
theorem boot_super : bootBuiltins "super" = some (.type "super") := by first | rfl | kernel_rfl | decide +kernel
theorem ok_super {body : List Stmt} (hbd : body = .Expr (.Call (.Attribute (.Call (.Name "super" p0) [] [] p1) "__init__" p2) (e0 :: es) [] p3) p4 :: rest)
    (F : SupD P K mg name qual params body scope D cc cda f fd slf) (S : NdefX.NScope N ps ["__class__"] scope) (S2 : SupS slf scope) (hps : ps[0]? = some slf) (hN0 : N[0]? = some slf)
    (len : ∀ vs H Q E, sp vs H Q E → vs.length = ps.length)
    (he : ∀ env : Env, starEach (e0 :: es) env = (false, eval e0 env) :: starEach es env) (hpl : ∀ env : Env, (backTo p3 (starEach es env)).any (·.1) = false)
    (hcall : ∀ env : Env, eval (.Call (.Attribute (.Call (.Name "super" p0) [] [] p1) "__init__" p2) (e0 :: es) [] p3) env = (do
      let ov ← attributeBase (.Call (.Name "super" p0) [] [] p1) "__init__" env (eval (.Call (.Name "super" p0) [] [] p1) env)
      standAt p2.atName
      let (g, first) ← holding [ov] (getMethod ov "__init__" (pure false))
      callWith p3 g first (backTo p3 (starEach (e0 :: es) env)) []))
    (hbody : ∀ (A : Around) (outer : List Env) (s : Shared) (H : Hp) (vs : List V) (Q : VK) (E : XK), Room k (A.deeper (NdefX.envF (nfOf name qual params body scope cc cda) f s.heap.objs.size)) → sp vs H Q E →
      ∃ (a : Addr) (ws : List V) (ta : TA) (t : TS), vs = .ref a :: ws ∧ H a = some (exo a D none) ∧ PA (NdefX.ncx CX P w K mg base N (nfOf name qual params body scope cc cda) f A outer s H E) (e0 :: es) ta ∧
        PSs (NdefX.ncx CX P w K mg base N (nfOf name qual params body scope cc cda) f A outer s H E) rest t ∧
        ta (NdefX.startF N vs [none]) H fun us H1 => us.length ≤ 1000 ∧ H1 a = some (exo a D none) ∧ t { nx := fun _ H' => Q .non H', rt := Q } (NdefX.startF N vs [none]) H1) :
    FnOk P w K mg base CX (k + 1) f fd ps sp := by
  refine ⟨len, fun A outer s H args us vs Q E hr e0' hb r hsp => ?_⟩
  obtain ⟨oc, od, dV, kV, doc, pm, an, ct, osl, rfl, lk⟩ := F.ex
  obtain ⟨ccl, cdd, cvs, ccs, fl, tf, lkc, hfl, hfile⟩ := F.file
  obtain ⟨cl, cld, csl, lkcc⟩ := F.cell
  obtain ⟨ar, har, hself⟩ := F.head
  have hl := len _ _ _ _ hsp
  have KX : K.In s.heap := e0'.mod.kin.keeps fun b o e => (e0'.bs b o e).1
  have lim : s.heap.NoLimit := e0'.mod.nolimit.keeps fun b o e => (e0'.bs b o e).1
  refine PySem.ks_codeAny_call_defAt (fd := PySem.W.fnX name qual params body scope [("__class__", cc)] dV kV doc pm an (.ref cda) ct) (body := body) (binds := ps.zip us) hr.depth (KX _ _ lk) rfl lim (PySem.W.codeRec_of KX F.code) rfl hb S.nocell
    (fun ⟨n, _⟩ hy => S.par n (List.of_mem_zip hy).1) (fun h₁ hns kp => ?_) S.co S.gen S.kind
  obtain ⟨a, ws, ta, t, rfl, ha, hta, ht, hq⟩ := hbody A outer s H vs Q E (hr.deeper _) hsp
  have baseCC : base.get? cc = some ⟨cl, cld, .cell (some (.ref D)), csl⟩ := e0'.mod.kin _ _ lkcc
  have C : NdefX.CellsAt [("__class__", cc)] ["__class__"] [none] s.heap H := ⟨rfl, fun y c e => by
      have hy : y = "__class__" ∧ c = cc := by
        by_cases h : y = ("__class__" : Str)
        · subst h
          simp [List.lookup] at e
          exact ⟨rfl, e.symm⟩
        · have h' : (y == ("__class__" : Str)) = false := by simpa using h
          simp [List.lookup, h'] at e
      obtain ⟨rfl, rfl⟩ := hy
      exact ⟨(e0'.bs _ _ baseCC).2, _, _, (e0'.bs _ _ baseCC).1, rfl⟩, fun x y c e1 e2 => by
      have hx : ∀ z : Str, List.lookup z [(("__class__" : Str), cc)] = some c → z = "__class__" := fun z e => by
        by_cases h : z = ("__class__" : Str)
        · exact h
        · have h' : (z == ("__class__" : Str)) = false := by simpa using h
          simp [List.lookup, h'] at e
      rw [hx x e1, hx y e2], fun i y e => by
      match i, e with
      | 0, e =>
        have e : y = "__class__" := by
          have z : some ("__class__" : Str) = some y := e
          exact (Option.some.inj z).symm
        subst e
        exact ⟨cc, rfl, fun v hv => by cases hv⟩
      | i + 1, e => cases e⟩
  have I : Inv (NdefX.ncx CX P w K mg base N (nfOf name qual params body scope cc cda) f A outer s H E) [] (NdefX.startF N (.ref a :: ws) [none]) H { s with heap := h₁, toks := s.toks + (ps.zip us).length } := NdefX.inv_startN S hr.hd e0' hl r C hns kp
  have fin : ∀ {σ' : L2.St} {H' : Hp} {v : V} {u : Value} {s' : Shared}, Inv (NdefX.ncx CX P w K mg base N (nfOf name qual params body scope cc cda) f A outer s H E) [] σ' H' s' → L2.RelV v u → Q v H' → CE outer P w H s Q u s' :=
    fun {σ' H' v u s'} J rv q => ⟨v, H', J.os, J.bare, J.base, J.hok, rv, q⟩
  refine PySem.ks_wpAt_mono (Q := SP (NdefX.ncx CX P w K mg base N (nfOf name qual params body scope cc cda) f A outer s H E) [] { nx := fun _ H' => Q .non H', rt := Q }) ?_ (fun fl s' hs => ?_) (fun e s' hs => hs)
  rotate_left
  · cases fl with
    | ret u =>
      obtain ⟨v, σ', H', J, rv, q⟩ := hs
      exact fin J rv q
    | next =>
      obtain ⟨σ', H', J, q⟩ := hs
      exact fin (v := V.non) (u := Value.none) J rfl q
    | brk =>
      obtain ⟨_, _, _, q⟩ := hs
      exact False.elim q
    | cont =>
      obtain ⟨_, _, _, q⟩ := hs
      exact False.elim q
  subst hbd
  obtain ⟨nm, qq, NN, bs, bm, sn, sub, ab, col, dd, k0, k1, k2, k3, k5, hDk, hbm⟩ := F.T.cls
  have hcl : PySem.W.clsIn K D = some { name := nm, bases := bs, mro := .ref D :: bm, ns := NN, qualname := qq, hasDict := true, slotNames := sn, subclasses := sub, abstract := ab, collection := col, hasDel := false } := by unfold PySem.W.clsIn; rw [hDk] <;> rfl
  obtain ⟨t1, ho⟩ := exo_at I.hok ha
  obtain ⟨m, hn, hlk⟩ := id I.loc
  obtain ⟨u0, ru, hlook⟩ := hlk 0 slf (.ref a) hN0 rfl (.inl S2.me)
  obtain rfl : u0 = Value.ref a := ru
  have hv : m slf = some (.ref a) := by
    rcases hlook with ⟨_, z⟩ | ⟨z, _⟩
    · exact z
    · have z : scope.names.lookup slf = some .cell ∨ scope.names.lookup slf = some .free := z
      rw [S2.me] at z
      rcases z with z | z <;> cases z
  obtain ⟨mb, hmb, hbb⟩ := I.ok.mod.blt
  have hint : ∀ (doc pm : Value), interactive (callEnv (PySem.W.fnX name qual params (.Expr (.Call (.Attribute (.Call (.Name "super" p0) [] [] p1) "__init__" p2) (e0 :: es) [] p3) p4 :: rest) scope [("__class__", cc)] dV kV doc pm an (.ref cda) ct) s.heap.objs.size f) = false := fun doc pm => by
    show (scope.kind == .module && _) = false
    rw [S.kind]
    rfl
  refine PySem.ks_wpAt_execs_cons (PySem.ks_wpAt_Expr_any (PySem.ks_wpAt_MethodCall (pl := pure false) ?_ (hcall _)) (hint _ _) rfl)
  refine PySem.ks_wpAt_super_base (env := NdefX.envF (nfOf name qual params (.Expr (.Call (.Attribute (.Call (.Name "super" p0) [] [] p1) "__init__" p2) (e0 :: es) [] p3) p4 :: rest) scope cc cda) f s.heap.objs.size) S2.sup S2.cls rfl rfl (I.kIn _ _ lk) rfl har rfl (I.kIn _ _ lkc) rfl hfl hfile F.top ?_
  refine PySem.W.ks_loadName_global S.kind S2.sup (PySem.Calls.loadGlobal_builtin (I.mod.glob.keeps I.bk) F.none (hmb.keeps I.bk) ((hbb _ (by decide +kernel)).trans boot_super) ⟨rfl, ?_⟩)
  refine wpAny_loadName_free S.kind S2.cls rfl ⟨_, I.kIn _ _ lkcc, rfl⟩ ?_
  rw [hself]
  refine wpAny_loadName_local S.kind S2.me hn hv ?_
  refine PySem.ks_wpAny_isType_cls (I.kIn _ _ hDk) rfl ⟨rfl, ?_⟩
  refine PySem.ks_wpAny_call_super (I.kIn _ _ hDk) rfl ho rfl (fun c e => by cases e) (PySem.W.looks_mroIn I.kIn F.mro) (fun h2 hso k2' => ?_)
  have I2 := kept_inv (h' := h2) (s.toks + (ps.zip us).length) I k2'
  have hI : PySem.W.InstAt h2 a { cls := .ref D, dict := none, data := .fields #[.ref t1, .none, .none, .none, .bool false, .none] } D none := ⟨k2' _ _ ho, rfl, rfl, trivial⟩
  have hsup := F.sup
  unfold PySem.W.ks_superIn at hsup
  rw [hcl] at hsup
  refine PySem.W.kxs_getMethod PySem.W.kxs_ValueError hso (PySem.W.looks_opaque I2.kIn F.st) (l₀ := .ref D :: bm) ((PySem.W.looks_clsIn I2.kIn hcl).andThen .now) rfl I2.kIn hsup (hI.type.andThen (PySem.W.looks_subIn I2.kIn F.sub)) (PySem.W.ks_ne I2.kIn hI hcl) (by decide) ?_
  have hmw : (h2.push (PySem.W.kxs_mw "ValueError.__init__" a)).get? h2.objs.size = some (PySem.W.kxs_mw "ValueError.__init__" a) := Heap.get?_push_at rfl rfl
  have I3 := kept_inv (h' := h2.push (PySem.W.kxs_mw "ValueError.__init__" a)) (s.toks + (ps.zip us).length + 1) I2 (fun b o e => Heap.get?_push_of_some _ e)
  have I4 := add_pin (u := h2.objs.size) (n := 0) I3 hmw (I2.hok.fresh (Nat.le_refl _)) (Nat.ne_of_gt I2.lt) (I2.nofs (Nat.le_refl _)) (fun v z => by cases z)
  show wpAny _ _ (callWith p3 (.ref h2.objs.size) [] (backTo p3 (starEach (e0 :: es) _)) []) _ _ _
  refine kxs_cw (i := "ValueError.__init__") (x := a) (he _) (hpl _) ?_
  refine thn (hta.run p3 _ _ _ H _ I4 hq) fun us2 s5 ⟨vs5, H5, I5, r5, hl5, ha5, q5⟩ => ?_
  have pin5 := (I5.pin (h2.objs.size, PySem.W.kxs_mw "ValueError.__init__" a) (List.mem_append_right _ List.mem_cons_self)).1
  refine ⟨pin5, ?_⟩
  refine mw_call F.T I5 pin5 ha5 ?_ fun s6 I6 => ?_
  · rw [← Paired.length r5, sizeLine_eq]
    omega
  · exact PySem.wpAt_of_wpAny (ht.run [] s6 _ H5 _ (less_pin I6) q5)
end
end Ind

set_option Elab.async false
set_option linter.all false
set_option maxRecDepth 100000
set_option maxHeartbeats 4000000
namespace Ind
open PySem PySem.Spec PyProof.Rows L2 SX
abbrev sNt : Stmt := inClass (top 5) 0
def spNt (D : Addr) : Sp := fun vs H Q _ => ∃ (a : Addr) (n : Int), vs = [.ref a, .int n] ∧ H a = some (exo a D none) ∧ n.natAbs.log2 < 1920 ∧ ((Str.ofString (toString n)).length ≤ 10000) ∧
  ∀ dx, H dx = none → dx ≠ a → Q .non (upd (upd H dx (exd dx [("at", .int n)])) a (exo a D (some dx)))
section
variable {P : Program} {w : World} {K : PySem.W.Frag} {mg : Str → Option Value} {base : Heap} {D cc cda : Addr}
theorem nsNt : NdefX.NScope ["self", "at", "__class__"] ["self", "at"] ["__class__"] (defScope sNt) := NdefX.nscope_by (by decide +kernel)
theorem ok_nt {f : Addr} {fd : FuncData} (F : SupD P K mg "__init__" "NoText.__init__" (defArgs sNt) (defBody sNt) (defScope sNt) D cc cda f fd "self") (hno : PySem.W.findIn K (.ref D) "at" = some none) :
    FnOk P w K mg base CX0 1 f fd ["self", "at"] (spNt D) := by
  refine ok_super (k := 0) (N := ["self", "at", "__class__"]) (hbd := rfl) F nsNt ⟨rfl, rfl, rfl⟩ rfl rfl (fun vs H Q E h => ?_) (fun _ => rfl) (fun _ => rfl) (fun _ => rfl) (fun A outer s H vs Q E hr h => ?_)
  · obtain ⟨a, n, rfl, _⟩ := h
    rfl
  · obtain ⟨a, n, rfl, ha, hn, hl, k⟩ := h
    refine ⟨a, [.int n], _, _, rfl, ha, pa_cons (pe_joined (.cons pe_str (.cons (pe_fmt (pv 1)) .nil))) pa_nil, pss_one (ps_ost (pv 0) (pv 1)), ?_⟩
    refine ⟨_, rfl, ?_, _, rfl, .inr ⟨n, rfl, hn, _, rfl, ?_, ?_⟩⟩
    · decide +kernel
    · rw [PySem.Str.length_append]
      have h1 : (Str.empty ++ Str.ofString "no text, see position ").length ≤ 100 := by decide +kernel
      have h2 : (20000 : Nat) ≤ sizeLine := by decide
      omega
    · exact ⟨(by show 1 ≤ 1000; decide), ha, _, rfl, _, rfl, a, D, rfl, F.T, hno, .inl ⟨ha, k⟩⟩
end
end Ind

set_option Elab.async false
set_option linter.all false
set_option maxRecDepth 100000
set_option maxHeartbeats 4000000
set_option exponentiation.threshold 3000
namespace Ind
open PySem PySem.Spec PyProof.Rows L2 SX
open Builtin.Int (intBits)
open PySem.NumText (AllDigits digitsVal)
theorem rg_down {L : Nat} (h : L ≤ 1000) : RgC (L : Int) 0 (-64) ((L + 63) / 64) := by
  have e : Builtin.Range.rangeSize (L : Int) 0 (-64) = (((L + 63) / 64 : Nat) : Int) := by
    unfold Builtin.Range.rangeSize
    simp only [show ¬ ((-64 : Int) > 0) by decide, if_false, show (-(-64) : Int) = 64 from rfl]
    split <;> omega
  refine ⟨by decide, by decide, ?_, e⟩
  unfold Builtin.Range.small
  rw [e]
  simp only [Builtin.Range.rangeFitsLong, Bool.and_eq_true, Bool.or_eq_true, decide_eq_true_eq, beq_iff_eq, show ¬ ((-64 : Int) > 0) by decide, if_false]
  omega
theorem rg_up {L : Nat} (h : L ≤ 1000) : RgC 0 (L : Int) 2 ((L + 1) / 2) := by
  have e : Builtin.Range.rangeSize 0 (L : Int) 2 = (((L + 1) / 2 : Nat) : Int) := by
    unfold Builtin.Range.rangeSize
    rw [if_pos (by decide)]
    split <;> omega
  refine ⟨by decide, by decide, ?_, e⟩
  have fit : ∀ z : Int, -10000 ≤ z → z ≤ 10000 → Builtin.Range.rangeFitsLong z = true := fun z h1 h2 => by
    unfold Builtin.Range.rangeFitsLong
    rw [Bool.and_eq_true, decide_eq_true_eq, decide_eq_true_eq]
    omega
  unfold Builtin.Range.small
  rw [e, fit 0 (by decide) (by decide), fit (L : Int) (by omega) (by omega), fit 2 (by decide) (by decide), fit _ (by omega) (by omega), if_pos (by decide), fit ((L : Int) + (2 - 1)) (by omega) (by omega)]
  simp
/-- what a list of parts is worth, the smallest part first -/
def ev (B : Nat) : List Nat → Nat
  | [] => 0
  | p :: ps => p + B * ev B ps
theorem ev_app (B : Nat) : ∀ (xs ys : List Nat), ev B (xs ++ ys) = ev B xs + B ^ xs.length * ev B ys
  | [], ys => by simp [ev]
  | p :: xs, ys => by
    rw [List.cons_append, ev, ev, ev_app B xs ys, List.length_cons, Nat.mul_add, Nat.pow_succ]
    have : B * (B ^ xs.length * ev B ys) = B ^ xs.length * B * ev B ys := by ac_rfl
    omega
theorem ev_one (B p : Nat) : ev B [p] = p := by simp [ev]
theorem ev_zero (B : Nat) (xs : List Nat) : ev B (xs ++ [0]) = ev B xs := by
  rw [ev_app, ev_one]
  simp
/-- one more pair -/
theorem ev_pair {B : Nat} {zs xs : List Nat} {i x y : Nat} (h : ev (B * B) zs = ev B (xs.take (2 * i))) (hl : zs.length = i) (hx : xs[2 * i]? = some x) (hy : xs[2 * i + 1]? = some y) :
    ev (B * B) (zs ++ [x + B * y]) = ev B (xs.take (2 * (i + 1))) := by
  have e : xs.take (2 * (i + 1)) = xs.take (2 * i) ++ [x, y] := by
    rw [show 2 * (i + 1) = 2 * i + 1 + 1 by omega, List.take_add_one, List.take_add_one, hx, hy]
    simp
  have hlen : (xs.take (2 * i)).length = 2 * i := by
    have := (List.getElem?_eq_some_iff.mp hx).1
    rw [List.length_take]
    omega
  rw [e, ev_app, ev_app, ev_one, h, hl, hlen]
  have e2 : ev B [x, y] = x + B * y := by simp [ev]
  rw [e2, Nat.mul_pow, ← Nat.pow_add, Nat.two_mul]
/-- one more block of a text -/
theorem ev_block {B : Nat} (hB : B = 10 ^ 64) {l : List Nat} {zs : List Nat} {i : Nat} (h : digitsVal l = ev B zs + B ^ i * digitsVal (l.take (l.length - 64 * i))) (hl : zs.length = i) (hi : 64 * i < l.length) :
    digitsVal l = ev B (zs ++ [digitsVal ((l.drop (l.length - 64 * (i + 1))).take (l.length - 64 * i - (l.length - 64 * (i + 1))))]) + B ^ (i + 1) * digitsVal (l.take (l.length - 64 * (i + 1))) := by
  have e : l.take (l.length - 64 * i) = l.take (l.length - 64 * (i + 1)) ++ (l.drop (l.length - 64 * (i + 1))).take (l.length - 64 * i - (l.length - 64 * (i + 1))) := by
    have hs : l.length - 64 * i = (l.length - 64 * (i + 1)) + (l.length - 64 * i - (l.length - 64 * (i + 1))) := by omega
    conv => lhs; rw [hs]
    rw [List.take_add]
  rw [ev_app, ev_one, hl]
  generalize hc : (l.drop (l.length - 64 * (i + 1))).take (l.length - 64 * i - (l.length - 64 * (i + 1))) = c at e ⊢
  have hcl : c.length = l.length - 64 * i - (l.length - 64 * (i + 1)) := by
    rw [← hc, List.length_take, List.length_drop]
    omega
  rw [e, digitsVal_app] at h
  by_cases hz : l.length ≤ 64 * (i + 1)
  · have z : l.length - 64 * (i + 1) = 0 := by omega
    rw [z] at h ⊢
    have d0 : digitsVal (l.take 0) = 0 := rfl
    rw [d0] at h ⊢
    rw [Nat.zero_mul, Nat.zero_add] at h
    rw [Nat.mul_zero]
    exact h
  · have z : c.length = 64 := by omega
    rw [z, ← hB] at h
    rw [h, Nat.pow_succ, Nat.mul_add]
    have : B ^ i * (digitsVal (l.take (l.length - 64 * (i + 1))) * B) = B ^ i * B * digitsVal (l.take (l.length - 64 * (i + 1))) := by ac_rfl
    omega
theorem cut_nat (l : List Nat) {a b : Nat} (hab : a ≤ b) (hb : b ≤ l.length) : cutS (S l) (some (a : Int)) (some (b : Int)) = S ((l.drop a).take (b - a)) := by
  unfold cutS
  rw [HT.sIx_nat, HT.sIx_nat, S_len, Nat.min_eq_left (Nat.le_trans hab hb), Nat.min_eq_left hb]
end Ind

set_option Elab.async false
set_option linter.all false
set_option maxRecDepth 100000
set_option maxHeartbeats 4000000
set_option exponentiation.threshold 3000
namespace Ind
open PySem PySem.Spec PyProof.Rows L2 SX
open Builtin.Int (intBits)
open TL (numL)
open PySem.NumText (AllDigits digitsVal)
def spNumOf : Sp := fun vs H Q _ => ∃ l : List Nat, vs = [.str (S l)] ∧ AllDigits l ∧ l ≠ [] ∧ l.length ≤ 300 ∧ ∀ H' : Hp, Same H H' → Q (.int ((digitsVal l : Nat) : Int)) H'
def Ints (ns : List Nat) : List V := ns.map fun n : Nat => V.int (n : Int)
section
variable {P : Program} {w : World} {K : PySem.W.Frag} {mg : Str → Option Value} {base : Heap} {C Z : Addr}
abbrev nNum : List Str := ["digits", "parts", "base", "end", "k"]
theorem scNum : FnScope nNum ["digits"] (defScope sNum) := ⟨rfl, rfl, rfl, by decide +kernel, rfl, by decide +kernel, by decide +kernel⟩
theorem Ints_app (xs : List Nat) (z : Nat) : Ints xs ++ [V.int (z : Int)] = Ints (xs ++ [z]) := by
  unfold Ints
  rw [List.map_append]
  rfl
theorem Ints_len (xs : List Nat) : (Ints xs).length = xs.length := List.length_map ..
def muNum (σ : L2.St) (H : Hp) : Nat := match σ[1]? with
  | some (some (V.ref p)) => (match H p with
    | some (.lst ys) => ys.length
    | _ => 0)
  | _ => 0
theorem muNum_at {H : Hp} {p : Addr} {ys : List V} {o1 o2 o3 o4 : Option V} (h : H p = some (.lst ys)) : muNum [o1, some (V.ref p), o2, o3, o4] H = ys.length := by
  show (match H p with | some (.lst ys) => ys.length | _ => 0) = ys.length
  rw [h]
theorem ok_num {f : Addr} {fd : FuncData} (F : Fun K "number_of" "number_of" sNum f fd) (T : TxL K mg) (G : TxP mg) : FnOk P w K mg base CX0 1 f fd ["digits"] spNumOf := by
  obtain ⟨vP, gP, rP⟩ := G.part
  obtain ⟨vD, gD, rD⟩ := G.dig
  refine F.ok scNum (fun vs H Q E h => ?_) (fun cdv A outer s H vs Q E hr h => ?_)
  · obtain ⟨l, rfl, _⟩ := h
    rfl
  · obtain ⟨l, rfl, hd, hne, hl, q⟩ := h
    refine ⟨_, pss_cons (ps_set (i := 1) scNum.nd rfl (Or.inr rfl) (pe_lc (own := [("end", 3)]) (g := gName 3) (tt := tYes) rfl scNum.nd
        (pi_range3 (by rfl) T.range (pa_cons (pe_callB call_len_str (by rfl) T.len PySem.boot_len (pa_cons (pv 0) pa_nil)) (pa_cons pe_int (pa_cons (pe_un un_neg (pe_glob rfl gD rD)) pa_nil)))) (blkOk_by (N := nNum) (sc := defScope sNum) (by decide +kernel))
          (fun _ _ _ _ _ => pg_name (i := 3) scNum.nd rfl (Or.inl rfl)) (fun _ _ _ _ _ => pts_nil)
          (fun _ _ _ _ _ => pe_callTy call_int_str (by rfl) T.int (by decide +kernel) (pa_cons (pe_slice sl_str (pv 0) (po_some (pe_callB (call_max2 rfl) (by rfl) G.max (by decide +kernel) (pa_cons pe_int (pa_cons (pe_op op_sub (pv 3) (pe_glob rfl gD rD)) pa_nil)))) (po_some (pv 3))) pa_nil))))
      (pss_cons (ps_set (i := 2) scNum.nd rfl (Or.inr rfl) (pe_glob rfl gP rP))
      (pss_cons (ps_while PassesOwn.never (pt_cmpR op_gt (pe_callB call_len_seq (by rfl) T.len PySem.boot_len (pa_cons (pv 1) pa_nil)) pe_int (nomark _))
        (C8.pss_cut (ps_if (pt_cmpR op_eq (pe_op op_modN (pe_callB call_len_seq (by rfl) T.len PySem.boot_len (pa_cons (pv 1) pa_nil)) pe_int) pe_int (nomark _)) (pss_one (ps_expr (pe_bm PySem.F.plainAttrs_list PySem.F.slot_list_append PySem.F.type_list_append mt_append (pv 1) (pa_cons pe_int pa_nil)))) pss_nil)
        (pss_cons (ps_set (i := 1) scNum.nd rfl (Or.inr rfl) (pe_lc (own := [("k", 4)]) (g := gName 4) (tt := tYes) (te := tOp (rI0 fun i j => .int (i + j)) (tOp (rIxL K) (tVar 1) (tVar 4)) (tOp (rI (fun i j => intBits i + intBits j ≤ 134217728) fun i j => .int (i * j)) (tVar 2) (tOp (rIxL K) (tVar 1) (tOp (rI0 fun i j => .int (i + j)) (tVar 4) (tC (.int 1)))))) rfl scNum.nd
            (pi_range3 (by rfl) T.range (pa_cons pe_int (pa_cons (pe_callB call_len_seq (by rfl) T.len PySem.boot_len (pa_cons (pv 1) pa_nil)) (pa_cons pe_int pa_nil)))) (blkOk_by (N := nNum) (sc := defScope sNum) (by decide +kernel))
            (fun _ _ _ _ _ => pg_name (i := 4) scNum.nd rfl (Or.inl rfl)) (fun _ _ _ _ _ => pts_nil)
            (fun _ _ _ _ _ => pe_op op_add (pe_ix ix_list (pv 1) (pv 4) fun _ _ => rfl) (pe_op op_mulB (pv 2) (pe_ix ix_list (pv 1) (pe_op op_add (pv 4) pe_int) fun _ _ => rfl)))))
        (pss_one (ps_set (i := 2) scNum.nd rfl (Or.inr rfl) (pe_op op_mulB (pv 2) (pv 2)))))))
      (pss_one (ps_ret (pe_ix ix_list (pv 1) pe_int fun _ _ => rfl))))), ?_⟩
    have hL : l.length ≤ 1000 := by omega
    have lp : 0 < l.length := List.length_pos_iff.mpr hne
    refine ⟨_, rfl, _, rfl, ?_⟩
    rw [S_len]
    refine ⟨by have := S_le (l := l) hL (by decide); rw [S_len] at this; exact this, _, rfl, _, _, _, _, rfl, rg_down hL, fun D hD => lc_it walk_rangeC (fun i H2 => ∃ zs : List Nat, Same H H2 ∧ H2 D = some (.lst (Ints zs)) ∧ zs.length = i ∧ digitsVal l = ev (10 ^ 64) zs + (10 ^ 64) ^ i * digitsVal (l.take (l.length - 64 * i)) ∧ ∀ z ∈ zs, z < 10 ^ 64)
      ⟨[], same_upd hD, upd_same, rfl, ?_, fun z hz => nomatch hz⟩ (fun _ _ _ _ => trivial) ?_ ?_⟩
    · simp [ev]
    · rintro i x H2 H3 hi ⟨zs, s2, hLs, hzl, hev, hzb⟩ ⟨rfl, rfl⟩
      have hi2 : 64 * i < l.length := by omega
      have e3 : (l.length : Int) + (i : Int) * -64 = ((l.length - 64 * i : Nat) : Int) := by omega
      have e4 : (if (l.length : Int) + (i : Int) * -64 - 64 > 0 then (l.length : Int) + (i : Int) * -64 - 64 else 0) = ((l.length - 64 * (i + 1) : Nat) : Int) := by split <;> omega
      have hcs : ∀ c ∈ (l.drop (l.length - 64 * (i + 1))).take (l.length - 64 * i - (l.length - 64 * (i + 1))), 48 ≤ c ∧ c ≤ 57 := fun c hc => hd c (List.mem_of_mem_drop (List.mem_of_mem_take hc))
      have hcl : ((l.drop (l.length - 64 * (i + 1))).take (l.length - 64 * i - (l.length - 64 * (i + 1)))).length = l.length - 64 * i - (l.length - 64 * (i + 1)) := by
        rw [List.length_take, List.length_drop]
        omega
      refine ⟨rfl, _, rfl, _, rfl, _, _, rfl, rfl, _, _, rfl, ?_⟩
      rw [e4]
      refine ⟨_, rfl, _, rfl, _, rfl, _, rfl, S_le hL (by decide), ?_⟩
      rw [e3, cut_nat l (by omega) (by omega)]
      have hval := digitsVal_lt hcs
      refine ⟨_, _, rfl, int_S (List.all_eq_true.mpr fun c hc => by rw [Bool.and_eq_true, decide_eq_true_eq, decide_eq_true_eq]; exact hcs c hc) (fun z => ?_) (by rw [hcl]; omega), by rw [S_len, hcl]; omega, _, hLs, ?_, ?_⟩
      · have z2 := congrArg List.length z
        rw [hcl] at z2
        simp at z2
        omega
      · rw [Ints_len, hzl]
        exact Nat.lt_of_lt_of_le (Nat.lt_of_lt_of_le hi (show (l.length + 63) / 64 ≤ 1000 by omega)) (by decide)
      · rw [Ints_app]
        refine ⟨zs ++ [_], fun c o e => ?_, upd_same, by rw [List.length_append, hzl]; rfl, ev_block rfl hev hzl hi2, fun z hz => ?_⟩
        · rw [upd_ne (ne_of_none e hD)]
          exact s2 c o e
        · rcases List.mem_append.mp hz with h | h
          · exact hzb z h
          · rw [List.mem_singleton.mp h]
            refine Nat.lt_of_lt_of_le hval (Nat.pow_le_pow_right (by decide) (by rw [hcl]; omega))
    · rintro H2 ⟨zs, s2, hLs, hzl, hev, hzb⟩
      have hv : digitsVal l = ev (10 ^ 64) zs := by
        rw [hev, show l.length - 64 * ((l.length + 63) / 64) = 0 by omega]
        show _ + _ * 0 = _
        rw [Nat.mul_zero, Nat.add_zero]
      have hz1 : 1 ≤ zs.length := by omega
      have hz5 : zs.length ≤ 5 := by omega
      have hb0 : ∀ z ∈ zs, intBits ((z : Nat) : Int) ≤ 1000 * 10 ^ (5 - zs.length) := fun z hz => by
        have h1 := hzb z hz
        have h2 : (10 : Nat) ^ 64 < 2 ^ 250 := by decide
        refine Nat.le_trans (m := 250) (PySem.intBits_le_iff.mpr (by omega)) ?_
        have : 0 < 10 ^ (5 - zs.length) := Nat.pow_pos (by decide)
        omega
      have hB0 : intBits ((10 : Int) ^ 64) ≤ 1000 * 10 ^ (5 - zs.length) := by
        refine Nat.le_trans (m := 250) (by decide) ?_
        have : 0 < 10 ^ (5 - zs.length) := Nat.pow_pos (by decide)
        omega
      refine while_by (fun σ H' => ∃ (pl : Addr) (xs : List Nat) (B : Nat) (v3 v4 : Option V), σ = [some (.str (S l)), some (.ref pl), some (.int (B : Int)), v3, v4] ∧ H pl = none ∧ H' pl = some (.lst (Ints xs)) ∧ Same H H' ∧ ev B xs = digitsVal l ∧
          (1 ≤ xs.length ∧ xs.length ≤ 5) ∧ intBits (B : Int) ≤ 1000 * 10 ^ (5 - xs.length) ∧ ∀ x ∈ xs, intBits ((x : Nat) : Int) ≤ 1000 * 10 ^ (5 - xs.length))
        muNum
        ⟨D, zs, 10 ^ 64, none, none, rfl, hD, hLs, s2, hv.symm, ⟨hz1, hz5⟩, hB0, hb0⟩ ?_ ?_
      · rintro σ H' ⟨pl, xs, B, v3, v4, rfl, hpl, hP, s3, hev3, ⟨hx1, hx5⟩, hBb, hxb⟩
        refine ⟨_, rfl, pl, _, rfl, .inl (SqL.of hP), _, _, rfl, rfl, _, rfl, ite2 (fun c => ?_) (fun c => ?_)⟩
        · have hx2 : 1 < xs.length := by
            have := of_decide_eq_true c
            rw [Ints_len] at this
            omega
          generalize hbeta : 1000 * 10 ^ (5 - xs.length) = β at hBb hxb
          have hβ1 : 1000 ≤ β := by
            have : 0 < 10 ^ (5 - xs.length) := Nat.pow_pos (by decide)
            omega
          have hβ2 : β ≤ 10000000 := by
            have : 10 ^ (5 - xs.length) ≤ 10 ^ 4 := Nat.pow_le_pow_right (by decide) (by omega)
            omega
          refine ⟨fun σ' H2 => ∃ ys : List Nat, σ' = [some (.str (S l)), some (.ref pl), some (.int (B : Int)), v3, v4] ∧ H2 pl = some (.lst (Ints ys)) ∧ Same H H2 ∧ ev B ys = digitsVal l ∧ ys.length = 2 * ((xs.length + 1) / 2) ∧ ∀ y ∈ ys, intBits ((y : Nat) : Int) ≤ β, ?_, ?_⟩
          · refine ⟨_, rfl, pl, _, rfl, .inl (SqL.of hP), _, _, rfl, rfl, (by show (2 : Int) ≠ 0; decide), rfl, _, rfl, ite2 (fun c2 => ?_) (fun c2 => ?_)⟩
            · have hodd : xs.length % 2 = 1 := by
                have z := V.int.inj (of_decide_eq_true c2)
                rw [Ints_len, Int.fmod_eq_emod_of_nonneg _ (by decide)] at z
                omega
              refine ⟨_, rfl, .inl ⟨rfl, _, SqL.of hP⟩, _, _, _, rfl, rfl, hP, by rw [Ints_len]; exact Nat.lt_of_le_of_lt hx5 (by decide), xs ++ [0], rfl, ?_, fun c3 o e => ?_, by rw [ev_zero]; exact hev3, by rw [List.length_append]; show xs.length + 1 = _; omega, fun y hy => ?_⟩
              · rw [upd_same]
                exact congrArg (fun z => some (HO.lst z)) (Ints_app xs 0)
              · rw [upd_ne (ne_of_none e hpl)]
                exact s3 c3 o e
              · rcases List.mem_append.mp hy with h | h
                · exact hxb y h
                · rw [List.mem_singleton.mp h]
                  exact Nat.le_trans (show intBits 0 ≤ 0 by decide) (Nat.zero_le _)
            · have hev2 : ¬ xs.length % 2 = 1 := fun z => c2 (decide_eq_true (congrArg V.int (by
                rw [Ints_len, Int.fmod_eq_emod_of_nonneg _ (by decide)]
                omega)))
              exact ⟨xs, rfl, hP, s3, hev3, by omega, hxb⟩
          · rintro σ' H2 ⟨ys, rfl, hP2, s4, hev4, hyl, hyb⟩
            refine ⟨_, rfl, pl, _, rfl, .inl (SqL.of hP2), ?_⟩
            rw [Ints_len]
            refine ⟨_, _, _, _, rfl, rg_up (L := ys.length) (by omega), fun D2 hD2 => lc_it walk_rangeC (fun i H3 => ∃ zs2 : List Nat, Same H2 H3 ∧ H3 D2 = some (.lst (Ints zs2)) ∧ zs2.length = i ∧ ev (B * B) zs2 = ev B (ys.take (2 * i)) ∧ ∀ z ∈ zs2, intBits ((z : Nat) : Int) ≤ 2 * β + 1)
              ⟨[], same_upd hD2, upd_same, rfl, rfl, fun z hz => nomatch hz⟩ (fun _ _ _ _ => trivial) ?_ ?_⟩
            · rintro i x H3 H4 hi ⟨zs2, s5, hL5, hzl5, hev5, hzb5⟩ ⟨rfl, rfl⟩
              have hi2 : 2 * i + 1 < ys.length := by omega
              obtain ⟨x, hx⟩ : ∃ x, ys[2 * i]? = some x := ⟨_, List.getElem?_eq_getElem (by omega)⟩
              obtain ⟨y, hy⟩ : ∃ y, ys[2 * i + 1]? = some y := ⟨_, List.getElem?_eq_getElem hi2⟩
              have hP5 : SqL K H4 pl (Ints ys) := s5.seq (SqL.of hP2)
              have ax : atI (Ints ys) (0 + (i : Int) * 2) = some (V.int (x : Int)) := by
                rw [show 0 + (i : Int) * 2 = ((2 * i : Nat) : Int) by omega]
                refine atI_of ?_
                unfold Ints
                rw [List.getElem?_map, hx]
                rfl
              have ay : atI (Ints ys) (0 + (i : Int) * 2 + 1) = some (V.int (y : Int)) := by
                rw [show 0 + (i : Int) * 2 + 1 = ((2 * i + 1 : Nat) : Int) by omega]
                refine atI_of ?_
                unfold Ints
                rw [List.getElem?_map, hy]
                rfl
              have bx := hyb x (List.mem_of_getElem? hx)
              have by_ := hyb y (List.mem_of_getElem? hy)
              refine ⟨rfl, _, rfl, _, rfl, pl, _, _, _, rfl, rfl, hP5, ax, _, rfl, _, rfl, _, rfl, _, _, rfl, rfl, pl, _, _, _, rfl, rfl, hP5, ay, _, _, rfl, rfl, by show intBits (B : Int) + intBits (y : Int) ≤ 134217728; omega, _, _, rfl, rfl, _, hL5, ?_, ?_⟩
              · rw [Ints_len, hzl5]
                exact Nat.lt_of_lt_of_le (Nat.lt_of_lt_of_le hi (show (ys.length + 1) / 2 ≤ 1000 by omega)) (by decide)
              · have ez : (x : Int) + (B : Int) * (y : Int) = ((x + B * y : Nat) : Int) := by
                  rw [Int.natCast_add, Int.natCast_mul]
                show ∃ zs2_1 : List Nat, Same H2 (upd H4 D2 (.lst (Ints zs2 ++ [V.int ((x : Int) + (B : Int) * (y : Int))]))) ∧ upd H4 D2 (.lst (Ints zs2 ++ [V.int ((x : Int) + (B : Int) * (y : Int))])) D2 = some (.lst (Ints zs2_1)) ∧ _
                rw [ez, Ints_app]
                refine ⟨zs2 ++ [x + B * y], fun c3 o e => ?_, upd_same, by rw [List.length_append, hzl5]; rfl, ev_pair hev5 hzl5 hx hy, fun z hz => ?_⟩
                · rw [upd_ne (ne_of_none e hD2)]
                  exact s5 c3 o e
                · rcases List.mem_append.mp hz with h | h
                  · exact hzb5 z h
                  · rw [List.mem_singleton.mp h, ← ez]
                    have h2 := PySem.intBits_add_le bx (PySem.intBits_mul_le hBb by_)
                    omega
            · rintro H3 ⟨zs2, s5, hL5, hzl5, hev5, hzb5⟩
              have hD0 : H D2 = none := by
                cases e : H D2 with
                | none => rfl
                | some o => rw [s4 _ _ e] at hD2; cases hD2
              have hstep : ∀ b : Nat, b ≤ 2 * β + 1 → b ≤ 1000 * 10 ^ (5 - zs2.length) := fun b hb => by
                refine Nat.le_trans hb ?_
                have h1 : 10 ^ (5 - xs.length + 1) ≤ 10 ^ (5 - zs2.length) := Nat.pow_le_pow_right (by decide) (by omega)
                rw [Nat.pow_succ] at h1
                omega
              refine ⟨_, rfl, _, rfl, _, _, rfl, rfl, by show intBits (B : Int) + intBits (B : Int) ≤ 134217728; omega, ?_⟩
              refine ⟨⟨D2, zs2, B * B, _, _, rfl, hD0, hL5, s4.trans s5, ?_, by omega, ?_, fun z hz => hstep _ (hzb5 z hz)⟩, ?_⟩
              · rw [hev5, ← hev4, List.take_of_length_le (by omega)]
              · have h2 := PySem.intBits_mul_le hBb hBb
                exact hstep _ (by rw [Int.natCast_mul]; omega)
              · show muNum [some (.str (S l)), some (.ref D2), some (.int ((B : Int) * (B : Int))), v3, v4] _ < muNum _ _
                rw [muNum_at hL5, muNum_at hP, Ints_len, Ints_len]
                omega
        · have hx2 : xs.length = 1 := by
            have : ¬ (1 : Int) < ((Ints xs).length : Int) := fun z => c (decide_eq_true z)
            rw [Ints_len] at this
            omega
          obtain ⟨x, rfl⟩ : ∃ x, xs = [x] := by
            match xs, hx2 with
            | [x], _ => exact ⟨x, rfl⟩
          rw [ev_one] at hev3
          subst hev3
          exact ⟨_, rfl, pl, _, _, _, rfl, rfl, SqL.of hP, atI_of (k := 0) rfl, q _ s3⟩
      · rintro σ H' R R' hR ⟨v, e1, p, ys, e2, e3, i, j, e4, e5, b1, e6, h3⟩
        exact ⟨v, e1, p, ys, e2, e3, i, j, e4, e5, b1, e6, hR _ _ h3⟩
end
end Ind

set_option Elab.async false
set_option linter.all false
set_option maxRecDepth 100000
set_option maxHeartbeats 4000000
set_option exponentiation.threshold 3000
namespace Ind
open PySem PySem.Spec PyProof.Rows L2 SX
open Builtin.Int (intBits)
open TL (numL)
open PySem.NumText (AllDigits digitsVal)
/-! ### what read_ratio takes -/
def abv (t : List Nat) : List Nat := t.takeWhile (· != 47)
def slB (t : List Nat) : Bool := decide (47 ∈ t)
def blw (t : List Nat) : List Nat := (t.dropWhile (· != 47)).drop 1
def ngB (t : List Nat) : Bool := decide ((abv t).head? = some 45)
def dgs (t : List Nat) : List Nat := if ngB t then (abv t).drop 1 else abv t
def upm (t : List Nat) : Int := if ngB t then -((digitsVal (dgs t) : Nat) : Int) else ((digitsVal (dgs t) : Nat) : Int)
def dnm (t : List Nat) : Nat := if slB t then digitsVal (blw t) else 1
def rd1 (t : List Nat) : Bool := cntB (dgs t) && !(decide (dgs t = [48]) && !decide (t = [48]))
def rd2 (t : List Nat) : Bool := !(slB t) || (cntB (blw t) && !(decide (blw t = [48]) || decide (blw t = [49])))
def rd3 (t : List Nat) : Bool := decide (Nat.gcd (digitsVal (dgs t)) (dnm t) = 1)
theorem abv_47 (r : List Nat) : abv (47 :: r) = [] ∧ blw (47 :: r) = r := by
  unfold abv blw
  rw [List.takeWhile_cons, List.dropWhile_cons]
  exact ⟨rfl, rfl⟩
theorem abv_ne {c : Nat} (h : c ≠ 47) (r : List Nat) : abv (c :: r) = c :: abv r ∧ blw (c :: r) = blw r := by
  have e : (c != 47) = true := bne_iff_ne.mpr h
  unfold abv blw
  rw [List.takeWhile_cons, List.dropWhile_cons, e]
  exact ⟨rfl, rfl⟩
theorem abv_free : ∀ t : List Nat, 47 ∉ abv t
  | [] => by simp [abv]
  | c :: r => by
    by_cases h : c = 47
    · subst h
      rw [(abv_47 r).1]
      simp
    · rw [(abv_ne h r).1]
      intro z
      rcases List.mem_cons.mp z with e | e
      · exact h e.symm
      · exact abv_free r e
theorem cut_yes : ∀ {t : List Nat}, 47 ∈ t → t = abv t ++ ([47] ++ blw t)
  | c :: r, h => by
    by_cases e : c = 47
    · subst e
      rw [(abv_47 r).1, (abv_47 r).2]
      rfl
    · have h2 : 47 ∈ r := by
        rcases List.mem_cons.mp h with z | z
        · exact absurd z.symm e
        · exact z
      rw [(abv_ne e r).1, (abv_ne e r).2, List.cons_append, ← cut_yes h2]
theorem cut_no : ∀ {t : List Nat}, 47 ∉ t → abv t = t ∧ blw t = []
  | [], _ => ⟨rfl, rfl⟩
  | c :: r, h => by
    have e : c ≠ 47 := fun z => h (by rw [z]; simp)
    have h2 : 47 ∉ r := fun z => h (List.mem_cons_of_mem _ z)
    rw [(abv_ne e r).1, (abv_ne e r).2, (cut_no h2).1, (cut_no h2).2]
    exact ⟨rfl, rfl⟩
theorem part_is (t : List Nat) : Txt.partition (S t) (S [47]) = (S (abv t), S (if slB t then [47] else []), S (blw t)) := by
  by_cases h : 47 ∈ t
  · have e := cut_yes h
    have p := par_head (sep := []) (blw t) (abv_free t)
    rw [← e] at p
    have q := partition_some (by simp) p
    unfold slB
    rw [decide_eq_true h]
    exact q
  · have e := cut_no h
    have p := partition_none (a := t) (by simp) (par_head_none (sep := []) h)
    unfold slB
    rw [decide_eq_false h, e.1, e.2]
    exact p
theorem abv_le (t : List Nat) : (abv t).length ≤ t.length := List.Sublist.length_le (List.takeWhile_sublist _)
theorem blw_le (t : List Nat) : (blw t).length ≤ t.length := by
  unfold blw
  rw [List.length_drop]
  have := List.Sublist.length_le (List.dropWhile_sublist (· != 47) (l := t))
  omega
theorem dgs_le (t : List Nat) : (dgs t).length ≤ t.length := by
  unfold dgs
  have := abv_le t
  split
  · rw [List.length_drop]
    omega
  · exact this
theorem cut_from1 (l : List Nat) : cutS (S l) (some 1) none = S (l.drop 1) := by
  unfold cutS
  rw [show (1 : Int) = ((1 : Nat) : Int) from rfl, HT.sIx_nat, HT.sIx_none, S_len]
  cases l with
  | nil => rfl
  | cons c r =>
    rw [Nat.min_eq_left (by simp)]
    congr 1
    congr 1
    exact List.take_of_length_le (by rw [List.length_drop]; exact Nat.le_refl _)
theorem cnt_digits {l : List Nat} (h : cntB l = true) : AllDigits l ∧ l ≠ [] := by
  unfold cntB at h
  rw [Bool.and_eq_true, Bool.and_eq_true] at h
  refine ⟨fun c hc => ?_, fun z => ?_⟩
  · have := List.all_eq_true.mp h.1.1 c hc
    rw [Bool.and_eq_true, decide_eq_true_eq, decide_eq_true_eq] at this
    exact this
  · rw [z] at h
    simp at h
def NtE (Nt : Addr) (H : Hp) (E : XK) : Prop := ∀ (H' : Hp) (d : Addr), Same H H' → H' d = some (.xd [("at", .int 0)]) → E (.ref Nt) (some d) H'
def spRead (K : PySem.W.Frag) (C Nt : Addr) : Sp := fun vs H Q E =>
  (∃ t : List Nat, vs = [.str (S t)] ∧ t.length ≤ 300 ∧ ((rd1 t && (rd2 t && rd3 t)) = false → NtE Nt H E) ∧
    ((rd1 t && (rd2 t && rd3 t)) = true → dnm t ≠ 0 → ∀ (p : Addr) (H' : Hp), RatAt C H' p (nN (upm t) (dnm t)) (nD (upm t) (dnm t)) → Same H H' → Q (.ref p) H') ∧ (dnm t = 0 → (rd1 t && (rd2 t && rd3 t)) = false)) ∨
  ∃ (x : V) (ty : Value), vs = [x] ∧ TyX K H x ty ∧ PySem.W.kitOne K ty (.type "str") = some false ∧ NtE Nt H E
theorem nt_raise {Nt : Addr} {H0 H : Hp} {E : XK} (s : Same H0 H) (k : NtE Nt H0 E) : ∀ a, H a = none → spNt Nt [.ref a, .int 0] (upd H a (exo a Nt none))
    (fun v H2 => v = .non ∧ ∃ (d : Addr) (fs : List (Str × V)), H2 a = some (exo a Nt (some d)) ∧ H2 d = some (exd d fs) ∧ H d = none ∧ E (.ref Nt) (some d) (upd (L2.del H2 a) d (.xd fs))) (fun _ _ _ => False) := fun a na => by
  refine ⟨a, 0, rfl, upd_same, by decide, by decide +kernel, fun dx ndx dne => ⟨rfl, dx, [("at", .int 0)], upd_same, ?_, ?_, ?_⟩⟩
  · rw [upd_ne dne, upd_same]
  · rw [upd_ne dne] at ndx
    exact ndx
  · have nd : H dx = none := by
      rw [upd_ne dne] at ndx
      exact ndx
    refine k _ dx (fun b o e => ?_) upd_same
    have hb := s _ _ e
    rw [upd_ne (ne_of_none hb nd), del_ne (ne_of_none hb na), upd_ne (ne_of_none hb na), upd_ne (ne_of_none hb nd), upd_ne (ne_of_none hb na)]
    exact hb
end Ind

set_option Elab.async false
set_option linter.all false
set_option maxRecDepth 100000
set_option maxHeartbeats 4000000
set_option exponentiation.threshold 3000
namespace Ind
open PySem PySem.Spec PyProof.Rows L2 SX
open Builtin.Int (intBits)
open TL (numL)
open PySem.NumText (AllDigits digitsVal)
theorem strEq (l m : List Nat) : decide (V.str (S l) = V.str (S m)) = decide (l = m) := by
  by_cases h : l = m
  · subst h
    simp
  · rw [decide_eq_false h, decide_eq_false (fun z => h (S_inj (V.str.inj z)))]
theorem inV2 (l a b : List Nat) : inV (V.str (S l)) [V.str (S a), V.str (S b)] = (decide (l = a) || decide (l = b)) := by
  show ((S a == S l) || ((S b == S l) || false)) = _
  rw [S_beq_eq, S_beq_eq, Bool.or_false, decide_eq_decide.mpr (eq_comm (a := a)), decide_eq_decide.mpr (eq_comm (a := b))]
/-- how NoText stands -/
structure NtC (P : Program) (w : World) (K : PySem.W.Frag) (mg : Str → Option Value) (base : Heap) (Nt fN : Addr) (fdN : FuncData) : Prop where
  T : OexC K Nt
  iC : PySem.W.findIn K (.ref Nt) "__init__" = some (some (.ref fN))
  tI : PySem.W.typeIn K (.ref fN) = some (.type "function")
  fn : FnOk P w K mg base CX0 1 fN fdN ["self", "at"] (spNt Nt)
  b : Binds K fdN ["self", "at"] []
  g : mg "NoText" = some (.ref Nt)
/-- how Ratio's __init__ stands -/
structure MkR (P : Program) (w : World) (K : PySem.W.Frag) (mg : Str → Option Value) (base : Heap) (C Z : Addr) (fI : Addr) (fdI : FuncData) : Prop where
  cm : Mk K C fI
  fn : FnOk P w K mg base (L2.CX P w) 41 fI fdI ["self", "n", "d"] (spInit C Z)
  b2 : Binds K fdI ["self", "n", "d"] []
section
variable {P : Program} {w : World} {K : PySem.W.Frag} {mg : Str → Option Value} {base : Heap} {C Z Nt : Addr}
theorem scRead : FnScope ["text", "above", "slash", "below", "digits", "n", "d"] ["text"] (defScope sRead) := ⟨rfl, rfl, rfl, by decide +kernel, rfl, by decide +kernel, by decide +kernel⟩
theorem ok_read {f fN fI fC fO : Addr} {fd fdN fdI fdC fdO : FuncData} (F : Fun K "read_ratio" "read_ratio" sRead f fd) (T : TxL K mg) (G : TxP mg) (R : TxR K mg C Z) (M : MkR P w K mg base C Z fI fdI) (N : NtC P w K mg base Nt fN fdN)
    (FC : Fun K "is_count" "is_count" sCnt fC fdC) (bC : Binds K fdC ["digits"] []) (gC : mg "is_count" = some (.ref fC)) (FO : Fun K "number_of" "number_of" sNum fO fdO) (bO : Binds K fdO ["digits"] []) (gO : mg "number_of" = some (.ref fO)) :
    FnOk P w K mg base (L2.CX P w) 43 f fd ["text"] (spRead K C Nt) := by
  have GC : FnOk P w K mg base CX0 1 fC fdC ["digits"] spCnt := ok_cnt FC
  have GO : FnOk P w K mg base CX0 1 fO fdO ["digits"] spNumOf := ok_num FO T G
  refine F.okX scRead (fun vs H Q E h => ?_) (fun cdv A outer s H vs Q E hr h => ?_)
  · rcases h with ⟨t, rfl, _⟩ | ⟨x, ty, rfl, _⟩ <;> rfl
  · have h1 := hr.mono (show 2 ≤ 42 by decide)
    have h0 := hr.mono (show 1 ≤ 42 by decide)
    refine ⟨_, pss_cons (ps_if (pt_not (pt_val (pe_callB call_isi (by rfl) T.isinstance (by decide +kernel) (pa_cons (pv 0) (pa_cons (pe_bltn (v := .ty "str") (by rfl) G.str (by decide +kernel) rfl) pa_nil)))))
        (pss_one (ps_raise rfl (takes_of rfl rfl rfl rfl) (pmk_oex N.T N.iC N.tI N.fn h1 N.b .nil pass0 (by rfl) N.g (pa_cons pe_int pa_nil)))) pss_nil)
      (pss_cons (ps_asg (pe_bm PySem.F.plainAttrs_str PySem.F.slot_str_partition PySem.F.type_str_partition mt_partition (pv 0) (pa_cons pe_str pa_nil)) (pg_tup (by rfl) (pgs_cons (pg_name (i := 1) scRead.nd rfl (Or.inl rfl)) (pgs_cons (pg_name (i := 2) scRead.nd rfl (Or.inl rfl)) (pgs_cons (pg_name (i := 3) scRead.nd rfl (Or.inl rfl)) pgs_nil)))))
      (C8.pss_cut (ps_set (i := 4) scRead.nd rfl (Or.inl rfl) (pe_ifExp (pt_val (pe_bm PySem.F.plainAttrs_str PySem.F.slot_str_startswith PySem.F.type_str_startswith mt_startswith (pv 1) (pa_cons pe_str pa_nil))) (pe_slice sl_str (pv 1) (po_some pe_int) po_none) (pv 1)))
      (C8.pss_cut (ps_if (PW.pt (pw_or (pt_not (pt_val (pe_call GC h0 (by rfl) gC FC.kp bC .nil pass0 (pa_cons (pv 4) pa_nil)))) (pw_or1 (PW.pt (pw_and (pt_cmpR op_eq (pv 4) pe_str (nomark _)) (pw_and1 (pt_cmpR op_ne (pv 0) pe_str (nomark _))))))))
        (pss_one (ps_raise rfl (takes_of rfl rfl rfl rfl) (pmk_oex N.T N.iC N.tI N.fn h1 N.b .nil pass0 (by rfl) N.g (pa_cons pe_int pa_nil)))) pss_nil)
      (C8.pss_cut (ps_if (PW.pt (pw_and (pt_truth (pv 2) (fun _ => rfl)) (pw_and1 (PW.pt (pw_or (pt_not (pt_val (pe_call GC h0 (by rfl) gC FC.kp bC .nil pass0 (pa_cons (pv 3) pa_nil)))) (pw_or1 (pt_cmpR op_in_seq (pv 3) (pe_tup (pa_cons pe_str (pa_cons pe_str pa_nil))) rfl)))))))
        (pss_one (ps_raise rfl (takes_of rfl rfl rfl rfl) (pmk_oex N.T N.iC N.tI N.fn h1 N.b .nil pass0 (by rfl) N.g (pa_cons pe_int pa_nil)))) pss_nil)
      (pss_cons (ps_set (i := 5) scRead.nd rfl (Or.inl rfl) (pe_call GO h0 (by rfl) gO FO.kp bO .nil pass0 (pa_cons (pv 4) pa_nil)))
      (C8.pss_cut (ps_set (i := 6) scRead.nd rfl (Or.inl rfl) (pe_ifExp (pt_truth (pv 2) (fun _ => rfl)) (pe_call GO h0 (by rfl) gO FO.kp bO .nil pass0 (pa_cons (pv 3) pa_nil)) pe_int))
      (C8.pss_cut (ps_if (pt_cmpR op_ne (pe_callBfun cr_gcd (by rfl) R.gcd (pa_cons (pv 5) (pa_cons (pv 6) pa_nil))) pe_int (nomark _))
        (pss_one (ps_raise rfl (takes_of rfl rfl rfl rfl) (pmk_oex N.T N.iC N.tI N.fn h1 N.b .nil pass0 (by rfl) N.g (pa_cons pe_int pa_nil)))) pss_nil)
      (pss_one (ps_ret (pe_make (E := E) M.cm M.fn hr (by rfl) R.mgC M.b2 .nil (passes_call (takes_of rfl rfl rfl rfl) fun _ _ _ _ h => h) (pa_cons (pe_ifExp (pt_val (pe_bm PySem.F.plainAttrs_str PySem.F.slot_str_startswith PySem.F.type_str_startswith mt_startswith (pv 1) (pa_cons pe_str pa_nil))) (pe_un un_neg (pv 5)) (pv 5)) (pa_cons (pv 6) pa_nil)))))))))))), ?_⟩
    have e0 : (Str.ofString "0") = S [48] := by decide +kernel
    have e1 : (Str.ofString "1") = S [49] := by decide +kernel
    have e45 : (Str.ofString "-") = S [45] := by decide +kernel
    have e47 : (Str.ofString "/") = S [47] := by decide +kernel
    rcases h with ⟨t, rfl, ht, kE, kQ, kz⟩ | ⟨x, ty, rfl, hty, hk, kE⟩
    rotate_left
    · exact ⟨_, rfl, _, _, _, _, false, rfl, ClsV.ty "str", hty, hk, false, rfl, iteT ⟨by show 1 ≤ 1000; decide, nt_raise (E := E) same_rfl kE⟩⟩
    refine ⟨_, rfl, _, _, _, _, true, rfl, ClsV.ty "str", .base (.str (S t)), kit_ty (by decide +kernel), true, rfl, iteF ?_⟩
    refine ⟨_, rfl, rfl, _, _, rfl, rfl, by rw [e47]; rfl, S_le (n := 300) ht (by decide), fun p hp => ?_⟩
    rw [e47, part_is]
    refine ⟨p, _, rfl, SqT.of upd_same, rfl, _, _, rfl, _, _, rfl, _, _, rfl, rfl, ?_⟩
    have s1 : Same H (upd H p (.tup [.str (S (abv t)), .str (S (if slB t then [47] else [])), .str (S (blw t))])) := same_upd hp
    generalize upd H p (.tup [.str (S (abv t)), .str (S (if slB t then [47] else [])), .str (S (blw t))]) = H1 at s1 ⊢
    have la := Nat.le_trans (abv_le t) ht
    have lb := Nat.le_trans (blw_le t) ht
    have ld := Nat.le_trans (dgs_le t) ht
    have nE : NtE Nt H1 E → True := fun _ => trivial
    have kE1 : (rd1 t && (rd2 t && rd3 t)) = false → NtE Nt H E := kE
    refine ⟨fun σ' H' => H' = H1 ∧ σ' = [some (.str (S t)), some (.str (S (abv t))), some (.str (S (if slB t then [47] else []))), some (.str (S (blw t))), some (.str (S (dgs t))), none, none], ?_, ?_⟩
    · refine ⟨_, rfl, rfl, _, _, rfl, rfl, _, rfl, ?_⟩
      rw [e45, starts_one]
      have hd : dgs t = if decide ((abv t).head? = some 45) = true then (abv t).drop 1 else abv t := rfl
      refine ite2 (fun c => ?_) (fun c => ?_)
      · refine ⟨_, rfl, _, rfl, _, rfl, S_le la (by decide), ?_⟩
        rw [cut_from1]
        rw [if_pos c] at hd
        rw [hd]
        exact ⟨rfl, rfl⟩
      · rw [if_neg c] at hd
        rw [hd]
        exact ⟨_, rfl, rfl, rfl⟩
    · rintro σ' H' ⟨rfl, rfl⟩
      refine ⟨fun σ' H2 => H2 = H' ∧ σ' = [some (.str (S t)), some (.str (S (abv t))), some (.str (S (if slB t then [47] else []))), some (.str (S (blw t))), some (.str (S (dgs t))), none, none] ∧ rd1 t = true, ?_, ?_⟩
      · refine ⟨_, rfl, _, rfl, by omega, _, rfl, ?_⟩
        cases hc : cntB (dgs t)
        · have e1t : (rd1 t && (rd2 t && rd3 t)) = false := by
            unfold rd1
            rw [hc]
            rfl
          exact iteT (iteT ⟨by show 1 ≤ 1000; decide, nt_raise (E := E) s1 (kE1 e1t)⟩)
        · refine iteF ⟨_, rfl, rfl, _, rfl, ?_⟩
          rw [e0, strEq]
          cases hd1 : decide (dgs t = [48])
          · refine iteF (iteF ⟨rfl, rfl, ?_⟩)
            unfold rd1
            rw [hc, hd1]
            rfl
          · refine iteT ⟨_, rfl, rfl, _, rfl, ?_⟩
            rw [strEq]
            cases ht1 : decide (t = [48])
            · have e1t : (rd1 t && (rd2 t && rd3 t)) = false := by
                unfold rd1
                rw [hc, hd1, ht1]
                rfl
              exact iteT ⟨by show 1 ≤ 1000; decide, nt_raise (E := E) s1 (kE1 e1t)⟩
            · refine iteF ⟨rfl, rfl, ?_⟩
              unfold rd1
              rw [hc, hd1, ht1]
              rfl
      · rintro σ' H2 ⟨rfl, rfl, h1t⟩
        have hcd := cnt_digits (l := dgs t) (by
          unfold rd1 at h1t
          rw [Bool.and_eq_true] at h1t
          exact h1t.1)
        refine ⟨fun σ' H3 => Same H H3 ∧ σ' = [some (.str (S t)), some (.str (S (abv t))), some (.str (S (if slB t then [47] else []))), some (.str (S (blw t))), some (.str (S (dgs t))), none, none] ∧ rd2 t = true, ?_, ?_⟩
        · refine ⟨_, rfl, slB t, ⟨S_le (n := 300) (by split <;> decide) (by decide), ?_⟩, ?_⟩
          · rw [S_len]
            cases slB t <;> rfl
          · cases hs : slB t
            · refine iteF (iteF ⟨s1, rfl, ?_⟩)
              unfold rd2
              rw [hs]
              rfl
            · refine iteT ⟨_, rfl, _, rfl, by omega, _, rfl, ?_⟩
              have e2t : rd2 t = false → (rd1 t && (rd2 t && rd3 t)) = false := fun z => by
                rw [z, Bool.false_and, Bool.and_false]
              cases hcb : cntB (blw t)
              · refine iteT (iteT ⟨by show 1 ≤ 1000; decide, nt_raise (E := E) s1 (kE1 (e2t ?_))⟩)
                unfold rd2
                rw [hs, hcb]
                rfl
              · refine iteF ⟨_, rfl, by show 2 ≤ sizeLine; decide, fun p2 hp2 => ⟨p2, _, rfl, .inr (SqT.of upd_same), rfl, rfl, _, rfl, ?_⟩⟩
                rw [e0, e1, inV2]
                cases hin : (decide (blw t = [48]) || decide (blw t = [49]))
                · refine iteF ⟨s1.trans (same_upd hp2), rfl, ?_⟩
                  unfold rd2
                  rw [hs, hcb, hin]
                  rfl
                · refine iteT ⟨by show 1 ≤ 1000; decide, nt_raise (E := E) (s1.trans (same_upd hp2)) (kE1 (e2t ?_))⟩
                  unfold rd2
                  rw [hs, hcb, hin]
                  rfl
        · rintro σ' H3 ⟨s3, rfl, h2t⟩
          refine ⟨_, rfl, _, rfl, hcd.1, hcd.2, ld, fun H4 s4 => ?_⟩
          refine ⟨fun σ' H5 => Same H H5 ∧ σ' = [some (.str (S t)), some (.str (S (abv t))), some (.str (S (if slB t then [47] else []))), some (.str (S (blw t))), some (.str (S (dgs t))), some (.int ((digitsVal (dgs t) : Nat) : Int)), some (.int ((dnm t : Nat) : Int))], ?_, ?_⟩
          · refine ⟨_, rfl, slB t, ⟨S_le (n := 300) (by split <;> decide) (by decide), ?_⟩, ?_⟩
            · rw [S_len]
              cases slB t <;> rfl
            · cases hs : slB t
              · refine iteF ⟨s3.trans s4, ?_⟩
                have e : dnm t = 1 := by
                  unfold dnm
                  rw [hs]
                  rfl
                rw [e]
                rfl
              · have hcb : cntB (blw t) = true := by
                  unfold rd2 at h2t
                  rw [hs] at h2t
                  cases z : cntB (blw t)
                  · rw [z] at h2t
                    exact absurd h2t (by simp)
                  · rfl
                have hbd := cnt_digits hcb
                refine iteT ⟨_, rfl, _, rfl, hbd.1, hbd.2, lb, fun H6 s6 => ⟨s3.trans (s4.trans s6), ?_⟩⟩
                have e : dnm t = digitsVal (blw t) := by
                  unfold dnm
                  rw [hs]
                  rfl
                rw [e]
                rfl
          · rintro σ' H5 ⟨s5, rfl⟩
            refine ⟨fun σ' H6 => H6 = H5 ∧ σ' = [some (.str (S t)), some (.str (S (abv t))), some (.str (S (if slB t then [47] else []))), some (.str (S (blw t))), some (.str (S (dgs t))), some (.int ((digitsVal (dgs t) : Nat) : Int)), some (.int ((dnm t : Nat) : Int))] ∧ rd3 t = true, ?_, ?_⟩
            · refine ⟨_, rfl, _, rfl, _, _, rfl, rfl, ?_⟩
              have hv : (V.int ((Nat.gcd ((digitsVal (dgs t) : Nat) : Int).natAbs ((dnm t : Nat) : Int).natAbs : Nat) : Int) = V.int 1) ↔ rd3 t = true := by
                unfold rd3
                rw [decide_eq_true_eq, Int.natAbs_natCast, Int.natAbs_natCast]
                exact ⟨fun z => by have := V.int.inj z; omega, fun z => by rw [z]; rfl⟩
              refine ⟨_, rfl, ite2 (fun c => ?_) (fun c => ?_)⟩
              · have h3 : rd3 t = false := by
                  cases z : rd3 t with
                  | false => rfl
                  | true =>
                    have e := hv.mpr z
                    simp at c
                    simp at e
                    omega
                exact ⟨by show 1 ≤ 1000; decide, nt_raise (E := E) s5 (kE1 (by rw [h3, Bool.and_false, Bool.and_false]))⟩
              · refine ⟨rfl, rfl, hv.mp ?_⟩
                have z : ¬ ¬ (V.int ((Nat.gcd ((digitsVal (dgs t) : Nat) : Int).natAbs ((dnm t : Nat) : Int).natAbs : Nat) : Int) = V.int 1) := by simpa using c
                exact Classical.not_not.mp z
            · rintro σ' H6 ⟨rfl, rfl, h3t⟩
              have hall : (rd1 t && (rd2 t && rd3 t)) = true := by rw [h1t, h2t, h3t]; rfl
              have hdn : dnm t ≠ 0 := fun z => by
                have := kz z
                rw [hall] at this
                cases this
              refine ⟨_, rfl, rfl, _, _, rfl, rfl, _, rfl, ?_⟩
              rw [e45, starts_one]
              have hu : upm t = if decide ((abv t).head? = some 45) = true then -((digitsVal (dgs t) : Nat) : Int) else ((digitsVal (dgs t) : Nat) : Int) := rfl
              have hdi : ((dnm t : Nat) : Int) ≠ 0 := by omega
              refine ite2 (fun c => ?_) (fun c => ?_)
              · rw [if_pos c] at hu
                refine ⟨_, rfl, _, rfl, _, rfl, fun r dr nr ndr ner => ⟨r, dr, _, _, rfl, upd_same, fun z => absurd z hdi, fun _ H7 rr kk => ⟨rfl, kQ hall hdn r H7 ?_ (s5.trans (Same.made nr ndr kk))⟩⟩⟩
                rw [hu]
                exact rr
              · rw [if_neg c] at hu
                refine ⟨_, rfl, _, rfl, fun r dr nr ndr ner => ⟨r, dr, _, _, rfl, upd_same, fun z => absurd z hdi, fun _ H7 rr kk => ⟨rfl, kQ hall hdn r H7 ?_ (s5.trans (Same.made nr ndr kk))⟩⟩⟩
                rw [hu]
                exact rr
end
end Ind

set_option Elab.async false
set_option linter.all false
set_option maxRecDepth 100000
set_option maxHeartbeats 4000000
set_option exponentiation.threshold 3000
namespace Ind
open PySem PySem.Spec PyProof.Rows L2 SX
open Builtin.Int (intBits)
open TL (numL)
open PySem.NumText (AllDigits digitsVal)
abbrev sRat : Stmt := top 19
abbrev sDig : Stmt := top 22
abbrev sWhl : Stmt := top 23
abbrev sTxt : Stmt := top 24
abbrev sBad : Stmt := top 25
def PairAt (H : Hp) (p : Addr) (a b : Int) : Prop := H p = some (.tup [.int a, .int b])
theorem PairAt.same {H H' : Hp} {p : Addr} {a b : Int} (x : PairAt H p a b) (s : Same H H') : PairAt H' p a b := s _ _ x
def spRatT : Sp := fun vs H Q _ => ∃ n d : Int, vs = [.int n, .int d] ∧ d ≠ 0 ∧ ∀ (H' : Hp) (t : Addr), Same H H' → PairAt H' t (nN n d) (nD n d) → Q (.ref t) H'
/-- drawn digits, the first one not zero -/
def DigOk (ds : List Int) : Prop := ∃ c r, ds = c :: r ∧ 1 ≤ c ∧ c < 10 ∧ (∀ x ∈ r, 0 ≤ x ∧ x < 10) ∧ r.length ≤ 129
theorem DigOk.at {ds : List Int} (h : DigOk ds) {i : Nat} {d : Int} (e : ds[i]? = some d) : 0 ≤ d ∧ d < 10 ∧ (i = 0 → 1 ≤ d) := by
  obtain ⟨c, r, rfl, h1, h2, h3, h4⟩ := h
  cases i with
  | zero =>
    have e : c = d := by simpa using e
    subst e
    exact ⟨by omega, h2, fun _ => h1⟩
  | succ i =>
    have e : r[i]? = some d := by simpa using e
    have := h3 d (List.mem_of_getElem? e)
    exact ⟨this.1, this.2, fun z => by omega⟩
theorem DigOk.len {ds : List Int} (h : DigOk ds) : 1 ≤ ds.length ∧ ds.length ≤ 130 := by
  obtain ⟨c, r, rfl, h1, h2, h3, h4⟩ := h
  rw [List.length_cons]
  omega
def spDig (K : PySem.W.Frag) : Sp := fun vs H Q _ => ∃ (a : Addr) (ns : List Int) (k : Nat), vs = [.ref a, .int k] ∧ SqL K H a (ns.map V.int) ∧ k ≤ 1000 ∧ ∀ (H' : Hp) (p : Addr) (ds : List Int), Same H H' → H' p = some (.lst (ds.map V.int)) → DigOk ds → Q (.ref p) H'
def spWhl : Sp := fun vs H Q _ => ∃ (p : Addr) (ds : List Int), vs = [.ref p] ∧ H p = some (.lst (ds.map V.int)) ∧ DigOk ds ∧ ∀ n : Nat, 0 < n → n < 10 ^ 130 → Q (.int (n : Int)) H
def spTxt : Sp := fun vs H Q _ => ∃ n : Int, vs = [.int n] ∧ n.natAbs < 10 ^ 200 ∧ ∀ H' : Hp, Same H H' → Q (.str (S (dec n))) H'
/-- the digits, none for zero -/
def numZ (n : Nat) : List Nat := if n = 0 then [] else numL n
theorem numZ_step {n : Nat} (h : 0 < n) : numZ n = numZ (n / 10) ++ [48 + n % 10] := by
  unfold numZ
  rw [if_neg (by omega)]
  by_cases c : n < 10
  · rw [if_pos (by omega), TL.numL_lt c, Nat.mod_eq_of_lt c]
    rfl
  · rw [if_neg (by omega), TL.numL_step (by omega)]
theorem ten_at : ∀ k : Nat, k < 10 → (Str.ofString "0123456789").cps.toList[k]? = some (48 + k) := by decide +kernel
/-- texts of one sign -/
def Ones (cs : List Nat) : List V := cs.map fun c => V.str (S [c])
theorem join_ones_S (cs : List Nat) : TL.joinL [] (cs.map fun c => [c]) = cs := by
  rw [joinL_nil]
  induction cs with
  | nil => rfl
  | cons c cs ih => rw [List.map_cons, List.flatten_cons, ih]; rfl
section
variable {P : Program} {w : World} {K : PySem.W.Frag} {mg : Str → Option Value} {base : Heap} {C Z : Addr}
theorem scRat : FnScope ["n", "d", "common"] ["n", "d"] (defScope sRat) := ⟨rfl, rfl, rfl, by decide +kernel, rfl, by decide +kernel, by decide +kernel⟩
theorem ok_rat {f fG : Addr} {fd fdG : FuncData} (hN : base.NoSeer) (hT : P.given.tree = none) (F : Fun K "_law_rat" "_law_rat" sRat f fd) (T : TxL K mg) (FG : Fun K "_law_gcd" "_law_gcd" sGcd fG fdG) (bG : Binds K fdG ["a", "b"] []) (gG : mg "_law_gcd" = some (.ref fG)) :
    FnOk P w K mg base CX0 41 f fd ["n", "d"] spRatT := by
  have GG : FnOk P w K mg base CX0 1 fG fdG ["a", "b"] spGcdI := ok_gcd FG T
  refine F.ok (k := 40) scRat (fun vs H Q E h => ?_) (fun cdv A outer s H vs Q E hr h => ?_)
  · obtain ⟨n, d, rfl, _⟩ := h
    rfl
  · obtain ⟨n, d, rfl, hd, k⟩ := h
    have far : Far (cxOf CX0 P w K mg base ["n", "d", "common"] "_law_rat" (defScope sRat) f cdv A outer s H E).nox := ⟨hN, hT, rfl, rfl, rfl, hr⟩
    refine ⟨_, pss_cons (ps_set (i := 2) scRat.nd rfl (Or.inl rfl) (pe_call GG (hr.mono (by decide)) (by rfl) gG FG.kp bG .nil pass0 (pa_cons (pv 0) (pa_cons (pv 1) pa_nil))))
      (C8.pss_cut (ps_if (pt_cmpR op_lt (pv 1) pe_int (nomark _)) (pss_one (ps_set (i := 2) scRat.nd rfl (Or.inl rfl) (pe_un un_neg (pv 2)))) pss_nil)
      (pss_one (ps_ret (pe_tup (pa_cons (pe_op (op_fdivB far) (pv 0) (pv 2)) (pa_cons (pe_op (op_fdivB far) (pv 1) (pv 2)) pa_nil)))))), ?_⟩
    refine ⟨_, rfl, _, rfl, n, d, rfl, ?_⟩
    refine ⟨fun σ' H' => H' = H ∧ σ' = [some (.int n), some (.int d), some (.int (cg n d))], ?_, ?_⟩
    · refine ⟨_, rfl, _, _, rfl, rfl, _, rfl, ite2 (fun c => ?_) (fun c => ?_)⟩
      · have hneg : d < 0 := of_decide_eq_true c
        refine ⟨_, rfl, _, rfl, rfl, ?_⟩
        unfold cg
        rw [if_pos hneg]
        rfl
      · have hneg : ¬ d < 0 := fun z => c (decide_eq_true z)
        refine ⟨rfl, ?_⟩
        unfold cg
        rw [if_neg hneg]
        rfl
    · rintro σ' H' ⟨rfl, rfl⟩
      exact ⟨_, rfl, _, rfl, _, _, rfl, rfl, cg_ne hd, _, rfl, _, rfl, _, _, rfl, rfl, cg_ne hd, (by show 2 ≤ sizeLine; decide), fun t ht => k _ t (same_upd ht) upd_same⟩
theorem scDig : FnScope ["script", "at", "row", "size", "digits"] ["script", "at"] (defScope sDig) := ⟨rfl, rfl, rfl, by decide +kernel, rfl, by decide +kernel, by decide +kernel⟩
theorem ok_dig {f fC fD : Addr} {fd fdC fdD : FuncData} (F : Fun K "_law_digits" "_law_digits" sDig f fd) (T : TxL K mg) (FC : Fun K "_law_cell" "_law_cell" sCell fC fdC) (bC : Binds K fdC ["script", "k"] []) (gC : mg "_law_cell" = some (.ref fC))
    (FD : Fun K "_law_draws" "_law_draws" sDraws fD fdD) (bD : Binds K fdD ["script", "at", "count", "bound"] []) (gD : mg "_law_draws" = some (.ref fD)) : FnOk P w K mg base CX0 3 f fd ["script", "at"] (spDig K) := by
  have GD : FnOk P w K mg base CX0 2 fD fdD ["script", "at", "count", "bound"] (spDraws K) := ok_draws FD T FC bC gC
  refine F.ok scDig (fun vs H Q E h => ?_) (fun cdv A outer s H vs Q E hr h => ?_)
  · obtain ⟨a, ns, k, rfl, _⟩ := h
    rfl
  · obtain ⟨a, ns, k, rfl, hS, hk, q⟩ := h
    refine ⟨_, pss_cons (ps_set (i := 2) scDig.nd rfl (Or.inl rfl) (pe_call GD hr (by rfl) gD FD.kp bD .nil pass0 (pa_cons (pv 0) (pa_cons (pv 1) (pa_cons pe_int (pa_cons pe_int pa_nil))))))
      (pss_cons (ps_set (i := 3) scDig.nd rfl (Or.inl rfl) (pe_op op_add (pe_op op_modN (pe_op op_add (pe_op op_mulB (pe_ix ix_list (pv 2) pe_int fun _ _ => rfl) pe_int) (pe_ix ix_list (pv 2) pe_int fun _ _ => rfl)) pe_int) pe_int))
      (C8.pss_cut (ps_if (pt_cmpR op_lt (pe_ix ix_list (pv 2) pe_int fun _ _ => rfl) pe_int (nomark _)) (pss_one (ps_set (i := 3) scDig.nd rfl (Or.inl rfl) (pe_op op_add (pe_op op_modN (pe_ix ix_list (pv 2) pe_int fun _ _ => rfl) pe_int) pe_int))) pss_nil)
      (pss_cons (ps_set (i := 4) scDig.nd rfl (Or.inl rfl) (pe_slice sl_list (pv 2) (po_some pe_int) (po_some (pe_op op_add pe_int (pv 3)))))
      (C8.pss_cut (ps_if (pt_cmpR op_eq (pe_ix ix_list (pv 4) pe_int fun _ _ => rfl) pe_int (nomark _)) (pss_one (ps_asg (pe_op op_add pe_int (pe_op op_modN (pe_ix ix_list (pv 2) pe_int fun _ _ => rfl) pe_int)) (pg_sub (pv 4) pe_int set_list))) pss_nil)
      (pss_one (ps_ret (pv 4))))))), ?_⟩
    refine ⟨_, rfl, _, rfl, a, ns, k, 132, 10, rfl, hS, hk, by decide, by decide, by decide, fun ds H1 l hR s1 hl hL => ?_⟩
    obtain ⟨x, y, r, rfl, hr130⟩ : ∃ x y r, ds = x :: y :: r ∧ r.length = 130 := by
      have := hR.1
      match ds, this with
      | x :: y :: r, e => exact ⟨x, y, r, rfl, by simpa using e⟩
    have hx := hR.2 x (by simp)
    have hy := hR.2 y (by simp)
    have hb : ∀ z : Int, 0 ≤ z → z < 10 → intBits z ≤ 64 := fun z h1 h2 => PySem.intBits_le_iff.mpr (by omega)
    refine ⟨_, rfl, l, _, _, _, rfl, rfl, SqL.of hL, atI_of (k := 0) rfl, _, _, rfl, rfl, ?_, _, rfl, l, _, _, _, rfl, rfl, SqL.of hL, atI_of (k := 1) rfl, _, _, rfl, rfl, _, _, rfl, rfl, (by show (130 : Int) ≠ 0; decide), _, _, rfl, rfl, ?_⟩
    · show intBits x + intBits 13 ≤ 134217728
      have h1 := hb x hx.1 hx.2
      have h2 := hb 9 (by decide) (by decide)
      have h3 : intBits 13 ≤ 64 := by decide
      omega
    refine ⟨fun σ' H' => H' = H1 ∧ ∃ z : Nat, σ' = [some (.ref a), some (.int k), some (.ref l), some (.int (z : Int)), none] ∧ 1 ≤ z ∧ z ≤ 130, ?_, ?_⟩
    · refine ⟨_, rfl, l, _, _, _, rfl, rfl, SqL.of hL, atI_of (k := 1) rfl, _, _, rfl, rfl, _, rfl, ite2 (fun _ => ?_) (fun _ => ?_)⟩
      · have hm := fmod_in (x := x) (b := 3) (by decide)
        refine ⟨_, rfl, l, _, _, _, rfl, rfl, SqL.of hL, atI_of (k := 0) rfl, _, _, rfl, rfl, (by show (3 : Int) ≠ 0; decide), _, _, rfl, rfl, rfl, (x.fmod 3 + 1).toNat, ?_, by omega, by omega⟩
        have e : x.fmod 3 + 1 = (((x.fmod 3 + 1).toNat : Nat) : Int) := by omega
        rw [← e]
        rfl
      · have hm := fmod_in (x := x * 13 + y) (b := 130) (by decide)
        refine ⟨rfl, ((x * 13 + y).fmod 130 + 1).toNat, ?_, by omega, by omega⟩
        have e : (x * 13 + y).fmod 130 + 1 = ((((x * 13 + y).fmod 130 + 1).toNat : Nat) : Int) := by omega
        rw [← e]
        rfl
    · rintro σ' H' ⟨rfl, z, rfl, hz1, hz2⟩
      have hcut : cutV ((x :: y :: r).map V.int) (some 2) (some (2 + (z : Int))) = (r.take z).map V.int := by
        unfold cutV
        rw [show (2 : Int) + (z : Int) = ((2 + z : Nat) : Int) by omega, show (2 : Int) = ((2 : Nat) : Int) from rfl, HT.sIx_nat, HT.sIx_nat]
        rw [List.length_map, List.length_cons, List.length_cons, hr130, Nat.min_eq_left (by omega), Nat.min_eq_left (by omega), Nat.add_sub_cancel_left]
        rw [List.map_cons, List.map_cons, List.drop_succ_cons, List.drop_succ_cons, List.drop_zero, List.map_take]
      obtain ⟨c, r2, e2⟩ : ∃ c r2, r.take z = c :: r2 := by
        cases e : r.take z with
        | nil =>
          have := congrArg List.length e
          rw [List.length_take, hr130] at this
          simp at this
          omega
        | cons c r2 => exact ⟨c, r2, rfl⟩
      have hmem : ∀ d ∈ c :: r2, 0 ≤ d ∧ d < 10 := fun d hd => hR.2 d (List.mem_cons_of_mem _ (List.mem_cons_of_mem _ (List.mem_of_mem_take (e2 ▸ hd))))
      have hlen2 : r2.length ≤ 129 := by
        have := congrArg List.length e2
        rw [List.length_take, hr130, List.length_cons] at this
        omega
      refine ⟨_, rfl, _, rfl, _, rfl, _, _, rfl, rfl, _, rfl, l, _, rfl, SqL.of hL, fun p hp => ?_⟩
      rw [hcut, e2]
      have hc := hmem c (by simp)
      have hs2 : Same H' (upd H' p (.lst ((c :: r2).map V.int))) := same_upd hp
      have hP : (upd H' p (.lst ((c :: r2).map V.int))) p = some (.lst ((c :: r2).map V.int)) := upd_same
      have hL2 := hs2 _ _ hL
      generalize upd H' p (.lst ((c :: r2).map V.int)) = H3 at hs2 hP hL2
      have hpn : H p = none := by
        cases e : H p with
        | none => rfl
        | some o => rw [s1 _ _ e] at hp; cases hp
      refine ⟨fun σ' H4 => σ' = [some (.ref a), some (.int k), some (.ref l), some (.int (z : Int)), some (.ref p)] ∧ Same H H4 ∧ ∃ ds : List Int, H4 p = some (.lst (ds.map V.int)) ∧ DigOk ds, ?_, ?_⟩
      · refine ⟨_, rfl, p, _, _, _, rfl, rfl, SqL.of hP, atI_of (k := 0) rfl, rfl, _, rfl, ite2 (fun c2 => ?_) (fun c2 => ?_)⟩
        · have hm := fmod_in (x := y) (b := 9) (by decide)
          refine ⟨_, rfl, l, _, _, _, rfl, rfl, SqL.of hL2, atI_of (k := 1) rfl, _, _, rfl, rfl, (by show (9 : Int) ≠ 0; decide), _, _, rfl, rfl, _, rfl, p, _, _, 0, rfl, rfl, hP, ?_, rfl, fun b o e => ?_, (1 + y.fmod 9) :: r2, ?_, 1 + y.fmod 9, r2, rfl, by omega, by omega, fun d hd => hmem d (List.mem_cons_of_mem _ hd), hlen2⟩
          · unfold ixN
            rw [if_pos (by decide), if_pos (by rw [List.length_map, List.length_cons]; omega)]
            rfl
          · rw [upd_ne (ne_of_none e hpn)]
            exact hs2 _ _ (s1 _ _ e)
          · rw [upd_same]
            rfl
        · refine ⟨rfl, s1.trans hs2, c :: r2, hP, c, r2, rfl, ?_, hc.2, fun d hd => hmem d (List.mem_cons_of_mem _ hd), hlen2⟩
          have : ¬ c = 0 := fun e => c2 (decide_eq_true (congrArg V.int e))
          omega
      · rintro σ' H4 ⟨rfl, s4, ds, h4, h5⟩
        exact ⟨_, rfl, q H4 p ds s4 h4 h5⟩
theorem scWhl : FnScope ["digits", "out", "d"] ["digits"] (defScope sWhl) := ⟨rfl, rfl, rfl, by decide +kernel, rfl, by decide +kernel, by decide +kernel⟩
theorem ok_whl {f : Addr} {fd : FuncData} (F : Fun K "_law_whole" "_law_whole" sWhl f fd) : FnOk P w K mg base CX0 1 f fd ["digits"] spWhl := by
  refine F.ok scWhl (fun vs H Q E h => ?_) (fun cdv A outer s H vs Q E hr h => ?_)
  · obtain ⟨p, ds, rfl, _⟩ := h
    rfl
  · obtain ⟨p, ds, rfl, hp, hD, q⟩ := h
    refine ⟨_, pss_cons (ps_set (i := 1) scWhl.nd rfl (Or.inl rfl) pe_int)
      (pss_cons (ps_for PassesOwn.never rfl (pi_list (pv 0)) (pg_name (i := 2) scWhl.nd rfl (Or.inl rfl)) (pss_one (ps_set (i := 1) scWhl.nd rfl (Or.inl rfl) (pe_op op_add (pe_op op_mulB pe_int (pv 1)) (pv 2)))))
      (pss_one (ps_ret (pv 1)))), ?_⟩
    have hl := hD.len
    refine ⟨_, rfl, p, rfl, ⟨_, SqL.of hp⟩, for_list (K := K) (a := p) (xs := ds.map V.int) (fun i σ H' => H' = H ∧ ∃ (m : Nat) (v : Option V), σ = [some (.ref p), some (.int (m : Int)), v] ∧ m < 10 ^ i ∧ (0 < i → 0 < m))
      ⟨rfl, 0, none, rfl, by decide, fun z => absurd z (Nat.lt_irrefl _)⟩ (fun i σ H' _ ⟨e, _⟩ => e ▸ SqL.of hp) ?_ ?_⟩
    · rintro i x σ H' hx ⟨rfl, m, v, rfl, hm, hm0⟩
      rw [List.getElem?_map] at hx
      obtain ⟨d, hd, rfl⟩ : ∃ d, ds[i]? = some d ∧ x = V.int d := by
        cases e : ds[i]? with
        | none => rw [e] at hx; cases hx
        | some y => rw [e] at hx; exact ⟨y, rfl, (Option.some.inj hx).symm⟩
      have hi : i < 130 := by
        have := (List.getElem?_eq_some_iff.mp hd).1
        omega
      obtain ⟨d0, d1, d2⟩ := hD.at hd
      have hmb : intBits (m : Int) ≤ 500 := by
        refine PySem.intBits_le_iff.mpr ?_
        have h1 : (10 : Nat) ^ i ≤ 10 ^ 130 := Nat.pow_le_pow_right (by decide) (by omega)
        have h2 : (10 : Nat) ^ 130 < 2 ^ 500 := by decide
        omega
      refine ⟨_, rfl, _, _, rfl, rfl, by show intBits 10 + intBits (m : Int) ≤ 134217728; have : intBits 10 ≤ 4 := by decide
                                         omega, _, rfl, _, _, rfl, rfl, rfl, 10 * m + d.toNat, some (V.int d), ?_, ?_, fun _ => ?_⟩
      · have e : (10 : Int) * (m : Int) + d = ((10 * m + d.toNat : Nat) : Int) := by omega
        rw [← e]
        rfl
      · rw [Nat.pow_succ]
        omega
      · by_cases z : i = 0
        · have := d2 z
          omega
        · have := hm0 (by omega)
          omega
    · rintro σ H' ⟨rfl, m, v, rfl, hm, hm0⟩
      rw [List.length_map] at hm hm0
      refine ⟨_, rfl, q m (hm0 (by omega)) (Nat.lt_of_lt_of_le hm (Nat.pow_le_pow_right (by decide) hl.2))⟩
theorem scTxt : FnScope ["n", "out", "rest", "sign"] ["n"] (defScope sTxt) := ⟨rfl, rfl, rfl, by decide +kernel, rfl, by decide +kernel, by decide +kernel⟩
theorem ok_txt {f : Addr} {fd : FuncData} (F : Fun K "_law_text" "_law_text" sTxt f fd) (T : TxL K mg) : FnOk P w K mg base CX0 1 f fd ["n"] spTxt := by
  refine F.ok scTxt (fun vs H Q E h => ?_) (fun cdv A outer s H vs Q E hr h => ?_)
  · obtain ⟨n, rfl, _⟩ := h
    rfl
  · obtain ⟨n, rfl, hn, q⟩ := h
    refine ⟨_, pss_cons (ps_if (pt_cmpR op_eq (pv 0) pe_int (nomark _)) (pss_one (ps_ret pe_str)) pss_nil)
      (pss_cons (ps_set (i := 1) scTxt.nd rfl (Or.inl rfl) (pe_lst pa_nil))
      (pss_cons (ps_set (i := 2) scTxt.nd rfl (Or.inl rfl) (pe_callB call_abs (by rfl) T.abs (by decide +kernel) (pa_cons (pv 0) pa_nil)))
      (pss_cons (ps_while PassesOwn.never (pt_cmpR op_gt (pv 2) pe_int (nomark _))
        (pss_cons (ps_expr (pe_bm PySem.F.plainAttrs_list PySem.F.slot_list_append PySem.F.type_list_append mt_append (pv 1) (pa_cons (pe_ix ix_str pe_str (pe_op op_modN (pe_callTy call_int1 (by rfl) T.int (by decide +kernel) (pa_cons (pv 2) pa_nil)) pe_int) fun _ _ => rfl) pa_nil)))
        (pss_one (ps_set (i := 2) scTxt.nd rfl (Or.inl rfl) (pe_op op_fdivN (pv 2) pe_int)))))
      (pss_cons (ps_expr (pe_bm0 PySem.F.plainAttrs_list PySem.F.slot_list_reverse PySem.F.type_list_reverse mt_reverse (pv 1)))
      (pss_cons (ps_set (i := 3) scTxt.nd rfl (Or.inl rfl) (pe_ifExp (pt_cmpR op_lt (pv 0) pe_int (nomark _)) pe_str pe_str))
      (pss_one (ps_ret (pe_op op_add_str (pv 3) (pe_bm PySem.F.plainAttrs_str PySem.F.slot_str_join PySem.F.type_str_join mt_join pe_str (pa_cons (pv 1) pa_nil)))))))))), ?_⟩
    refine ⟨_, rfl, rfl, _, rfl, ite2 (fun c => ?_) (fun c => ?_)⟩
    · have h0 : n = 0 := V.int.inj (of_decide_eq_true c)
      have e : dec n = [48] := by
        rw [h0]
        decide +kernel
      have e2 : (Str.ofString "0") = S (dec n) := by
        rw [e]
        decide +kernel
      show Q (.str (Str.ofString "0")) H
      rw [e2]
      exact q H same_rfl
    have hn0 : n ≠ 0 := fun z => c (decide_eq_true (congrArg V.int z))
    refine ⟨Nat.zero_le _, fun l hl => ⟨_, rfl, _, rfl, ?_⟩⟩
    rw [abs_nat]
    have keep : ∀ {H' : Hp} {xs : List V}, Same H H' → Same H (upd H' l (.lst xs)) := fun {H' xs} s b o e => by
      rw [upd_ne (ne_of_none e hl)]
      exact s b o e
    refine while_by (fun σ H' => ∃ (rest : Nat) (cs : List Nat), σ = [some (.int n), some (.ref l), some (.int (rest : Int)), none] ∧ H' l = some (.lst (Ones cs)) ∧ Same H H' ∧ numZ n.natAbs = numZ rest ++ cs.reverse)
      (fun σ _ => match σ[2]? with | some (some (V.int y)) => y.natAbs | _ => 0) ⟨n.natAbs, [], rfl, upd_same, same_upd hl, by simp⟩ ?_ ?_
    · rintro σ H' ⟨rest, cs, rfl, hL, s1, hZ⟩
      have hml : (numZ n.natAbs).length ≤ 200 := by
        unfold numZ
        rw [if_neg (by omega)]
        exact TL.numL_len (by decide) hn
      have hcl : cs.length ≤ 200 := by
        rw [hZ, List.length_append, List.length_reverse] at hml
        omega
      refine ⟨_, rfl, _, _, rfl, rfl, _, rfl, ite2 (fun c2 => ?_) (fun c2 => ?_)⟩
      · have hr0 : 0 < rest := by
          have := of_decide_eq_true c2
          omega
        have em : (rest : Int).fmod 10 = ((rest % 10 : Nat) : Int) := by
          rw [Int.fmod_eq_emod_of_nonneg _ (by decide)]
          rfl
        have ed : (rest : Int).fdiv 10 = ((rest / 10 : Nat) : Int) := by
          rw [Int.fdiv_eq_ediv_of_nonneg _ (by decide)]
          rfl
        refine ⟨_, rfl, .inl ⟨rfl, _, SqL.of hL⟩, _, rfl, .inl ⟨_, rfl, _, _, rfl, rfl, (by show (10 : Int) ≠ 0; decide), _, _, 48 + rest % 10, rfl, rfl, by decide +kernel, ?_, _, _, _, rfl, rfl, hL, ?_, ?_⟩⟩
        · rw [em]
          exact atI_of (ten_at _ (Nat.mod_lt _ (by decide)))
        · unfold Ones
          rw [List.length_map]
          exact Nat.lt_of_le_of_lt hcl (by decide)
        · refine ⟨_, rfl, _, _, rfl, rfl, ⟨by decide, by decide⟩, ?_⟩
          refine ⟨⟨rest / 10, cs ++ [48 + rest % 10], ?_, ?_, keep s1, ?_⟩, ?_⟩
          · rw [← ed]
            rfl
          · rw [upd_same]
            unfold Ones
            rw [List.map_append]
            rfl
          · rw [hZ, numZ_step hr0]
            simp
          · show ((rest : Int).fdiv 10).natAbs < (rest : Int).natAbs
            rw [ed]
            omega
      · have hr0 : rest = 0 := by
          have : ¬ (0 : Int) < (rest : Int) := fun z => c2 (decide_eq_true z)
          omega
        subst hr0
        have hfin : cs.reverse = numL n.natAbs := by
          unfold numZ at hZ
          rw [if_neg (by omega), if_pos rfl] at hZ
          exact hZ.symm
        refine ⟨_, rfl, .inl ⟨rfl, _, SqL.of hL⟩, _, _, rfl, rfl, hL, ?_⟩
        have hL3 : (upd H' l (.lst (Ones cs).reverse)) l = some (.lst (((cs.reverse.map fun c => [c]).map S).map V.str)) := by
          rw [upd_same]
          unfold Ones
          rw [← List.map_reverse, List.map_map, List.map_map]
          rfl
        have ones : ∀ xs : List Nat, ((xs.map fun c => [c]).map (·.length)).sum = xs.length := fun xs => by
          induction xs with
          | nil => rfl
          | cons c xs ih =>
            show 1 + ((xs.map fun c => [c]).map (·.length)).sum = xs.length + 1
            rw [ih]
            omega
        have hsz : (((cs.reverse.map fun c => [c]).map S).map (·.length)).sum + ((cs.reverse.map fun c => [c]).map S).length * (Str.ofString "").length ≤ 16777216 := by
          have h3 : (Str.ofString "").length = 0 := by decide +kernel
          rw [h3, lens, ones, List.length_reverse]
          omega
        have hjn : Txt.join (Str.ofString "") ((cs.reverse.map fun c => [c]).map S) = S (numL n.natAbs) := by
          rw [show (Str.ofString "") = S [] by decide +kernel, join_S, join_ones_S, hfin]
        have hnl : (numL n.natAbs).length ≤ 200 := TL.numL_len (by decide) hn
        refine ⟨_, rfl, _, _, rfl, rfl, _, rfl, ite2 (fun c3 => ?_) (fun c3 => ?_)⟩
        · have hneg : n < 0 := of_decide_eq_true c3
          have e : S [45] ++ S (numL n.natAbs) = S (dec n) := by
            unfold dec
            rw [if_pos hneg, S_cat]
          refine ⟨_, rfl, rfl, _, rfl, _, l, _, rfl, rfl, .inl (SqL.of hL3), hsz, ?_⟩
          rw [hjn, show (Str.ofString "-") = S [45] by decide +kernel]
          refine ⟨_, _, rfl, rfl, ?_, ?_⟩
          · rw [S_len, S_len]
            exact Nat.le_trans (show 1 + _ ≤ 1000 by omega) (by decide)
          · rw [e]
            exact q _ (keep s1)
        · have hneg : ¬ n < 0 := fun z => c3 (decide_eq_true z)
          have e : S [] ++ S (numL n.natAbs) = S (dec n) := by
            unfold dec
            rw [if_neg hneg, S_cat]
          refine ⟨_, rfl, rfl, _, rfl, _, l, _, rfl, rfl, .inl (SqL.of hL3), hsz, ?_⟩
          rw [hjn, show (Str.ofString "") = S [] by decide +kernel]
          refine ⟨_, _, rfl, rfl, ?_, ?_⟩
          · rw [S_len, S_len]
            exact Nat.le_trans (show 0 + _ ≤ 1000 by omega) (by decide)
          · rw [e]
            exact q _ (keep s1)
    · rintro σ H' R R' hR ⟨v, e1, i, j, e2, e3, b1, e4, h3⟩
      exact ⟨v, e1, i, j, e2, e3, b1, e4, hR _ _ h3⟩
end
end Ind

set_option Elab.async false
set_option linter.all false
set_option maxRecDepth 100000
set_option maxHeartbeats 4000000
set_option exponentiation.threshold 3000
namespace Ind
open PySem PySem.Spec PyProof.Rows L2 SX
open Builtin.Int (intBits)
open TL (numL)
open PySem.NumText (AllDigits digitsVal)
/-- the spoilt texts -/
def bads (t p : List Nat) : List (List Nat) := [[], 43 :: t, 32 :: t, t ++ [32], 48 :: p, [45, 48], 45 :: 45 :: p, t ++ [47], 47 :: p, t ++ [47, 48], t ++ [47, 49], [50, 47, 52], [54, 47, 51], p ++ [47] ++ p, t ++ [46, 48], [120], p ++ [47, 47, 55], [48, 47, 53], 45 :: p ++ [45]]
def BadV (t p : List Nat) (H : Hp) (v : V) : Prop := (∃ u ∈ bads t p, v = .str (S u)) ∨ v = .non ∨ v = .int 5 ∨ ∃ q : Addr, v = .ref q ∧ H q = some (.tup [.str (S [49])])
def rowsV (t p : List Nat) (q : Addr) : List V := ([V.str (Str.ofString ""), V.str (Str.ofString "+" ++ S t), V.str (Str.ofString " " ++ S t), V.str (S t ++ Str.ofString " "), V.str (Str.ofString "0" ++ S p), V.str (Str.ofString "-0"),
  V.str (Str.ofString "--" ++ S p), V.str (S t ++ Str.ofString "/"), V.str (Str.ofString "/" ++ S p), V.str (S t ++ Str.ofString "/0")] ++ [V.str (S t ++ Str.ofString "/1"), V.str (Str.ofString "2/4"), V.str (Str.ofString "6/3"),
  V.str (S p ++ Str.ofString "/" ++ S p), V.str (S t ++ Str.ofString ".0"), V.str (Str.ofString "x"), V.str (S p ++ Str.ofString "//7"), V.str (Str.ofString "0/5"), V.str (Str.ofString "-" ++ S p ++ Str.ofString "-")]) ++ [V.non, V.int 5, V.ref q]
theorem rows_at (t p : List Nat) (q : Addr) (k : Int) : ∃ v, atI (rowsV t p q) (k.fmod 22) = some v ∧ v ∈ rowsV t p q := by
  have hm := fmod_in (x := k) (b := 22) (by decide)
  have hl : (rowsV t p q).length = 22 := rfl
  obtain ⟨j, hj⟩ : ∃ j : Nat, k.fmod 22 = (j : Int) := ⟨(k.fmod 22).toNat, by omega⟩
  rw [hj]
  have hlt : j < (rowsV t p q).length := by omega
  exact ⟨(rowsV t p q)[j], atI_of (List.getElem?_eq_getElem hlt), List.getElem_mem _⟩
theorem rows_bad {t p : List Nat} {q : Addr} {H : Hp} (hq : H q = some (.tup [.str (S [49])])) : ∀ v ∈ rowsV t p q, BadV t p H v := by
  have e1 : Str.ofString "" = S [] := by decide +kernel
  have e2 : Str.ofString "+" = S [43] := by decide +kernel
  have e3 : Str.ofString " " = S [32] := by decide +kernel
  have e4 : Str.ofString "0" = S [48] := by decide +kernel
  have e5 : Str.ofString "-0" = S [45, 48] := by decide +kernel
  have e6 : Str.ofString "--" = S [45, 45] := by decide +kernel
  have e7 : Str.ofString "/" = S [47] := by decide +kernel
  have e8 : Str.ofString "/0" = S [47, 48] := by decide +kernel
  have e9 : Str.ofString "/1" = S [47, 49] := by decide +kernel
  have e10 : Str.ofString "2/4" = S [50, 47, 52] := by decide +kernel
  have e11 : Str.ofString "6/3" = S [54, 47, 51] := by decide +kernel
  have e12 : Str.ofString ".0" = S [46, 48] := by decide +kernel
  have e13 : Str.ofString "x" = S [120] := by decide +kernel
  have e14 : Str.ofString "//7" = S [47, 47, 55] := by decide +kernel
  have e15 : Str.ofString "0/5" = S [48, 47, 53] := by decide +kernel
  have e16 : Str.ofString "-" = S [45] := by decide +kernel
  intro v hv
  unfold rowsV at hv
  rw [e1, e2, e3, e4, e5, e6, e7, e8, e9, e10, e11, e12, e13, e14, e15, e16] at hv
  simp only [S_cat] at hv
  rcases List.mem_append.mp hv with hv | hv
  · left
    have key : ∃ u ∈ bads t p, V.str (S u) = v := by
      have hv2 : v ∈ (bads t p).map fun u => V.str (S u) := by
        unfold bads
        simpa using hv
      exact List.mem_map.mp hv2
    obtain ⟨u, hu, e⟩ := key
    exact ⟨u, hu, e.symm⟩
  · right
    simp at hv
    rcases hv with rfl | rfl | rfl
    · exact .inl rfl
    · exact .inr (.inl rfl)
    · exact .inr (.inr ⟨q, rfl, hq⟩)
def spBad : Sp := fun vs H Q _ => ∃ (t p : List Nat) (k : Int), vs = [.str (S t), .str (S p), .int k] ∧ t.length ≤ 270 ∧ p.length ≤ 140 ∧ ∀ (H' : Hp) (v : V), Same H H' → BadV t p H' v → Q v H'
section
variable {P : Program} {w : World} {K : PySem.W.Frag} {mg : Str → Option Value} {base : Heap} {C Z : Addr}
theorem scBad : FnScope ["text", "plain", "k", "rows"] ["text", "plain", "k"] (defScope sBad) := ⟨rfl, rfl, rfl, by decide +kernel, rfl, by decide +kernel, by decide +kernel⟩
theorem ok_bad {f : Addr} {fd : FuncData} (F : Fun K "_law_bad" "_law_bad" sBad f fd) (T : TxL K mg) : FnOk P w K mg base CX0 1 f fd ["text", "plain", "k"] spBad := by
  refine F.ok scBad (fun vs H Q E h => ?_) (fun cdv A outer s H vs Q E hr h => ?_)
  · obtain ⟨t, p, k, rfl, _⟩ := h
    rfl
  · obtain ⟨t, p, k, rfl, ht, hp, q⟩ := h
    refine ⟨_, pss_cons (ps_set (i := 3) scBad.nd rfl (Or.inl rfl) (pe_lst (pa_cons pe_str (pa_cons (pe_op op_add_str pe_str (pv 0)) (pa_cons (pe_op op_add_str pe_str (pv 0)) (pa_cons (pe_op op_add_str (pv 0) pe_str) (pa_cons (pe_op op_add_str pe_str (pv 1)) (pa_cons pe_str
          (pa_cons (pe_op op_add_str pe_str (pv 1)) (pa_cons (pe_op op_add_str (pv 0) pe_str) (pa_cons (pe_op op_add_str pe_str (pv 1)) (pa_cons (pe_op op_add_str (pv 0) pe_str) pa_nil))))))))))))
      (pss_cons (ps_set (i := 3) scBad.nd rfl (Or.inl rfl) (pe_op op_cat (pv 3) (pe_lst (pa_cons (pe_op op_add_str (pv 0) pe_str) (pa_cons pe_str (pa_cons pe_str (pa_cons (pe_op op_add_str (pe_op op_add_str (pv 1) pe_str) (pv 1)) (pa_cons (pe_op op_add_str (pv 0) pe_str) (pa_cons pe_str
          (pa_cons (pe_op op_add_str (pv 1) pe_str) (pa_cons pe_str (pa_cons (pe_op op_add_str (pe_op op_add_str pe_str (pv 1)) pe_str) pa_nil))))))))))))
      (pss_cons (ps_set (i := 3) scBad.nd rfl (Or.inl rfl) (pe_op op_cat (pv 3) (pe_lst (pa_cons pe_non (pa_cons pe_int (pa_cons (pe_tup (pa_cons pe_str pa_nil)) pa_nil))))))
      (pss_one (ps_ret (pe_ix ix_list (pv 3) (pe_op op_modN (pv 2) (pe_callB call_len_seq (by rfl) T.len PySem.boot_len (pa_cons (pv 3) pa_nil))) fun _ _ => rfl))))), ?_⟩
    have sz : ∀ {a b : Str}, a.length ≤ 300 → b.length ≤ 300 → a.length + b.length ≤ sizeLine := fun {a b} h1 h2 => Nat.le_trans (show _ ≤ 600 by omega) (by decide)
    have lt : (S t).length ≤ 300 := by rw [S_len]; omega
    have lp : (S p).length ≤ 300 := by rw [S_len]; omega
    have pp : ∀ {a b : Str}, a.length ≤ 140 → b.length ≤ 10 → (a ++ b).length ≤ 300 := fun {a b} h1 h2 => by rw [PySem.Str.length_append]; omega
    have pp2 : ∀ {a b : Str}, a.length ≤ 10 → b.length ≤ 140 → (a ++ b).length ≤ 300 := fun {a b} h1 h2 => by rw [PySem.Str.length_append]; omega
    have lp2 : (S p).length ≤ 140 := by rw [S_len]; omega
    refine ⟨_, rfl, _, _, rfl, rfl, sz (by decide +kernel) lt, _, rfl, _, _, rfl, rfl, sz (by decide +kernel) lt, _, rfl, _, _, rfl, rfl, sz lt (by decide +kernel), _, rfl, _, _, rfl, rfl, sz (by decide +kernel) lp, _, rfl, _, _, rfl, rfl, sz (by decide +kernel) lp, _, rfl, _, _, rfl, rfl, sz lt (by decide +kernel),
      _, rfl, _, _, rfl, rfl, sz (by decide +kernel) lp, _, rfl, _, _, rfl, rfl, sz lt (by decide +kernel), by show 10 ≤ sizeLine; decide, fun p1 h1 => ?_⟩
    refine ⟨_, rfl, _, rfl, _, _, rfl, rfl, sz lt (by decide +kernel), _, rfl, _, _, rfl, rfl, sz lp (by decide +kernel), _, rfl, _, _, rfl, rfl, sz (pp lp2 (by decide +kernel)) lp, _, rfl, _, _, rfl, rfl, sz lt (by decide +kernel), _, rfl, _, _, rfl, rfl, sz lp (by decide +kernel),
      _, rfl, _, _, rfl, rfl, sz (by decide +kernel) lp, _, _, rfl, rfl, sz (pp2 (by decide +kernel) lp2) (by decide +kernel), by show 9 ≤ sizeLine; decide, fun p2 h2 => ?_⟩
    refine ⟨p1, p2, _, _, rfl, rfl, same_upd h2 _ _ upd_same, upd_same, by show 10 + 9 ≤ sizeLine; decide, fun p3 h3 => ?_⟩
    refine ⟨_, rfl, by show 1 ≤ sizeLine; decide, fun p4 h4 => ?_⟩
    refine ⟨by show 3 ≤ sizeLine; decide, fun p5 h5 => ?_⟩
    refine ⟨p3, p5, _, _, rfl, rfl, same_upd h5 _ _ (same_upd h4 _ _ upd_same), upd_same, by show 19 + 3 ≤ sizeLine; decide, fun p6 h6 => ?_⟩
    obtain ⟨v, hv, hvm⟩ := rows_at t p p4 k
    refine ⟨_, rfl, _, rfl, _, rfl, p6, _, rfl, .inl (SqL.of upd_same), _, _, rfl, rfl, (by show (22 : Int) ≠ 0; decide), p6, _, _, v, rfl, rfl, SqL.of upd_same, hv, ?_⟩
    refine q _ _ ((same_upd h1).trans ((same_upd h2).trans ((same_upd h3).trans ((same_upd h4).trans ((same_upd h5).trans (same_upd h6)))))) (rows_bad ?_ v hvm)
    exact same_upd h6 _ _ (same_upd h5 _ _ upd_same)
end
end Ind

set_option Elab.async false
set_option linter.all false
set_option maxRecDepth 100000
set_option maxHeartbeats 4000000
namespace Ind
open PySem SX
open TL (numL)
open PySem.NumText (AllDigits digitsVal)
theorem abv_mid : ∀ {x : List Nat} (y : List Nat), 47 ∉ x → abv (x ++ 47 :: y) = x ∧ blw (x ++ 47 :: y) = y ∧ slB (x ++ 47 :: y) = true
  | [], y, _ => ⟨(abv_47 y).1, (abv_47 y).2, by unfold slB; simp⟩
  | c :: x, y, h => by
    have e : c ≠ 47 := fun z => h (by rw [z]; simp)
    have ih := abv_mid (x := x) y fun z => h (List.mem_cons_of_mem _ z)
    refine ⟨?_, ?_, by unfold slB; simp⟩
    · rw [List.cons_append, (abv_ne e _).1, ih.1]
    · rw [List.cons_append, (abv_ne e _).2, ih.2.1]
theorem abv_all {x : List Nat} (h : 47 ∉ x) : abv x = x ∧ blw x = [] ∧ slB x = false := ⟨(cut_no h).1, (cut_no h).2, decide_eq_false h⟩
theorem dgs_of {u x : List Nat} (h : abv u = x) (h2 : x.head? ≠ some 45) : dgs u = x ∧ ngB u = false := by
  have e : ngB u = false := by
    unfold ngB
    rw [h]
    exact decide_eq_false h2
  unfold dgs
  rw [e, h]
  exact ⟨rfl, rfl⟩
theorem dgs_neg {u x : List Nat} (h : abv u = 45 :: x) : dgs u = x ∧ ngB u = true := by
  have e : ngB u = true := by
    unfold ngB
    rw [h]
    rfl
  unfold dgs
  rw [e, h]
  exact ⟨rfl, rfl⟩
theorem cnt_no {l : List Nat} {c : Nat} (h : c ∈ l) (hc : c < 48 ∨ 57 < c) : cntB l = false := by
  unfold cntB dgB
  have : l.all (fun c => decide (48 ≤ c) && decide (c ≤ 57)) = false := by
    rw [List.all_eq_false]
    refine ⟨c, h, ?_⟩
    rw [Bool.and_eq_true, decide_eq_true_eq, decide_eq_true_eq]
    omega
  rw [this]
  rfl
theorem rd_of1 {u : List Nat} (h : cntB (dgs u) = false) : (rd1 u && (rd2 u && rd3 u)) = false := by
  unfold rd1
  rw [h]
  rfl
theorem rd_of2 {u : List Nat} (hs : slB u = true) (h : cntB (blw u) = false) : (rd1 u && (rd2 u && rd3 u)) = false := by
  unfold rd2
  rw [h, hs]
  simp
theorem rd_of3 {u : List Nat} (h : rd3 u = false) : (rd1 u && (rd2 u && rd3 u)) = false := by
  rw [h, Bool.and_false, Bool.and_false]
theorem num_head : ∀ (m : Nat), 0 < m → ∃ c r, numL m = c :: r ∧ 49 ≤ c ∧ c ≤ 57 := by
  intro m
  induction m using Nat.strongRecOn with
  | _ m ih =>
    intro h
    by_cases hm : m < 10
    · exact ⟨48 + m, [], TL.numL_lt hm, by omega, by omega⟩
    · obtain ⟨c, r, e, h1, h2⟩ := ih (m / 10) (by omega) (by omega)
      exact ⟨c, r ++ [48 + m % 10], by rw [TL.numL_step (by omega), e]; rfl, h1, h2⟩
theorem num_zero : numL 0 = [48] := TL.numL_lt (by decide)
theorem num_one : numL 1 = [49] := TL.numL_lt (by decide)
theorem num_hd (m : Nat) : (numL m).head? ≠ some 45 := fun h => by
  have hd := TL.numL_digits m
  cases e : numL m with
  | nil => rw [e] at h; cases h
  | cons c r =>
    rw [e] at h
    have hc := hd c (by rw [e]; simp)
    have : c = 45 := by simpa using h
    omega
theorem num_47 (m : Nat) : 47 ∉ numL m := TL.numL_free (.inl (by decide))
theorem cnt_num (m : Nat) : cntB (numL m) = true := by
  have hd := TL.numL_digits m
  have hne := TL.numL_ne m
  unfold cntB dgB
  have h1 : (numL m).all (fun c => decide (48 ≤ c) && decide (c ≤ 57)) = true := List.all_eq_true.mpr fun c hc => by
    have := hd c hc
    rw [Bool.and_eq_true, decide_eq_true_eq, decide_eq_true_eq]
    exact this
  have h2 : (numL m).isEmpty = false := by
    cases e : numL m with
    | nil => exact absurd e hne
    | cons c r => rfl
  have h3 : (decide (numL m = [48]) || !decide ((numL m).head? = some 48)) = true := by
    by_cases z : m = 0
    · subst z
      rw [num_zero]
      rfl
    · obtain ⟨c, r, e, c1, c2⟩ := num_head m (by omega)
      have : (numL m).head? ≠ some 48 := by
        rw [e]
        intro q
        have : c = 48 := by simpa using q
        omega
      rw [decide_eq_false this]
      simp
  rw [h1, h2, h3]
  rfl
theorem num_is {m k : Nat} (h : numL m = numL k) : m = k := TL.numL_inj h
/-- no denominator 0 is taken -/
theorem rd_zero {u : List Nat} (h : dnm u = 0) : (rd1 u && (rd2 u && rd3 u)) = false := by
  unfold dnm at h
  cases hs : slB u with
  | false => rw [hs] at h; cases h
  | true =>
    rw [hs] at h
    have h : digitsVal (blw u) = 0 := h
    cases hc : cntB (blw u) with
    | false => exact rd_of2 hs hc
    | true =>
      have hd := cnt_digits hc
      unfold cntB at hc
      rw [Bool.and_eq_true] at hc
      have h4 := hc.2
      have e48 : blw u = [48] := by
        by_cases z : blw u = [48]
        · exact z
        · exfalso
          rw [decide_eq_false z, Bool.false_or, Bool.not_eq_true', decide_eq_false_iff_not] at h4
          cases e : blw u with
          | nil => exact hd.2 e
          | cons c r =>
            rw [e] at h4 h
            have hcd := hd.1 c (by rw [e]; simp)
            have e2 := digitsVal_app [c] r
            rw [digitsVal_one] at e2
            have e3 : digitsVal (c :: r) = (c - 48) * 10 ^ r.length + digitsVal r := e2
            rw [e3] at h
            have hp : 0 < 10 ^ r.length := Nat.pow_pos (by decide)
            have hc48 : c ≠ 48 := fun z => h4 (by rw [z]; rfl)
            have : 1 * 10 ^ r.length ≤ (c - 48) * 10 ^ r.length := Nat.mul_le_mul_right _ (by omega)
            omega
      unfold rd2
      rw [hs, e48]
      simp
end Ind

set_option Elab.async false
set_option linter.all false
set_option maxRecDepth 100000
set_option maxHeartbeats 4000000
namespace Ind
open PySem SX
open TL (numL)
open PySem.NumText (AllDigits digitsVal)
theorem dec_47 (a : Int) : 47 ∉ dec a := by
  unfold dec
  intro h
  rcases List.mem_append.mp h with z | z
  · split at z
    · simp at z
    · simp at z
  · exact num_47 _ z
theorem dec_pos {b : Int} (h : 0 < b) : dec b = numL b.natAbs := by
  unfold dec
  rw [if_neg (by omega)]
  rfl
theorem rtx_one (a : Int) : rtx a 1 = dec a := by
  unfold rtx
  rw [if_pos rfl, List.append_nil]
theorem rtx_ne {a b : Int} (h : b ≠ 1) : rtx a b = dec a ++ 47 :: dec b := by
  unfold rtx
  rw [if_neg h]
/-- ahead of the slash a number stands -/
theorem dgs_dec {u : List Nat} {a : Int} (h : abv u = dec a) : dgs u = numL a.natAbs ∧ ngB u = decide (a < 0) := by
  by_cases n : a < 0
  · have e : dec a = 45 :: numL a.natAbs := by
      unfold dec
      rw [if_pos n]
      rfl
    rw [decide_eq_true n]
    exact dgs_neg (h.trans e)
  · have e : dec a = numL a.natAbs := by
      unfold dec
      rw [if_neg n]
      rfl
    rw [decide_eq_false n]
    exact dgs_of (h.trans e) (num_hd _)
theorem rd_good {a b : Int} (hb : 0 < b) (hg : Nat.gcd a.natAbs b.natAbs = 1) : (rd1 (rtx a b) && (rd2 (rtx a b) && rd3 (rtx a b))) = true ∧ upm (rtx a b) = a ∧ dnm (rtx a b) = b.natAbs := by
  have habv : abv (rtx a b) = dec a ∧ (b = 1 → slB (rtx a b) = false) ∧ (b ≠ 1 → slB (rtx a b) = true ∧ blw (rtx a b) = numL b.natAbs) := by
    by_cases h : b = 1
    · subst h
      rw [rtx_one]
      have e := abv_all (dec_47 a)
      exact ⟨e.1, fun _ => e.2.2, fun z => absurd rfl z⟩
    · rw [rtx_ne h]
      have e := abv_mid (dec b) (dec_47 a)
      exact ⟨e.1, fun z => absurd z h, fun _ => ⟨e.2.2, by rw [e.2.1, dec_pos hb]⟩⟩
  obtain ⟨h1, h2, h3⟩ := habv
  have hd := dgs_dec h1
  have hdn : dnm (rtx a b) = b.natAbs := by
    unfold dnm
    by_cases h : b = 1
    · rw [h2 h, h]
      rfl
    · rw [(h3 h).1, (h3 h).2]
      show digitsVal (numL b.natAbs) = _
      rw [TL.numL_val]
  have r1 : rd1 (rtx a b) = true := by
    unfold rd1
    rw [hd.1, cnt_num]
    by_cases z : numL a.natAbs = [48]
    · have e0 : a.natAbs = 0 := num_is (z.trans num_zero.symm)
      have eb : b = 1 := by
        rw [e0, Nat.gcd_zero_left] at hg
        omega
      have ea : a = 0 := by omega
      subst eb ea
      rw [rtx_one]
      have : dec 0 = [48] := by decide +kernel
      rw [this]
      rfl
    · rw [decide_eq_false z]
      rfl
  have r2 : rd2 (rtx a b) = true := by
    unfold rd2
    by_cases h : b = 1
    · rw [h2 h]
      rfl
    · rw [(h3 h).1, (h3 h).2, cnt_num]
      have e1 : ¬ numL b.natAbs = [48] := fun z => by
        have := num_is (z.trans num_zero.symm)
        omega
      have e2 : ¬ numL b.natAbs = [49] := fun z => by
        have := num_is (z.trans num_one.symm)
        omega
      rw [decide_eq_false e1, decide_eq_false e2]
      rfl
  have r3 : rd3 (rtx a b) = true := by
    unfold rd3
    rw [hd.1, TL.numL_val, hdn]
    exact decide_eq_true hg
  refine ⟨by rw [r1, r2, r3]; rfl, ?_, hdn⟩
  unfold upm
  rw [hd.2, hd.1, TL.numL_val]
  by_cases n : a < 0
  · rw [decide_eq_true n, if_pos rfl]
    omega
  · rw [decide_eq_false n, if_neg (by decide)]
    omega
/-- a sign that no number has, at the end -/
theorem bad_tail {a b : Int} (hb : 0 < b) {s : List Nat} {c : Nat} (hc : c ∈ s) (hc2 : c < 48 ∨ 57 < c) (hs : 47 ∉ s) : (rd1 (rtx a b ++ s) && (rd2 (rtx a b ++ s) && rd3 (rtx a b ++ s))) = false := by
  by_cases h : b = 1
  · subst h
    rw [rtx_one]
    have e := abv_all (x := dec a ++ s) fun z => by
      rcases List.mem_append.mp z with y | y
      · exact dec_47 a y
      · exact hs y
    refine rd_of1 ?_
    by_cases n : a < 0
    · have e2 : dec a ++ s = 45 :: (numL a.natAbs ++ s) := by
        unfold dec
        rw [if_pos n]
        rfl
      rw [(dgs_neg (e.1.trans e2)).1]
      exact cnt_no (List.mem_append_right _ hc) hc2
    · have e2 : dec a ++ s = numL a.natAbs ++ s := by
        unfold dec
        rw [if_neg n]
        rfl
      have hh : (numL a.natAbs ++ s).head? ≠ some 45 := by
        have h1 := num_hd a.natAbs
        cases e3 : numL a.natAbs with
        | nil => exact absurd e3 (TL.numL_ne _)
        | cons d r =>
          rw [e3] at h1
          exact h1
      rw [(dgs_of (e.1.trans e2) hh).1]
      exact cnt_no (List.mem_append_right _ hc) hc2
  · rw [rtx_ne h, List.append_assoc]
    have e := abv_mid (dec b ++ s) (dec_47 a)
    refine rd_of2 e.2.2 ?_
    show cntB (blw (dec a ++ 47 :: (dec b ++ s))) = false
    rw [e.2.1]
    exact cnt_no (List.mem_append_right _ hc) hc2
theorem bad_slash {a b : Int} (hb : 0 < b) {s : List Nat} (hs : (cntB s && !(decide (s = [48]) || decide (s = [49]))) = false) : (rd1 (rtx a b ++ 47 :: s) && (rd2 (rtx a b ++ 47 :: s) && rd3 (rtx a b ++ 47 :: s))) = false := by
  by_cases h : b = 1
  · subst h
    rw [rtx_one]
    have e := abv_mid s (dec_47 a)
    have : rd2 (dec a ++ 47 :: s) = false := by
      unfold rd2
      rw [e.2.2, e.2.1, hs]
      rfl
    rw [this]
    simp
  · rw [rtx_ne h, List.append_assoc]
    have e := abv_mid (dec b ++ 47 :: s) (dec_47 a)
    refine rd_of2 e.2.2 ?_
    show cntB (blw (dec a ++ 47 :: (dec b ++ 47 :: s))) = false
    rw [e.2.1]
    exact cnt_no (c := 47) (by simp) (.inl (by decide))
theorem bad_head {c : Nat} {r : List Nat} (h1 : c ≠ 47) (h2 : c ≠ 45) (h3 : c < 48 ∨ 57 < c) : (rd1 (c :: r) && (rd2 (c :: r) && rd3 (c :: r))) = false := by
  have e := (abv_ne h1 r).1
  refine rd_of1 ?_
  rw [(dgs_of e (fun z => h2 (by simpa using z))).1]
  exact cnt_no (c := c) (by simp) h3
theorem rd_bad {a b : Int} (hb : 0 < b) (hg : Nat.gcd a.natAbs b.natAbs = 1) : ∀ u ∈ bads (rtx a b) (dec b), (rd1 u && (rd2 u && rd3 u)) = false := by
  intro u hu
  rw [dec_pos hb] at hu
  have hp47 := num_47 b.natAbs
  obtain ⟨c, r, ep, c1, c2⟩ := num_head b.natAbs (by omega)
  unfold bads at hu
  simp only [List.mem_cons, List.not_mem_nil, or_false] at hu
  rcases hu with rfl | rfl | rfl | rfl | rfl | rfl | rfl | rfl | rfl | rfl | rfl | rfl | rfl | rfl | rfl | rfl | rfl | rfl | rfl
  · decide
  · exact bad_head (by decide) (by decide) (.inl (by decide))
  · exact bad_head (by decide) (by decide) (.inl (by decide))
  · exact bad_tail hb (c := 32) (by simp) (.inl (by decide)) (by simp)
  · have e := abv_all (x := 48 :: numL b.natAbs) fun z => by
      rcases List.mem_cons.mp z with y | y
      · cases y
      · exact hp47 y
    refine rd_of1 ?_
    rw [(dgs_of e.1 (by simp)).1, ep]
    unfold cntB
    rw [decide_eq_false (show ¬ (48 :: c :: r = [48]) by simp), decide_eq_true (show (48 :: c :: r).head? = some 48 from rfl)]
    simp
  · decide +kernel
  · have e := abv_all (x := 45 :: 45 :: numL b.natAbs) fun z => by
      rcases List.mem_cons.mp z with y | y
      · cases y
      · rcases List.mem_cons.mp y with x | x
        · cases x
        · exact hp47 x
    refine rd_of1 ?_
    rw [(dgs_neg e.1).1]
    exact cnt_no (c := 45) (by simp) (.inl (by decide))
  · exact bad_slash hb (s := []) (by decide)
  · refine rd_of1 ?_
    rw [(dgs_of (abv_47 _).1 (by simp)).1]
    decide
  · exact bad_slash hb (s := [48]) (by decide)
  · exact bad_slash hb (s := [49]) (by decide)
  · decide +kernel
  · decide +kernel
  · have e := abv_mid (numL b.natAbs) hp47
    have e1 : numL b.natAbs ++ [47] ++ numL b.natAbs = numL b.natAbs ++ 47 :: numL b.natAbs := by simp
    rw [e1]
    by_cases h : b = 1
    · subst h
      have : rd2 (numL (1 : Int).natAbs ++ 47 :: numL (1 : Int).natAbs) = false := by decide +kernel
      rw [this]
      simp
    · refine rd_of3 ?_
      unfold rd3 dnm
      rw [e.2.2, e.2.1, (dgs_of e.1 (num_hd _)).1]
      show decide (Nat.gcd (digitsVal (numL b.natAbs)) (digitsVal (numL b.natAbs)) = 1) = false
      rw [TL.numL_val]
      exact decide_eq_false (by rw [Nat.gcd_self]; omega)
  · exact bad_tail hb (c := 46) (by simp) (.inl (by decide)) (by simp)
  · decide +kernel
  · have e := abv_mid [47, 55] hp47
    refine rd_of2 e.2.2 ?_
    show cntB (blw (numL b.natAbs ++ 47 :: [47, 55])) = false
    rw [e.2.1]
    decide
  · decide +kernel
  · have e := abv_all (x := 45 :: numL b.natAbs ++ [45]) fun z => by
      rcases List.mem_append.mp z with y | y
      · rcases List.mem_cons.mp y with x | x
        · cases x
        · exact hp47 x
      · simp at y
    refine rd_of1 ?_
    rw [(dgs_neg (x := numL b.natAbs ++ [45]) e.1).1]
    exact cnt_no (c := 45) (by simp) (.inl (by decide))
end Ind

set_option Elab.async false
set_option linter.all false
set_option maxRecDepth 100000
set_option maxHeartbeats 4000000
set_option exponentiation.threshold 3000
namespace Ind
open PySem PySem.Spec PyProof.Rows L2 SX
open Builtin.Int (intBits)
open TL (numL)
open PySem.NumText (AllDigits digitsVal)
abbrev sLaw : Stmt := top 26
def spLaw (K : PySem.W.Frag) : Sp := fun vs H Q _ => ∃ (a : Addr) (ns : List Int), vs = [.ref a] ∧ SqL K H a (ns.map V.int) ∧ ∀ H', Q (.bl true) H'
theorem ne_pair {K : PySem.W.Frag} {H : Hp} {t u : Addr} {a b : Int} {Q : VK} (ht : H t = some (.tup [.int a, .int b])) (hu : H u = some (.tup [.int a, .int b])) (q : Q (.bl false) H) : rNeD K (.ref t) (.ref u) H Q := by
  refine ⟨.tuple [.int a, .int b], .tuple [.int a, .int b], .tup (SqT.of ht) (.cons (.int a) (.cons (.int b) .nil)), .tup (SqT.of hu) (.cons (.int a) (.cons (.int b) .nil)), rfl, rfl, ?_⟩
  have e : PyData.eqv (.tuple [.int a, .int b]) (.tuple [.int a, .int b]) = true := by simp [PyData.eqv, PyData.eqvAll]
  rw [e]
  exact q
theorem eight {σ : L2.St} (h : σ.length = 8) : ∃ a b c d e f g i, σ = [a, b, c, d, e, f, g, i] := by
  match σ, h with
  | [a, b, c, d, e, f, g, i], _ => exact ⟨a, b, c, d, e, f, g, i, rfl⟩
def EW (W : WX) (n : Nat) : XK := fun cls d H => ∀ σ : L2.St, σ.length = n → W cls d σ H
theorem passW {X : Cx} {W : WX} {n : Nat} (tk : Takes X W) (hn : X.N.length = n) : Passes (L2.CX X.prog X.w) X (EW W n) :=
  fun _ σ _ _ e s' I c => tk e s' (XE.of_call I (fun _ _ _ h => h σ (I.len.trans hn)) c)
theorem dec_len130 {n : Int} (h : n.natAbs < 10 ^ 130) : (dec n).length ≤ 131 := by
  have := TL.numL_len (k := 130) (by decide) h
  unfold dec
  rw [List.length_append]
  split
  · show 1 + _ ≤ 131
    omega
  · show 0 + _ ≤ 131
    omega
/-- each spoilt value is refused -/
theorem bad_read {K : PySem.W.Frag} {C Nt : Addr} {a b : Int} {H : Hp} {v : V} {Q : VK} {E : XK} (hb : 0 < b) (hg : Nat.gcd a.natAbs b.natAbs = 1) (lt : (rtx a b).length ≤ 263) (lb : (dec b).length ≤ 131) (hv : BadV (rtx a b) (dec b) H v) (k : NtE Nt H E) : spRead K C Nt [v] H Q E := by
  rcases hv with ⟨u, hu, rfl⟩ | rfl | rfl | ⟨qa, rfl, hq⟩
  · have h := rd_bad hb hg u hu
    refine .inl ⟨u, rfl, ?_, fun _ => k, (fun z => by rw [h] at z; cases z), fun z => rd_zero z⟩
    unfold bads at hu
    simp only [List.mem_cons, List.not_mem_nil, or_false] at hu
    rcases hu with rfl | rfl | rfl | rfl | rfl | rfl | rfl | rfl | rfl | rfl | rfl | rfl | rfl | rfl | rfl | rfl | rfl | rfl | rfl <;> simp <;> omega
  · exact .inr ⟨.non, _, rfl, .base .non, kit_ty (by decide +kernel), k⟩
  · exact .inr ⟨.int 5, _, rfl, .base (.int 5), kit_ty (by decide +kernel), k⟩
  · exact .inr ⟨.ref qa, _, rfl, .base (.tup hq), kit_ty (by decide +kernel), k⟩
/-- the defs that the law calls -/
structure Lw (P : Program) (w : World) (K : PySem.W.Frag) (mg : Str → Option Value) (base : Heap) (C Z Nt : Addr) : Prop where
  dig : ∃ f fd, FnOk P w K mg base CX0 3 f fd ["script", "at"] (spDig K) ∧ PySem.W.keepIn K (.ref f) = true ∧ Binds K fd ["script", "at"] [] ∧ mg "_law_digits" = some (.ref f)
  whl : ∃ f fd, FnOk P w K mg base CX0 1 f fd ["digits"] spWhl ∧ PySem.W.keepIn K (.ref f) = true ∧ Binds K fd ["digits"] [] ∧ mg "_law_whole" = some (.ref f)
  drw : ∃ f fd, FnOk P w K mg base CX0 2 f fd ["script", "at", "count", "bound"] (spDraws K) ∧ PySem.W.keepIn K (.ref f) = true ∧ Binds K fd ["script", "at", "count", "bound"] [] ∧ mg "_law_draws" = some (.ref f)
  rat : ∃ f fd, FnOk P w K mg base CX0 41 f fd ["n", "d"] spRatT ∧ PySem.W.keepIn K (.ref f) = true ∧ Binds K fd ["n", "d"] [] ∧ mg "_law_rat" = some (.ref f)
  txt : ∃ f fd, FnOk P w K mg base CX0 1 f fd ["n"] spTxt ∧ PySem.W.keepIn K (.ref f) = true ∧ Binds K fd ["n"] [] ∧ mg "_law_text" = some (.ref f)
  bad : ∃ f fd, FnOk P w K mg base CX0 1 f fd ["text", "plain", "k"] spBad ∧ PySem.W.keepIn K (.ref f) = true ∧ Binds K fd ["text", "plain", "k"] [] ∧ mg "_law_bad" = some (.ref f)
  pair : ∃ f fd, FnOk P w K mg base CX0 2 f fd ["value"] (spPair C) ∧ PySem.W.keepIn K (.ref f) = true ∧ Binds K fd ["value"] [] ∧ mg "_law_pair" = some (.ref f)
  isi : ∃ f fd, FnOk P w K mg base CX0 1 f fd ["value"] spIsI ∧ PySem.W.keepIn K (.ref f) = true ∧ Binds K fd ["value"] [] ∧ mg "_law_is_integer" = some (.ref f)
  read : ∃ f fd, FnOk P w K mg base (L2.CX P w) 43 f fd ["text"] (spRead K C Nt) ∧ PySem.W.keepIn K (.ref f) = true ∧ Binds K fd ["text"] [] ∧ mg "read_ratio" = some (.ref f)
  mkr : ∃ f fd, MkR P w K mg base C Z f fd
  str : ∃ f fd, FnOk P w K mg base CX0 2 f fd ["self"] (spStr C) ∧ PySem.W.findIn K (.ref C) "__str__" = some (some (.ref f)) ∧ PySem.W.isFn K (.ref f) = true ∧ Binds K fd ["self"] []
/-- NoText at the clause, and what isinstance says of values that are no texts -/
structure TxN (K : PySem.W.Frag) (mg : Str → Option Value) (Nt : Addr) : Prop where
  g : mg "NoText" = some (.ref Nt)
  ex : PySem.W.exmOne K (.ref Nt) (.ref Nt) = some true
  xf : XfC K Nt
  no : PySem.W.findIn K (.ref Nt) "at" = some none
section
variable {P : Program} {w : World} {K : PySem.W.Frag} {mg : Str → Option Value} {base : Heap} {C Z Nt : Addr}
theorem scL : FnScope ["script", "n", "d", "row", "a", "text", "where", "e"] ["script"] (defScope sLaw) := ⟨rfl, rfl, rfl, by decide +kernel, rfl, by decide +kernel, by decide +kernel⟩
theorem ok_law {f : Addr} {fd : FuncData} (F : Fun K "law" "law" sLaw f fd) (T : TxL K mg) (G : TxP mg) (R : TxR K mg C Z) (L : Lw P w K mg base C Z Nt) (N : TxN K mg Nt) : FnOk P w K mg base CX0 44 f fd ["script"] (spLaw K) := by
  obtain ⟨f1, d1, F1, k1, b1, g1⟩ := L.dig
  obtain ⟨f2, d2, F2, k2, b2, g2⟩ := L.whl
  obtain ⟨f3, d3, F3, k3, b3, g3⟩ := L.drw
  obtain ⟨f4, d4, F4, k4, b4, g4⟩ := L.rat
  obtain ⟨f5, d5, F5, k5, b5, g5⟩ := L.txt
  obtain ⟨f6, d6, F6, k6, b6, g6⟩ := L.bad
  obtain ⟨f7, d7, F7, k7, b7, g7⟩ := L.pair
  obtain ⟨f8, d8, F8, k8, b8, g8⟩ := L.isi
  obtain ⟨f9, d9, F9, k9, b9, g9⟩ := L.read
  obtain ⟨fI, dI, M⟩ := L.mkr
  obtain ⟨fS, dS, FS, stS, isS, bS⟩ := L.str
  refine F.ok scL (fun vs H Q E h => ?_) (fun cdv A outer s H vs Q E hr h => ?_)
  · obtain ⟨a, ns, rfl, _⟩ := h
    rfl
  · obtain ⟨a, ns, rfl, hS, q⟩ := h
    have h1 := hr.mono (show 1 ≤ 43 by decide)
    have h2 := hr.mono (show 2 ≤ 43 by decide)
    have h3 := hr.mono (show 3 ≤ 43 by decide)
    have h4 := hr.mono (show 4 ≤ 43 by decide)
    have h41 := hr.mono (show 41 ≤ 43 by decide)
    have h42 := hr.mono (show 42 ≤ 43 by decide)
    refine ⟨_, pss_cons (ps_set (i := 1) scL.nd rfl (Or.inl rfl) (pe_call F2 h1 (by rfl) g2 k2 b2 .nil pass0 (pa_cons (pe_call F1 h3 (by rfl) g1 k1 b1 .nil pass0 (pa_cons (pv 0) (pa_cons pe_int pa_nil))) pa_nil)))
      (pss_cons (ps_set (i := 2) scL.nd rfl (Or.inl rfl) (pe_call F2 h1 (by rfl) g2 k2 b2 .nil pass0 (pa_cons (pe_call F1 h3 (by rfl) g1 k1 b1 .nil pass0 (pa_cons (pv 0) (pa_cons pe_int pa_nil))) pa_nil)))
      (pss_cons (ps_set (i := 3) scL.nd rfl (Or.inl rfl) (pe_call F3 h2 (by rfl) g3 k3 b3 .nil pass0 (pa_cons (pv 0) (pa_cons pe_int (pa_cons pe_int (pa_cons pe_int pa_nil))))))
      (C8.pss_cut (ps_if (pt_cmpR op_eq (pe_op op_modN (pe_ix ix_list (pv 3) pe_int fun _ _ => rfl) pe_int) pe_int (nomark _)) (pss_one (ps_set (i := 1) scL.nd rfl (Or.inl rfl) pe_int)) pss_nil)
      (C8.pss_cut (ps_if (pt_cmpR op_eq (pe_op op_modN (pe_ix ix_list (pv 3) pe_int fun _ _ => rfl) pe_int) pe_int (nomark _)) (pss_one (ps_set (i := 1) scL.nd rfl (Or.inl rfl) (pe_un un_neg (pv 1)))) pss_nil)
      (C8.pss_cut (ps_if (pt_cmpR op_eq (pe_op op_modN (pe_ix ix_list (pv 3) pe_int fun _ _ => rfl) pe_int) pe_int (nomark _)) (pss_one (ps_set (i := 2) scL.nd rfl (Or.inl rfl) pe_int)) pss_nil)
      (pss_cons (ps_set (i := 4) scL.nd rfl (Or.inl rfl) (pe_call F4 h41 (by rfl) g4 k4 b4 .nil pass0 (pa_cons (pv 1) (pa_cons (pv 2) pa_nil))))
      (pss_cons (ps_set (i := 5) scL.nd rfl (Or.inl rfl) (pe_call F5 h1 (by rfl) g5 k5 b5 .nil pass0 (pa_cons (pe_ix ix_tup (pv 4) pe_int fun _ _ => rfl) pa_nil)))
      (C8.pss_cut (ps_if (pt_cmpR op_ne (pe_ix ix_tup (pv 4) pe_int fun _ _ => rfl) pe_int (nomark _)) (pss_one (ps_set (i := 5) scL.nd rfl (Or.inl rfl) (pe_op op_add_str (pe_op op_add_str (pv 5) pe_str) (pe_call F5 h1 (by rfl) g5 k5 b5 .nil pass0 (pa_cons (pe_ix ix_tup (pv 4) pe_int fun _ _ => rfl) pa_nil))))) pss_nil)
      (pss_cons (ps_if (PW.pt (pw_or (pt_cmpR op_ne (pe_callTy (call_strO (E := fun _ _ _ => False) ⟨FS, stS, isS, bS, pass0⟩ h4) (by rfl) G.str (by decide +kernel) (pa_cons (pe_make M.cm M.fn h42 (by rfl) R.mgC M.b2 .nil passL (pa_cons (pv 1) (pa_cons (pv 2) pa_nil))) pa_nil)) (pv 5) (nomark _))
          (pw_or1 (pt_cmpR (op_neD hr.units) (pe_call F7 h2 (by rfl) g7 k7 b7 .nil pass0 (pa_cons (pe_call F9 hr (by rfl) g9 k9 b9 .nil passL (pa_cons (pv 5) pa_nil)) pa_nil)) (pv 4) (nomark _)))))
        (pss_one (ps_ret pe_bl)) pss_nil)
      (pss_cons (ps_set (i := 6) scL.nd rfl (Or.inl rfl) (pe_un un_neg pe_int))
      (pss_cons (ps_try_as (i := 7) (c := .ref Nt) (Wout := fun _ _ _ _ => False) rfl rfl scL.nd rfl rfl ⟨rfl, by decide, .inl N.g⟩ takes0
        (fun W pn xe tk _ => pss_one (ps_expr (pe_call (E := EW W 8) F9 hr (by rfl) g9 k9 b9 .nil (passW tk rfl) (pa_cons (pe_call F6 h1 (by rfl) g6 k6 b6 .nil pass0 (pa_cons (pv 5) (pa_cons (pe_call F5 h1 (by rfl) g5 k5 b5 .nil pass0 (pa_cons (pe_ix (r := rIxT K) ix_tup (pv 4) pe_int fun _ _ => rfl) pa_nil)) (pa_cons (pe_ix (r := rIxL K) ix_list (pv 3) pe_int fun _ _ => rfl) pa_nil)))) pa_nil))))
        (fun a oe cls d pn hz hf => pss_one (ps_set (i := 6) scL.nd rfl (Or.inl rfl) (pe_xf N.xf N.no hz hf (pv 7)))))
      (pss_one (ps_ret (pe_and (pe_call F8 h1 (by rfl) g8 k8 b8 .nil pass0 (pa_cons (pv 6) pa_nil)) (pe_one (pe_cmpR op_eq (pv 6) pe_int (nomark _))))))))))))))))), ?_⟩
    refine ⟨_, rfl, a, ns, 0, rfl, hS, by decide, fun H1 p1 ds1 s1 hp1 hd1 => ⟨p1, ds1, rfl, hp1, hd1, fun n0 hn0 hn1 => ?_⟩⟩
    refine ⟨_, rfl, a, ns, 1, rfl, s1.seq hS, by decide, fun H2 p2 ds2 s2 hp2 hd2 => ⟨p2, ds2, rfl, hp2, hd2, fun d0 hd0 hd1' => ?_⟩⟩
    refine ⟨_, rfl, a, ns, 2, 3, 66, rfl, s2.seq (s1.seq hS), by decide, by decide, by decide, by decide, fun ds H3 l hR s3 hl hL => ?_⟩
    obtain ⟨x, y, z, rfl⟩ : ∃ x y z, ds = [x, y, z] := by
      have := hR.1
      match ds, this with
      | [x, y, z], _ => exact ⟨x, y, z, rfl⟩
    refine ⟨fun σ' H' => H' = H3 ∧ ∃ n : Int, σ' = [some (.ref a), some (.int n), some (.int (d0 : Int)), some (.ref l), none, none, none, none] ∧ n.natAbs < 10 ^ 130, ?_, ?_⟩
    · refine ⟨_, rfl, l, _, _, _, rfl, rfl, SqL.of hL, atI_of (k := 0) rfl, _, _, rfl, rfl, (by show (5 : Int) ≠ 0; decide), rfl, _, rfl, ite2 (fun _ => ?_) (fun _ => ?_)⟩
      · exact ⟨rfl, 0, rfl, by decide⟩
      · exact ⟨rfl, _, rfl, by omega⟩
    rintro σ' H' ⟨rfl, n1, rfl, hn2⟩
    refine ⟨fun σ' H'' => H'' = H' ∧ ∃ n : Int, σ' = [some (.ref a), some (.int n), some (.int (d0 : Int)), some (.ref l), none, none, none, none] ∧ n.natAbs < 10 ^ 130, ?_, ?_⟩
    · refine ⟨_, rfl, l, _, _, _, rfl, rfl, SqL.of hL, atI_of (k := 0) rfl, _, _, rfl, rfl, (by show (2 : Int) ≠ 0; decide), rfl, _, rfl, ite2 (fun _ => ?_) (fun _ => ?_)⟩
      · exact ⟨_, rfl, _, rfl, rfl, _, rfl, by rw [Int.natAbs_neg]; exact hn2⟩
      · exact ⟨rfl, _, rfl, hn2⟩
    rintro σ' H4 ⟨rfl, n, rfl, hn3⟩
    refine ⟨fun σ' H'' => H'' = H4 ∧ ∃ d : Int, σ' = [some (.ref a), some (.int n), some (.int d), some (.ref l), none, none, none, none] ∧ 0 < d ∧ d.natAbs < 10 ^ 130, ?_, ?_⟩
    · refine ⟨_, rfl, l, _, _, _, rfl, rfl, SqL.of hL, atI_of (k := 1) rfl, _, _, rfl, rfl, (by show (3 : Int) ≠ 0; decide), rfl, _, rfl, ite2 (fun _ => ?_) (fun _ => ?_)⟩
      · exact ⟨rfl, 1, rfl, by decide, by decide⟩
      · exact ⟨rfl, _, rfl, by omega, by omega⟩
    rintro σ' H5 ⟨rfl, d, rfl, hdp, hdb⟩
    have hdz : d ≠ 0 := by omega
    refine ⟨_, rfl, _, rfl, n, d, rfl, hdz, fun H6 ta s6 hta => ?_⟩
    have hp : 0 < nD n d := nD_pos hdz
    have hg : Nat.gcd (nN n d).natAbs (nD n d).natAbs = 1 := n_gcd hdz
    have big : (10 : Nat) ^ 130 ≤ 10 ^ 200 := Nat.pow_le_pow_right (by decide) (by decide)
    have hpm : (nN n d).natAbs < 10 ^ 130 := by
      have := PySem.natAbs_fdiv_le n (cg n d)
      show (n.fdiv (cg n d)).natAbs < _
      omega
    have hqm : (nD n d).natAbs < 10 ^ 130 := by
      have := PySem.natAbs_fdiv_le d (cg n d)
      show (d.fdiv (cg n d)).natAbs < _
      omega
    have hpn : (nN n d).natAbs < 10 ^ 200 := Nat.lt_of_lt_of_le hpm big
    have hqn : (nD n d).natAbs < 10 ^ 200 := Nat.lt_of_lt_of_le hqm big
    have hlow : nN (nN n d) (nD n d) = nN n d ∧ nD (nN n d) (nD n d) = nD n d :=
      low_uniq (nD_pos (Int.ne_of_gt hp)) hp (n_gcd (Int.ne_of_gt hp)) hg (n_cross (Int.ne_of_gt hp))
    generalize hP : nN n d = p at *
    generalize hQ : nD n d = b at *
    have ldp : (dec p).length ≤ 131 := dec_len130 hpm
    have ldb : (dec b).length ≤ 131 := dec_len130 hqm
    have lrt : (rtx p b).length ≤ 263 := by
      unfold rtx
      rw [List.length_append]
      split
      · show _ + 0 ≤ _
        omega
      · rw [List.length_cons]
        omega
    refine ⟨_, rfl, ta, _, _, _, rfl, rfl, SqT.of hta, atI_of (k := 0) rfl, p, rfl, hpn, fun H7 s7 => ?_⟩
    have hta7 := PairAt.same hta s7
    have s07 : Same H H7 := s1.trans (s2.trans (s3.trans (s6.trans s7)))
    have hL7 := s7 _ _ (s6 _ _ hL)
    refine ⟨fun σ' H' => σ' = [some (.ref a), some (.int n), some (.int d), some (.ref l), some (.ref ta), some (.str (S (rtx p b))), none, none] ∧ Same H7 H', ?_, ?_⟩
    · refine ⟨_, rfl, ta, _, _, _, rfl, rfl, SqT.of hta7, atI_of (k := 1) rfl, rfl, _, rfl, ite2 (fun c => ?_) (fun c => ?_)⟩
      · have hb1 : b ≠ 1 := fun e => by
          rw [e] at c
          simp at c
        refine ⟨_, rfl, _, _, rfl, rfl, ?_, _, rfl, ta, _, _, _, rfl, rfl, SqT.of hta7, atI_of (k := 1) rfl, b, rfl, hqn, fun H8 s8 => ⟨_, _, rfl, rfl, ?_, ?_, s8⟩⟩
        · rw [S_len]
          exact Nat.le_trans (Nat.add_le_add ldp (show (Str.ofString "/").length ≤ 10 by decide +kernel)) (by decide)
        · rw [PySem.Str.length_append, S_len, S_len]
          exact Nat.le_trans (Nat.add_le_add (Nat.add_le_add ldp (show (Str.ofString "/").length ≤ 10 by decide +kernel)) ldb) (by decide)
        · have e : S (dec p) ++ Str.ofString "/" ++ S (dec b) = S (rtx p b) := by
            rw [rtx_ne hb1, show (Str.ofString "/") = S [47] by decide +kernel, S_cat, S_cat]
            simp
          rw [← e]
          rfl
      · have hb1 : b = 1 := by
          have z : ¬ ¬ (V.int b = V.int 1) := by simpa using c
          exact V.int.inj (Classical.not_not.mp z)
        refine ⟨?_, same_rfl⟩
        rw [hb1, rtx_one]
        rfl
    rintro σ' H8 ⟨rfl, s8⟩
    have hta8 := PairAt.same hta7 s8
    have hL8 := s8 _ _ hL7
    refine ⟨_, rfl, _, rfl, fun x dx nx ndx ner => ⟨x, dx, n, d, rfl, upd_same, fun z => absurd z hdz, fun _ H9 rr kk => ⟨rfl, ?_⟩⟩⟩
    rw [hP, hQ] at rr
    have s9 : Same H8 H9 := Same.made nx ndx kk
    obtain ⟨ix, jx⟩ := id rr
    refine ⟨x, ix, _, rfl, jx, x, p, b, rfl, rr, hpn, hqn, fun H10 s10 => ⟨_, rfl, _, rfl, rfl, _, rfl, ?_⟩⟩
    have hta10 := PairAt.same hta8 (s9.trans s10)
    have hL10 := s10 _ _ (s9 _ _ hL8)
    have hgood := rd_good (a := p) (b := b) hp hg
    have hbn : ((b.natAbs : Nat) : Int) = b := by omega
    refine ite2 (fun c => absurd c (by simp)) (fun _ => ?_)
    refine ⟨_, rfl, .inl ⟨rtx p b, rfl, by omega, fun z => ?_, fun _ _ r H11 rr2 s11 => ?_, fun z => ?_⟩⟩
    · rw [hgood.1] at z
      cases z
    rotate_left
    · exact rd_zero z
    rw [hgood.2.1, hgood.2.2, hbn, hlow.1, hlow.2] at rr2
    refine ⟨r, p, b, rfl, rr2, hp, hg, fun H12 u s12 nu hu => ⟨_, rfl, ne_pair hu (PairAt.same hta10 (s11.trans s12)) ⟨_, rfl, iteF ?_⟩⟩⟩
    have hta12 := PairAt.same hta10 (s11.trans s12)
    have hL12 := s12 _ _ (s11 _ _ hL10)
    refine ⟨_, rfl, ?_⟩
    refine ⟨_, rfl, _, rfl, ta, _, _, _, rfl, rfl, SqT.of hta12, atI_of (k := 1) rfl, b, rfl, hqn, fun H13 s13 => ?_⟩
    have hL13 := s13 _ _ hL12
    refine ⟨_, rfl, l, _, _, _, rfl, rfl, SqL.of hL13, atI_of (k := 2) rfl, rtx p b, dec b, z, rfl, by omega, by omega, fun H14 v s14 hv => ?_⟩
    unfold tNil
    show spRead K C Nt [v] H14 _ _
    refine bad_read hp hg lrt ldb hv ?_
    intro H15 dd s15 hdd σ hσ
    obtain ⟨v0, v1, v2, v3, v4, v5, v6, v7, rfl⟩ := eight hσ
    refine ⟨true, N.ex, fun _ ea hea => ?_, fun z => Bool.noConfusion z⟩
    refine ⟨_, rfl, rfl, rfl, dd, _, _, rfl, hdd, rfl, ?_⟩
    refine ⟨_, rfl, 0, rfl, true, rfl, iteT ⟨_, rfl, rfl, ?_⟩⟩
    exact q _
end
end Ind

set_option Elab.async false
set_option linter.all false
set_option maxRecDepth 100000
set_option maxHeartbeats 4000000
namespace Ind
open PySem PySem.Spec PyProof.Rows L2
open Builtin.Int (intBits)
/-! ### the end of a law's row, where the base is known to let a long division run -/
section
variable {K L : PySem.W.Frag} {h base : Heap}
theorem look_app (K L : PySem.W.Frag) (a : Addr) : (K ++ L).lookup a = (K.lookup a).or (L.lookup a) := List.lookup_append
theorem ext_in (X : K.In h) (hL : ∀ p ∈ L, h.get? p.1 = some p.2) : PySem.W.Frag.In (K ++ L) h := fun a o e => by
  rw [look_app] at e
  cases q : K.lookup a with
  | some u =>
    rw [q] at e
    have e1 : u = o := Option.some.inj e
    exact X a o (e1 ▸ q)
  | none =>
    rw [q] at e
    have e2 : L.lookup a = some o := e
    obtain ⟨l1, l2, e3, _⟩ := List.lookup_eq_some_iff.mp e2
    exact hL (a, o) (by rw [e3]; simp)
theorem ext_at (X : K.In h) (hL : ∀ p ∈ L, h.get? p.1 = some p.2) (B : PySem.W.Frag.In (K ++ L) base) {a : Addr} {o : Obj} (hp : (a, o) ∈ L) : base.get? a = some o := by
  cases q : List.lookup a (K ++ L) with
  | none =>
    rw [look_app] at q
    have q2 : L.lookup a = none := by
      cases z : K.lookup a with
      | some u => rw [z] at q; cases q
      | none => rw [z] at q; exact q
    have := List.lookup_eq_none_iff.mp q2 (a, o) hp
    simp at this
  | some u =>
    have h1 : h.get? a = some u := ext_in X hL a u q
    have h2 := hL (a, o) hp
    rw [h1] at h2
    cases h2
    exact B a o q
theorem app_in (B : PySem.W.Frag.In (K ++ L) base) : K.In base := fun a o e => B a o (by rw [look_app, e]; rfl)
end
/-- the objects that a long division asks for -/
structure Seen (h : Heap) (L : PySem.W.Frag) : Prop where
  at_ : ∀ p ∈ L, h.get? p.1 = some p.2
  no : ∀ p ∈ L, p.2.cls ≠ .type "list" ∨ ∃ es ep, p.2.data = .dict es ep
  far : ∀ base : Heap, (∀ a o, (a, o) ∈ L → base.get? a = some o) → base.NoSeer
theorem seen_of {h : Heap} (x : h.NoSeer) : ∃ L, Seen h L := by
  obtain ⟨⟨m1, ⟨o1, e1, p1, g1, d1, r1⟩, s1, s2⟩, ⟨m2, ⟨o2, e2, p2, g2, d2, r2⟩, s3⟩, ⟨m3, ⟨o3, e3, p3, g3, d3, r3⟩, s4⟩, ⟨m4, bm, ob, ⟨o4, e4, p4, g4, d4, r4⟩, s5, g5, c5, s6⟩⟩ := x
  refine ⟨[(cStatics, o1), (sysModules, o2), (builtinsNs, o3), (mainGlobals, o4), (bm, ob)], ⟨fun p hp => ?_, fun p hp => ?_, fun base k => ?_⟩⟩
  · simp only [List.mem_cons, List.not_mem_nil, or_false] at hp
    rcases hp with rfl | rfl | rfl | rfl | rfl <;> assumption
  · simp only [List.mem_cons, List.not_mem_nil, or_false] at hp
    rcases hp with rfl | rfl | rfl | rfl | rfl
    · exact .inr ⟨_, _, d1⟩
    · exact .inr ⟨_, _, d2⟩
    · exact .inr ⟨_, _, d3⟩
    · exact .inr ⟨_, _, d4⟩
    · exact .inl (by show ob.cls ≠ _; rw [c5]; intro z; exact absurd (Value.type.inj z) (by decide))
  · exact ⟨⟨m1, ⟨o1, e1, p1, k _ _ (by simp), d1, r1⟩, s1, s2⟩, ⟨m2, ⟨o2, e2, p2, k _ _ (by simp), d2, r2⟩, s3⟩, ⟨m3, ⟨o3, e3, p3, k _ _ (by simp), d3, r3⟩, s4⟩, ⟨m4, bm, ob, ⟨o4, e4, p4, k _ _ (by simp), d4, r4⟩, s5, k _ _ (by simp), c5, s6⟩⟩
theorem sql_app {K L : PySem.W.Frag} {h : Heap} (S : Seen h L) {H : Hp} {a : Addr} {xs : List V} (q : SqL (K ++ L) H a xs) : SqL K H a xs := by
  rcases q with q | ⟨o, its, n, lk, c, d, dt, r⟩
  · exact .inl q
  · rw [look_app] at lk
    cases z : K.lookup a with
    | some u =>
      rw [z] at lk
      cases lk
      exact .inr ⟨o, its, n, z, c, d, dt, r⟩
    | none =>
      rw [z] at lk
      have lk2 : L.lookup a = some o := lk
      obtain ⟨l1, l2, e3, _⟩ := List.lookup_eq_some_iff.mp lk2
      rcases S.no (a, o) (by rw [e3]; simp) with w | ⟨es, ep, w⟩
      · exact absurd c w
      · rw [show o.data = _ from w] at dt
        cases dt
/-- a def's promise over a larger written part -/
theorem lift_fn {P : Program} {w : World} {K K' : PySem.W.Frag} {mg : Str → Option Value} {base : Heap} {CX : CXT} {k : Nat} {f : Addr} {fd : FuncData} {ps : List Str} {sp : Sp} (kin : K.In base) (F : FnOk P w K mg base CX k f fd ps sp) : FnOk P w K' mg base CX k f fd ps sp :=
  ⟨F.len, fun A outer s H args us vs Q E hr e0 => F.run A outer s H args us vs Q E hr ⟨e0.frames, ⟨kin, e0.mod.glob, e0.mod.blt, e0.mod.nolimit⟩, e0.bs, e0.bsz, e0.funs, e0.frf, e0.hok, e0.bare⟩⟩
theorem walk_far {l : PySem.W.OpenLaw} {n k : Nat} {q : Program} {loose : List Str} {XP : (Str → Option Value) → Heap → Prop} {YP : World → Heap → Prop} {d : DefRec} {K : Params → PySem.W.Frag} {sp : World → Sp} {x : Str}
    (hn : l.most = some n) (hn2 : n ≤ sizeLine) (hdf : d.params.defaults = []) (hr : Room k callerA) (hi : importsNone q = true)
    (hY : ∀ (w : World) (h : Heap), YP w h → (K w.params).In h)
    (F : ∀ (w : World) (mg : Str → Option Value) (fa : Addr) (h : Heap), (K w.params).In h → h.Ns mainGlobals mg → mg d.name = some (.ref fa) →
      ∃ fd : FuncData, (∀ (s : Shared) (u : Value), BindsTo s fd ⟨[u], []⟩ [(x, u)]) ∧
        ∀ base : Heap, (K w.params).In base → base.Ns mainGlobals mg → base.NoSeer → FnOk l.prog w (K w.params) mg base CX0 k fa fd [x] (sp w))
    (hsp : ∀ (w : World) (H : Hp) (a : Addr) (ns : List Int), ns.length ≤ n → (∀ z ∈ ns, intBits z ≤ 1048576) → SqL (K w.params) H a (ns.map V.int) → sp w [.ref a] H (fun v _ => v = .bl true) fun _ _ _ => False) :
    PySem.W.WalkO q loose XP YP l.row.toRowW d [] (fun f vs => PySem.call f vs) := by
  refine Att.attach_callB hn hdf fun w s₀ s₁ mg mb fa o pm cd doc a vs ns G Y ho hd hcd hmg hobj hints hlen hbits hg => ?_
  have KX := hY w _ Y
  obtain ⟨L, S⟩ := seen_of (G.T.seer hi)
  obtain ⟨fd, hb, hF⟩ := F w mg fa _ KX G.T.g hmg
  refine law_call (K := K w.params ++ L) (CX := CX0) (ext_in KX S.at_) G.T.g G.T.b G.T.builtins G.T.nolimit hg hobj hints (Nat.le_trans hlen hn2) hr (fun base B g => lift_fn (app_in B) (hF base (app_in B) g (S.far base fun a o hp => ext_at KX S.at_ B hp))) hb (fun H _ hS => hsp w H a ns hlen hbits (sql_app S hS)) fun _ _ _ z => z
end Ind

set_option Elab.async false
set_option linter.all false
set_option maxRecDepth 100000
set_option maxHeartbeats 4000000
namespace Ind
open PySem PySem.Spec PyProof.Rows L2
open Builtin.Int (intBits)
theorem all_mk {P : Program} {w : World} {K : PySem.W.Frag} {h : Heap} {mg : Str → Option Value} {fa C Z Nt fDc fNo fSt fRd fIc fC fD fG fRt fS fP fDg fWh fTx fBd fL : Addr} (hT : P.given.tree = none) (X : K.In h) (G : h.Ns mainGlobals mg) (hfa : mg "law" = some (.ref fa))
    {ocDc kVDc dcDc pmDc cdDc ctDc : Value} {odDc anDc : Option Addr} {slDc : Array (Option Value)}
    {ocNo kVNo dcNo pmNo cdNo ctNo : Value} {odNo anNo : Option Addr} {slNo : Array (Option Value)}
    {ocSt kVSt dcSt pmSt cdSt ctSt : Value} {odSt anSt : Option Addr} {slSt : Array (Option Value)}
    {ocRd kVRd dcRd pmRd cdRd ctRd : Value} {odRd anRd : Option Addr} {slRd : Array (Option Value)}
    {ocIc kVIc dcIc pmIc cdIc ctIc : Value} {odIc anIc : Option Addr} {slIc : Array (Option Value)}
    {ocC kVC dcC pmC cdC ctC : Value} {odC anC : Option Addr} {slC : Array (Option Value)}
    {ocD kVD dcD pmD cdD ctD : Value} {odD anD : Option Addr} {slD : Array (Option Value)}
    {ocG kVG dcG pmG cdG ctG : Value} {odG anG : Option Addr} {slG : Array (Option Value)}
    {ocRt kVRt dcRt pmRt cdRt ctRt : Value} {odRt anRt : Option Addr} {slRt : Array (Option Value)}
    {ocS kVS dcS pmS cdS ctS : Value} {odS anS : Option Addr} {slS : Array (Option Value)}
    {ocP kVP dcP pmP cdP ctP : Value} {odP anP : Option Addr} {slP : Array (Option Value)}
    {ocDg kVDg dcDg pmDg cdDg ctDg : Value} {odDg anDg : Option Addr} {slDg : Array (Option Value)}
    {ocWh kVWh dcWh pmWh cdWh ctWh : Value} {odWh anWh : Option Addr} {slWh : Array (Option Value)}
    {ocTx kVTx dcTx pmTx cdTx ctTx : Value} {odTx anTx : Option Addr} {slTx : Array (Option Value)}
    {ocBd kVBd dcBd pmBd cdBd ctBd : Value} {odBd anBd : Option Addr} {slBd : Array (Option Value)}
    {ocL kVL dcL pmL cdL ctL : Value} {odL anL : Option Addr} {slL : Array (Option Value)}
    {ocI kVI dcI pmI cdI ctI cT : Value} {odI anI ddT : Option Addr} {slI slT : Array (Option Value)} {tT : Tok} {nT : Nat} {fI T' : Addr}
    {vPart vDig : Value}
    {nmN qN : Str} {NN : Addr} {bsN bmN subN : List Value} {snN : List Str} {abN : Bool} {colN : Option Bool} {ddN : Option Addr} {k0N k1N k2N k3N k5N : Option Value}
    {ocN kVN dcN pmN ctN cclN clN : Value} {odN anN cddN cldN : Option Addr} {slN ccsN cslN : Array (Option Value)} {fN ccN cdaN : Addr} {vsN : Array Value} {flN : Str} {tfN : Tok}
    (aDc : PySem.W.nsIn K mainGlobals "decimal" = some (some (.ref fDc)))
    (lDc : K.lookup fDc = some ⟨ocDc, odDc, .func (PySem.W.fnOf "decimal" "decimal" (defArgs sDec) (defBody sDec) (defScope sDec) .none kVDc dcDc pmDc anDc cdDc ctDc), slDc⟩)
    (cDc : PySem.W.codeIn K cdDc "decimal" = true)
    (kpDc : PySem.W.keepIn K (.ref fDc) = true)
    (aNo : PySem.W.nsIn K mainGlobals "number_of" = some (some (.ref fNo)))
    (lNo : K.lookup fNo = some ⟨ocNo, odNo, .func (PySem.W.fnOf "number_of" "number_of" (defArgs sNum) (defBody sNum) (defScope sNum) .none kVNo dcNo pmNo anNo cdNo ctNo), slNo⟩)
    (cNo : PySem.W.codeIn K cdNo "number_of" = true)
    (kpNo : PySem.W.keepIn K (.ref fNo) = true)
    (aSt : PySem.W.findIn K (.ref C) "__str__" = some (some (.ref fSt)))
    (iSt : PySem.W.isFn K (.ref fSt) = true)
    (lSt : K.lookup fSt = some ⟨ocSt, odSt, .func (PySem.W.fnOf "__str__" "Ratio.__str__" (defArgs sStr) (defBody sStr) (defScope sStr) .none kVSt dcSt pmSt anSt cdSt ctSt), slSt⟩)
    (cSt : PySem.W.codeIn K cdSt "Ratio.__str__" = true)
    (kpSt : PySem.W.keepIn K (.ref fSt) = true)
    (aRd : PySem.W.nsIn K mainGlobals "read_ratio" = some (some (.ref fRd)))
    (lRd : K.lookup fRd = some ⟨ocRd, odRd, .func (PySem.W.fnOf "read_ratio" "read_ratio" (defArgs sRead) (defBody sRead) (defScope sRead) .none kVRd dcRd pmRd anRd cdRd ctRd), slRd⟩)
    (cRd : PySem.W.codeIn K cdRd "read_ratio" = true)
    (kpRd : PySem.W.keepIn K (.ref fRd) = true)
    (aIc : PySem.W.nsIn K mainGlobals "is_count" = some (some (.ref fIc)))
    (lIc : K.lookup fIc = some ⟨ocIc, odIc, .func (PySem.W.fnOf "is_count" "is_count" (defArgs sCnt) (defBody sCnt) (defScope sCnt) .none kVIc dcIc pmIc anIc cdIc ctIc), slIc⟩)
    (cIc : PySem.W.codeIn K cdIc "is_count" = true)
    (kpIc : PySem.W.keepIn K (.ref fIc) = true)
    (aC : PySem.W.nsIn K mainGlobals "_law_cell" = some (some (.ref fC)))
    (lC : K.lookup fC = some ⟨ocC, odC, .func (PySem.W.fnOf "_law_cell" "_law_cell" (defArgs sCell) (defBody sCell) (defScope sCell) .none kVC dcC pmC anC cdC ctC), slC⟩)
    (cC : PySem.W.codeIn K cdC "_law_cell" = true)
    (kpC : PySem.W.keepIn K (.ref fC) = true)
    (aD : PySem.W.nsIn K mainGlobals "_law_draws" = some (some (.ref fD)))
    (lD : K.lookup fD = some ⟨ocD, odD, .func (PySem.W.fnOf "_law_draws" "_law_draws" (defArgs sDraws) (defBody sDraws) (defScope sDraws) .none kVD dcD pmD anD cdD ctD), slD⟩)
    (cD : PySem.W.codeIn K cdD "_law_draws" = true)
    (kpD : PySem.W.keepIn K (.ref fD) = true)
    (aG : PySem.W.nsIn K mainGlobals "_law_gcd" = some (some (.ref fG)))
    (lG : K.lookup fG = some ⟨ocG, odG, .func (PySem.W.fnOf "_law_gcd" "_law_gcd" (defArgs sGcd) (defBody sGcd) (defScope sGcd) .none kVG dcG pmG anG cdG ctG), slG⟩)
    (cG : PySem.W.codeIn K cdG "_law_gcd" = true)
    (kpG : PySem.W.keepIn K (.ref fG) = true)
    (aRt : PySem.W.nsIn K mainGlobals "_law_rat" = some (some (.ref fRt)))
    (lRt : K.lookup fRt = some ⟨ocRt, odRt, .func (PySem.W.fnOf "_law_rat" "_law_rat" (defArgs sRat) (defBody sRat) (defScope sRat) .none kVRt dcRt pmRt anRt cdRt ctRt), slRt⟩)
    (cRt : PySem.W.codeIn K cdRt "_law_rat" = true)
    (kpRt : PySem.W.keepIn K (.ref fRt) = true)
    (aS : PySem.W.nsIn K mainGlobals "_law_is_integer" = some (some (.ref fS)))
    (lS : K.lookup fS = some ⟨ocS, odS, .func (PySem.W.fnOf "_law_is_integer" "_law_is_integer" (defArgs sIsI) (defBody sIsI) (defScope sIsI) .none kVS dcS pmS anS cdS ctS), slS⟩)
    (cS : PySem.W.codeIn K cdS "_law_is_integer" = true)
    (kpS : PySem.W.keepIn K (.ref fS) = true)
    (aP : PySem.W.nsIn K mainGlobals "_law_pair" = some (some (.ref fP)))
    (lP : K.lookup fP = some ⟨ocP, odP, .func (PySem.W.fnOf "_law_pair" "_law_pair" (defArgs sPair) (defBody sPair) (defScope sPair) .none kVP dcP pmP anP cdP ctP), slP⟩)
    (cP : PySem.W.codeIn K cdP "_law_pair" = true)
    (kpP : PySem.W.keepIn K (.ref fP) = true)
    (aDg : PySem.W.nsIn K mainGlobals "_law_digits" = some (some (.ref fDg)))
    (lDg : K.lookup fDg = some ⟨ocDg, odDg, .func (PySem.W.fnOf "_law_digits" "_law_digits" (defArgs sDig) (defBody sDig) (defScope sDig) .none kVDg dcDg pmDg anDg cdDg ctDg), slDg⟩)
    (cDg : PySem.W.codeIn K cdDg "_law_digits" = true)
    (kpDg : PySem.W.keepIn K (.ref fDg) = true)
    (aWh : PySem.W.nsIn K mainGlobals "_law_whole" = some (some (.ref fWh)))
    (lWh : K.lookup fWh = some ⟨ocWh, odWh, .func (PySem.W.fnOf "_law_whole" "_law_whole" (defArgs sWhl) (defBody sWhl) (defScope sWhl) .none kVWh dcWh pmWh anWh cdWh ctWh), slWh⟩)
    (cWh : PySem.W.codeIn K cdWh "_law_whole" = true)
    (kpWh : PySem.W.keepIn K (.ref fWh) = true)
    (aTx : PySem.W.nsIn K mainGlobals "_law_text" = some (some (.ref fTx)))
    (lTx : K.lookup fTx = some ⟨ocTx, odTx, .func (PySem.W.fnOf "_law_text" "_law_text" (defArgs sTxt) (defBody sTxt) (defScope sTxt) .none kVTx dcTx pmTx anTx cdTx ctTx), slTx⟩)
    (cTx : PySem.W.codeIn K cdTx "_law_text" = true)
    (kpTx : PySem.W.keepIn K (.ref fTx) = true)
    (aBd : PySem.W.nsIn K mainGlobals "_law_bad" = some (some (.ref fBd)))
    (lBd : K.lookup fBd = some ⟨ocBd, odBd, .func (PySem.W.fnOf "_law_bad" "_law_bad" (defArgs sBad) (defBody sBad) (defScope sBad) .none kVBd dcBd pmBd anBd cdBd ctBd), slBd⟩)
    (cBd : PySem.W.codeIn K cdBd "_law_bad" = true)
    (kpBd : PySem.W.keepIn K (.ref fBd) = true)
    (aL : PySem.W.nsIn K mainGlobals "law" = some (some (.ref fL)))
    (lL : K.lookup fL = some ⟨ocL, odL, .func (PySem.W.fnOf "law" "law" (defArgs sLaw) (defBody sLaw) (defScope sLaw) .none kVL dcL pmL anL cdL ctL), slL⟩)
    (cL : PySem.W.codeIn K cdL "law" = true)
    (kpL : PySem.W.keepIn K (.ref fL) = true)
    (aI : PySem.W.findIn K (.ref C) "__init__" = some (some (.ref fI)))
    (iI : PySem.W.isFn K (.ref fI) = true)
    (lI : K.lookup fI = some ⟨ocI, odI, .func (PySem.W.fnOf "__init__" "Ratio.__init__" (defArgs sInit) (defBody sInit) (defScope sInit) (.ref T') kVI dcI pmI anI cdI ctI), slI⟩)
    (lT : K.lookup T' = some ⟨cT, ddT, .seq #[.int 1 tT] nT, slT⟩)
    (cI : PySem.W.codeIn K cdI "Ratio.__init__" = true)
    (kpI : PySem.W.keepIn K (.ref fI) = true)
    (gC : PySem.W.nsIn K mainGlobals "Ratio" = some (some (.ref C)))
    (pg : PySem.W.plainGet K C Str.empty = true)
    (hd : PySem.W.hasDictIn K C = true)
    (po : PySem.W.plainOver K C = true)
    (sa : PySem.W.findIn K (.ref C) "__setattr__" = some (some (.builtin "object.__setattr__")))
    (mk : PySem.W.makesIn K C = true)
    (kpC' : PySem.W.keepIn K (.ref C) = true)
    (nN : PySem.W.findIn K (.ref C) "n" = some none)
    (nD : PySem.W.findIn K (.ref C) "d" = some none)
    (gg : PySem.W.nsIn K mainGlobals "gcd" = some (some (.builtin "math.gcd")))
    (xZ : PySem.W.excIn K Z [.type "ValueError", .type "Exception", .type "BaseException", .type "object"] "ValueError.__new__" = true)
    (gZ : PySem.W.nsIn K mainGlobals "ZeroDivisor" = some (some (.ref Z)))
    (kpZ : PySem.W.keepIn K (.ref Z) = true)
    (bZ : PySem.W.subIn K (.ref Z) (.type "BaseException") = some true)
    (tZ : PySem.W.typeIn K (.ref Z) = some (.type "type"))
    (zlen : PySem.W.nsIn K mainGlobals "len" = some none)
    (zrange : PySem.W.nsIn K mainGlobals "range" = some none)
    (zint : PySem.W.nsIn K mainGlobals "int" = some none)
    (zabs : PySem.W.nsIn K mainGlobals "abs" = some none)
    (zisi : PySem.W.nsIn K mainGlobals "isinstance" = some none)
    (zbool : PySem.W.nsIn K mainGlobals "bool" = some none)
    (zdm : PySem.W.nsIn K mainGlobals "divmod" = some none)
    (zstr : PySem.W.nsIn K mainGlobals "str" = some none)
    (zmax : PySem.W.nsIn K mainGlobals "max" = some none)
    (zsup : PySem.W.nsIn K mainGlobals "super" = some none)
    (ca : PySem.W.findIn K (.ref C) "__class__" = some (some (.builtin "object.__class__")))
    (cn : PySem.W.specialIn K (.builtin "object.__class__") "__get__" = some (some (.builtin "getset_descriptor.__get__")))
    (ct : PySem.W.takesIn K (.builtin "object.__class__") = some true)
    (cm : PySem.W.mroIn K C (.type "object") = some true)
    (ck : PySem.W.kitOne K (.ref C) (.ref C) = some true)
    (gPart : PySem.W.nsIn K mainGlobals "PART" = some (some vPart))
    (rPart : RelV (.int (10 ^ 64)) vPart)
    (gDig : PySem.W.nsIn K mainGlobals "DIGITS" = some (some vDig))
    (rDig : RelV (.int 64) vDig)
    (gN : PySem.W.nsIn K mainGlobals "NoText" = some (some (.ref Nt)))
    (lN : K.lookup Nt = some (excClassObj nmN qN Nt NN bsN bmN true snN subN abN colN ddN k0N k1N k2N k3N k5N "ValueError.__new__"))
    (vN : PySem.HandSPX.refsVE bmN = true)
    (sN : PySem.W.findIn K (.ref Nt) "__setattr__" = some (some (.builtin "object.__setattr__")))
    (bN : PySem.W.subIn K (.ref Nt) (.type "BaseException") = some true)
    (tN : PySem.W.typeIn K (.ref Nt) = some (.type "type"))
    (kpN : PySem.W.keepIn K (.ref Nt) = true)
    (iN : PySem.W.findIn K (.ref Nt) "__init__" = some (some (.ref fN)))
    (tfN' : PySem.W.typeIn K (.ref fN) = some (.type "function"))
    (fnN : K.lookup fN = some ⟨ocN, odN, .func (PySem.W.fnX "__init__" "NoText.__init__" (defArgs sNt) (defBody sNt) (defScope sNt) [("__class__", ccN)] .none kVN dcN pmN anN (.ref cdaN) ctN), slN⟩)
    (cdN : PySem.W.codeIn K (.ref cdaN) "NoText.__init__" = true)
    (cfN : K.lookup cdaN = some ⟨cclN, cddN, .fields vsN, ccsN⟩)
    (h2N : vsN[2]? = some (.str flN tfN))
    (hfN : ((P.main.file : Str) == flN) = true)
    (ceN : K.lookup ccN = some ⟨clN, cldN, .cell (some (.ref Nt)), cslN⟩)
    (mN : PySem.W.mroIn K Nt (.ref Nt) = some true)
    (suN : PySem.W.ks_superIn K Nt Nt "__init__" = some (some (.builtin "ValueError.__init__")))
    (sbN : PySem.W.subIn K (.ref Nt) (.type "ValueError") = some true)
    (stN : PySem.W.nsIn K cStatics "thirdparty.any" = some none)
    (topN : (P.main.scope.names.lookup ("super" : Str)).isSome = false)
    (hdN : PySem.W.hasDictIn K Nt = true)
    (ssN : PySem.W.subIn K (.ref Nt) (.ref Nt) = some true)
    (gaN : PySem.W.findIn K (.ref Nt) "__getattribute__" = some (some (.builtin "BaseException.__getattribute__")))
    (ggN : PySem.W.findIn K (.ref Nt) "__getattr__" = some none)
    (atN : PySem.W.findIn K (.ref Nt) "at" = some none) :
    ∃ fd : FuncData, (∀ (s : Shared) (v : Value), BindsTo s fd ⟨[v], []⟩ [("script", v)]) ∧ ∀ base : Heap, K.In base → base.Ns mainGlobals mg → base.NoSeer → FnOk P w K mg base CX0 44 fa fd ["script"] (spLaw K) := by
  have e := hfa.symm.trans (PySem.W.mg_of X G aL)
  cases e
  have T : TxL K mg := ⟨PySem.W.mg_none_of X G zlen, PySem.W.mg_none_of X G zrange, PySem.W.mg_none_of X G zint, PySem.W.mg_none_of X G zabs, PySem.W.mg_none_of X G zisi, PySem.W.mg_none_of X G zbool⟩
  have TP : TxP mg := ⟨⟨_, PySem.W.mg_of X G gPart, rPart⟩, ⟨_, PySem.W.mg_of X G gDig, rDig⟩, PySem.W.mg_none_of X G zdm, PySem.W.mg_none_of X G zstr, PySem.W.mg_none_of X G zmax⟩
  have R : TxR K mg C Z := ⟨⟨pg, hd, po, sa⟩, nN, nD, PySem.W.mg_of X G gC, PySem.W.mg_of X G gg, xZ, PySem.W.mg_of X G gZ, kpZ, bZ, tZ⟩
  have I : TxI K C := ⟨ca, cn, ct, cm, ck⟩
  have mNt := PySem.W.mg_of X G gN
  have TO : OexC K Nt := ⟨⟨_, _, _, _, _, _, _, _, _, _, _, _, _, _, _, lN, vN⟩, sN, bN, tN, kpN⟩
  have TN : TxN K mg Nt := ⟨mNt, PySem.W.exm_ref bN hdN tN ssN, ⟨gaN, ggN, bN, hdN⟩, atN⟩
  have FDc := fun_mk (st := sDec) lDc cDc kpDc
  have bDc := FDc.binds (ps := ["n"]) fun _ _ _ _ _ _ us hl => match us, hl with | [_], _ => rfl
  have mDc := PySem.W.mg_of X G aDc
  have FNo := fun_mk (st := sNum) lNo cNo kpNo
  have bNo := FNo.binds (ps := ["digits"]) fun _ _ _ _ _ _ us hl => match us, hl with | [_], _ => rfl
  have mNo := PySem.W.mg_of X G aNo
  have FSt := fun_mk (st := sStr) lSt cSt kpSt
  have bSt := FSt.binds (ps := ["self"]) fun _ _ _ _ _ _ us hl => match us, hl with | [_], _ => rfl
  have FRd := fun_mk (st := sRead) lRd cRd kpRd
  have bRd := FRd.binds (ps := ["text"]) fun _ _ _ _ _ _ us hl => match us, hl with | [_], _ => rfl
  have mRd := PySem.W.mg_of X G aRd
  have FIc := fun_mk (st := sCnt) lIc cIc kpIc
  have bIc := FIc.binds (ps := ["digits"]) fun _ _ _ _ _ _ us hl => match us, hl with | [_], _ => rfl
  have mIc := PySem.W.mg_of X G aIc
  have FC := fun_mk (st := sCell) lC cC kpC
  have bC := FC.binds (ps := ["script", "k"]) fun _ _ _ _ _ _ us hl => match us, hl with | [_, _], _ => rfl
  have mC := PySem.W.mg_of X G aC
  have FD := fun_mk (st := sDraws) lD cD kpD
  have bD := FD.binds (ps := ["script", "at", "count", "bound"]) fun _ _ _ _ _ _ us hl => match us, hl with | [_, _, _, _], _ => rfl
  have mD := PySem.W.mg_of X G aD
  have FG := fun_mk (st := sGcd) lG cG kpG
  have bG := FG.binds (ps := ["a", "b"]) fun _ _ _ _ _ _ us hl => match us, hl with | [_, _], _ => rfl
  have mG := PySem.W.mg_of X G aG
  have FRt := fun_mk (st := sRat) lRt cRt kpRt
  have bRt := FRt.binds (ps := ["n", "d"]) fun _ _ _ _ _ _ us hl => match us, hl with | [_, _], _ => rfl
  have mRt := PySem.W.mg_of X G aRt
  have FS := fun_mk (st := sIsI) lS cS kpS
  have bS := FS.binds (ps := ["value"]) fun _ _ _ _ _ _ us hl => match us, hl with | [_], _ => rfl
  have mS := PySem.W.mg_of X G aS
  have FP := fun_mk (st := sPair) lP cP kpP
  have bP := FP.binds (ps := ["value"]) fun _ _ _ _ _ _ us hl => match us, hl with | [_], _ => rfl
  have mP := PySem.W.mg_of X G aP
  have FDg := fun_mk (st := sDig) lDg cDg kpDg
  have bDg := FDg.binds (ps := ["script", "at"]) fun _ _ _ _ _ _ us hl => match us, hl with | [_, _], _ => rfl
  have mDg := PySem.W.mg_of X G aDg
  have FWh := fun_mk (st := sWhl) lWh cWh kpWh
  have bWh := FWh.binds (ps := ["digits"]) fun _ _ _ _ _ _ us hl => match us, hl with | [_], _ => rfl
  have mWh := PySem.W.mg_of X G aWh
  have FTx := fun_mk (st := sTxt) lTx cTx kpTx
  have bTx := FTx.binds (ps := ["n"]) fun _ _ _ _ _ _ us hl => match us, hl with | [_], _ => rfl
  have mTx := PySem.W.mg_of X G aTx
  have FBd := fun_mk (st := sBad) lBd cBd kpBd
  have bBd := FBd.binds (ps := ["text", "plain", "k"]) fun _ _ _ _ _ _ us hl => match us, hl with | [_, _, _], _ => rfl
  have mBd := PySem.W.mg_of X G aBd
  have FL := fun_mk (st := sLaw) lL cL kpL
  have mL := PySem.W.mg_of X G aL
  have FI : FunD K "__init__" "Ratio.__init__" (defArgs sInit) (defBody sInit) (defScope sInit) [.int 1] [] fI (PySem.W.fnOf "__init__" "Ratio.__init__" (defArgs sInit) (defBody sInit) (defScope sInit) (.ref T') kVI dcI pmI anI cdI ctI) :=
    ⟨⟨_, _, _, _, _, _, _, _, _, _, rfl, lI, cI, .inr ⟨(by simp), _, _, [.int 1 tT], nT, rfl, lT, rfl, .cons ⟨tT, rfl⟩ .nil⟩, .inl rfl⟩, kpI⟩
  obtain ⟨ds2, v2, b2⟩ := FI.binds1 (ps := ["self", "n", "d"]) 3 1 (by simp) rfl (fun T kV doc pm an cdv ct us its h1 h2 => match us, its, h1, h2 with | [_, _, _], [_], _, _ => ⟨_, rfl, rfl⟩)
  cases v2
  have FN : SupD P K mg "__init__" "NoText.__init__" (defArgs sNt) (defBody sNt) (defScope sNt) Nt ccN cdaN fN (PySem.W.fnX "__init__" "NoText.__init__" (defArgs sNt) (defBody sNt) (defScope sNt) [("__class__", ccN)] .none kVN dcN pmN anN (.ref cdaN) ctN) "self" :=
    ⟨⟨_, _, _, _, _, _, _, _, _, rfl, fnN⟩, cdN, ⟨_, _, _, _, _, _, cfN, h2N, hfN⟩, ⟨_, _, _, ceN⟩, ⟨_, rfl, rfl⟩, TO, mN, suN, sbN, stN, topN, PySem.W.mg_none_of X G zsup⟩
  have bNt : Binds K (PySem.W.fnX "__init__" "NoText.__init__" (defArgs sNt) (defBody sNt) (defScope sNt) [("__class__", ccN)] .none kVN dcN pmN anN (.ref cdaN) ctN) ["self", "at"] [] := .all fun us hl => match us, hl with | [_, _], _ => rfl
  refine ⟨(PySem.W.fnOf "law" "law" (defArgs sLaw) (defBody sLaw) (defScope sLaw) .none kVL dcL pmL anL cdL ctL), fun s v => .of_eq rfl, fun base _ _ hN => ?_⟩
  have M : MkR P w K mg base C Z fI _ := ⟨⟨mk, aI, iI, kpC'⟩, ok_init hN hT FI R, b2⟩
  have NC : NtC P w K mg base Nt fN _ := ⟨TO, iN, tfN', ok_nt FN atN, bNt, mNt⟩
  refine ok_law FL T TP R ⟨?_, ?_, ?_, ?_, ?_, ?_, ?_, ?_, ?_, ?_, ?_⟩ TN
  · exact ⟨_, _, ok_dig FDg T FC bC mC FD bD mD, kpDg, bDg, mDg⟩
  · exact ⟨_, _, ok_whl FWh, kpWh, bWh, mWh⟩
  · exact ⟨_, _, ok_draws FD T FC bC mC, kpD, bD, mD⟩
  · exact ⟨_, _, ok_rat hN hT FRt T FG bG mG, kpRt, bRt, mRt⟩
  · exact ⟨_, _, ok_txt FTx T, kpTx, bTx, mTx⟩
  · exact ⟨_, _, ok_bad FBd T, kpBd, bBd, mBd⟩
  · exact ⟨_, _, ok_pair FP T R I FS bS mS FG bG mG, kpP, bP, mP⟩
  · exact ⟨_, _, ok_isI FS T, kpS, bS, mS⟩
  · exact ⟨_, _, ok_read FRd T TP R M NC FIc bIc mIc FNo bNo mNo, kpRd, bRd, mRd⟩
  · exact ⟨_, _, M⟩
  · exact ⟨_, _, ok_str FSt R T TP FDc bDc mDc, aSt, iSt, bSt⟩
theorem walk {l : PySem.W.OpenLaw} {q : Program} {loose : List Str} {XP : (Str → Option Value) → Heap → Prop} {YP : World → Heap → Prop} {d : DefRec} {K : Params → PySem.W.Frag} (hn : l.most = some 63) (hdf : d.params.defaults = []) (hi : importsNone q = true)
    (hY : ∀ (w : World) (h : Heap), YP w h → (K w.params).In h)
    (F : ∀ (w : World) (mg : Str → Option Value) (fa : Addr) (h : Heap), (K w.params).In h → h.Ns mainGlobals mg → mg d.name = some (.ref fa) →
      ∃ fd : FuncData, (∀ (s : Shared) (u : Value), BindsTo s fd ⟨[u], []⟩ [("script", u)]) ∧ ∀ base : Heap, (K w.params).In base → base.Ns mainGlobals mg → base.NoSeer → FnOk l.prog w (K w.params) mg base CX0 44 fa fd ["script"] (spLaw (K w.params))) :
    PySem.W.WalkO q loose XP YP l.row.toRowW d [] (fun f vs => PySem.call f vs) :=
  walk_far (n := 63) (k := 44) (x := "script") (sp := fun w => spLaw (K w.params)) hn (by decide) hdf ⟨rfl, by decide, by decide⟩ hi hY F fun _ _ a ns _ hb hS => ⟨a, ns, rfl, hS, fun _ => rfl⟩
end Ind
open PySem PySem.W PyProof.Rows in
set_option maxRecDepth 100000 in
set_option maxHeartbeats 0 in
theorem PySem.Challenge.cw_indicial_k02_written_form_holds : PySem.Challenge.rw_indicial_k02_written_form.Holds := by
  w_on; o_law; k_head; (case hw => w_witness2)
  k_fill
  refine Ind.walk (l := PySem.Challenge.rw_indicial_k02_written_form) rfl rfl (by decide +kernel) (fun w h Y => PySem.W.kIn_of Y) ?F
  case F =>
    intro w mg fa h KX G hmg
    refine' Ind.all_mk rfl KX G hmg ?aDc ?lDc ?cDc ?kpDc ?aNo ?lNo ?cNo ?kpNo ?aSt ?iSt ?lSt ?cSt ?kpSt ?aRd ?lRd ?cRd ?kpRd ?aIc ?lIc ?cIc ?kpIc ?aC ?lC ?cC ?kpC ?aD ?lD ?cD ?kpD ?aG ?lG ?cG ?kpG ?aRt ?lRt ?cRt ?kpRt ?aS ?lS ?cS ?kpS ?aP ?lP ?cP ?kpP ?aDg ?lDg ?cDg ?kpDg ?aWh ?lWh ?cWh ?kpWh ?aTx ?lTx ?cTx ?kpTx ?aBd ?lBd ?cBd ?kpBd ?aL ?lL ?cL ?kpL ?aI ?iI ?lI ?lT ?cI ?kpI ?gC ?pg ?hd ?po ?sa ?mk ?kpC' ?nN ?nD ?gg ?xZ ?gZ ?kpZ ?bZ ?tZ ?zlen ?zrange ?zint ?zabs ?zisi ?zbool ?zdm ?zstr ?zmax ?zsup ?ca ?cn ?ct ?cm ?ck ?gPart ?rPart ?gDig ?rDig ?gN ?lN ?vN ?sN ?bN ?tN ?kpN ?iN ?tfN' ?fnN ?cdN ?cfN ?h2N ?hfN ?ceN ?mN ?suN ?sbN ?stN ?topN ?hdN ?ssN ?gaN ?ggN ?atN
    (case gC => k_is)
    (case gZ => k_is)
    (case gN => k_is)
    (case gPart => k_is)
    (case gDig => k_is)
    (case iN => k_is)
    (case lN => k_is)
    (case fnN => k_is)
    (case ceN => k_is)
    (case cfN => k_is)
    (case aDc => k_is)
    (case lDc => k_is)
    (case cDc => k_is)
    (case kpDc => k_is)
    (case aNo => k_is)
    (case lNo => k_is)
    (case cNo => k_is)
    (case kpNo => k_is)
    (case aSt => k_is)
    (case iSt => k_is)
    (case lSt => k_is)
    (case cSt => k_is)
    (case kpSt => k_is)
    (case aRd => k_is)
    (case lRd => k_is)
    (case cRd => k_is)
    (case kpRd => k_is)
    (case aIc => k_is)
    (case lIc => k_is)
    (case cIc => k_is)
    (case kpIc => k_is)
    (case aC => k_is)
    (case lC => k_is)
    (case cC => k_is)
    (case kpC => k_is)
    (case aD => k_is)
    (case lD => k_is)
    (case cD => k_is)
    (case kpD => k_is)
    (case aG => k_is)
    (case lG => k_is)
    (case cG => k_is)
    (case kpG => k_is)
    (case aRt => k_is)
    (case lRt => k_is)
    (case cRt => k_is)
    (case kpRt => k_is)
    (case aS => k_is)
    (case lS => k_is)
    (case cS => k_is)
    (case kpS => k_is)
    (case aP => k_is)
    (case lP => k_is)
    (case cP => k_is)
    (case kpP => k_is)
    (case aDg => k_is)
    (case lDg => k_is)
    (case cDg => k_is)
    (case kpDg => k_is)
    (case aWh => k_is)
    (case lWh => k_is)
    (case cWh => k_is)
    (case kpWh => k_is)
    (case aTx => k_is)
    (case lTx => k_is)
    (case cTx => k_is)
    (case kpTx => k_is)
    (case aBd => k_is)
    (case lBd => k_is)
    (case cBd => k_is)
    (case kpBd => k_is)
    (case aL => k_is)
    (case lL => k_is)
    (case cL => k_is)
    (case kpL => k_is)
    (case aI => k_is)
    (case iI => k_is)
    (case lI => k_is)
    (case lT => k_is)
    (case cI => k_is)
    (case kpI => k_is)
    (case pg => k_is)
    (case hd => k_is)
    (case po => k_is)
    (case sa => k_is)
    (case mk => k_is)
    (case kpC' => k_is)
    (case nN => k_is)
    (case nD => k_is)
    (case gg => k_is)
    (case xZ => k_exc)
    (case kpZ => k_is)
    (case bZ => k_is)
    (case tZ => k_is)
    (case zlen => k_is)
    (case zrange => k_is)
    (case zint => k_is)
    (case zabs => k_is)
    (case zisi => k_is)
    (case zbool => k_is)
    (case zdm => k_is)
    (case zstr => k_is)
    (case zmax => k_is)
    (case zsup => k_is)
    (case ca => k_is)
    (case cn => k_is)
    (case ct => k_is)
    (case cm => k_is)
    (case ck => kit_is)
    (case rPart => exact ⟨_, rfl⟩)
    (case rDig => exact ⟨_, rfl⟩)
    (case vN => decide +kernel)
    (case sN => k_is)
    (case bN => k_is)
    (case tN => k_is)
    (case kpN => k_is)
    (case tfN' => k_is)
    (case cdN => k_is)
    (case h2N => rfl)
    (case hfN => first | rfl | decide +kernel)
    (case mN => k_is)
    (case suN => ks_is)
    (case sbN => k_is)
    (case stN => k_is)
    (case topN => rfl)
    (case hdN => k_is)
    (case ssN => k_is)
    (case gaN => k_is)
    (case ggN => k_is)
    (case atN => k_is)
#print axioms PySem.Challenge.cw_indicial_k02_written_form_holds
