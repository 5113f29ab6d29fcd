import PyProof.Rows.All
import Wide.All
import OpenK.AllK
import Wide.FinOn
import HandS.ForMost
import HandS.ForExc
import HandS.EndBits
import HandS.Gcd
import HandS.IsInst
import HandS.ExcIs
import HandS.OwnEq
import HandS.Defaults
import HandS.Wide
import HandS.Property
import KE.IntBitsLaws
import HandS.ExcInit
import HandS.ExcField
import HandS.FStr
import HandS.Nested
import KE.KExcSuper
import KE.KSuper
import HandS.Iter
import HandS.Walk
import HandS.Codes
import HandS.Style
import HandS.Conv
import HandS.StrMore
import HandS.WideBits
import HandS.TupLen
import HandS.Text
import HandS.TryOnly
import KE.KxIndex
import KE.RegKIsAll
import PySem.Challenge.RW_indicial_k69_data_read_back
set_option Elab.async false
set_option linter.all false
set_option maxRecDepth 100000
set_option maxHeartbeats 4000000
namespace Ind
open PySem PySem.Spec PyProof.Rows L2
open Builtin.Int (intBits)

/-! ### operators over ints of any size -/
/-- what a body must show for // of any size -/
structure Far (X : Cx) : Prop where
  seer : X.base.NoSeer
  tree : X.prog.given.tree = none
  stk : X.stack = X.env :: X.outer
  gen : X.env.scope.isGenerator = false
  co : X.env.scope.isCoroutine = false
  room : Room 40 X.A
theorem op_fdivB {X : Cx} (f : Far X) : OpR X (binaryOp .FloorDiv) (rI (fun _ j => j ≠ 0) fun i j => .int (i.fdiv j)) := by
  intro pins s σ H x y v u Q I rx ry h
  obtain ⟨i, j, rfl, rfl, hc, q⟩ := h
  obtain ⟨t, rfl⟩ := rx
  obtain ⟨t', rfl⟩ := ry
  refine floordiv_int hc ⟨.int (i.fdiv j), H, I.tok _, ⟨_, rfl⟩, q⟩ (.inr (PylongRoom.of I.nolimit ?_ (SeerAt.of (env := X.env) (l := X.outer) (f.seer.keeps I.bk) f.tree ?_ f.gen f.co I.ok.blt I.ok.glob)))
  · have h1 := f.room.dp
    have h2 : Builtin.pylongFrames = 100 := rfl
    omega
  · rw [I.ok.frames, f.stk]
theorem op_mulB {X : Cx} : OpR X (binaryOp .Mult) (rI (fun i j => intBits i + intBits j ≤ 134217728) fun i j => .int (i * j)) :=
  opI fun i j _ _ _ _ _ hc q => mul_int q (IntMulOk.of_le (Nat.le_refl _) (Nat.le_refl _) hc)

/-- tracked objects stay -/
theorem same_rfl {H : Hp} : Same H H := fun _ _ e => e
end Ind

set_option Elab.async false
set_option linter.all false
set_option maxRecDepth 100000
set_option maxHeartbeats 4000000
namespace Ind
open PySem PySem.Spec PyProof.Rows L2
open Builtin.Int (intBits)
def top (i : Nat) : Stmt := PySem.Challenge.pw_indicial_k69_data_read_back.main.body.getD i (.Pass ⟨0, 0, 0, 0⟩)
end Ind

set_option Elab.async false
set_option linter.all false
set_option maxRecDepth 100000
set_option maxHeartbeats 4000000
namespace Ind
open PySem PySem.Spec PyProof.Rows L2
open Builtin.Int (intBits)
abbrev sCell : Stmt := top 24
abbrev sDraws : Stmt := top 25
/-! ### the law's helpers: what each promises -/
def cell (ns : List Int) (k : Nat) : Int := ns.getD k 0
theorem atI_of {α : Type} {xs : List α} {k : Nat} {x : α} (h : xs[k]? = some x) : atI xs ((k : Nat) : Int) = some x := by
  have hk : k < xs.length := (List.getElem?_eq_some_iff.mp h).1
  have h1 : ixN xs.length ((k : Nat) : Int) = some k := by
    unfold ixN
    rw [if_pos (by omega), if_pos (by omega)]
    all_goals rfl
  unfold atI
  rw [h1]
  exact h
def spCellI (K : PySem.W.Frag) : Sp := fun vs H Q _ => ∃ (a : Addr) (ns : List Int) (k : Nat), vs = [.ref a, .int k] ∧ SqL K H a (ns.map V.int) ∧ Q (.int (cell ns k)) H
/-- draws in their range -/
def InR (ds : List Int) (n : Nat) (b : Int) : Prop := ds.length = n ∧ ∀ d ∈ ds, 0 ≤ d ∧ d < b
def spDraws (K : PySem.W.Frag) : Sp := fun vs H Q _ => ∃ (a : Addr) (ns : List Int) (k n : Nat) (b : Int), vs = [.ref a, .int k, .int n, .int b] ∧ SqL K H a (ns.map V.int) ∧ k ≤ 1000 ∧ n ≤ 1000 ∧ 0 < b ∧ b < 1000000 ∧
  ∀ (ds : List Int) (H' : Hp) (p : Addr), InR ds n b → Same H H' → H p = none → H' p = some (.lst (ds.map V.int)) → Q (.ref p) H'
def spGcdI : Sp := fun vs H Q _ => ∃ a b : Int, vs = [.int a, .int b] ∧ Q (.int ((Nat.gcd a.natAbs b.natAbs : Nat) : Int)) H
def spIsI : Sp := fun vs H Q _ => ∃ a : Int, vs = [.int a] ∧ Q (.bl true) H
/-- what the top says of built-ins that the helpers name -/
structure TxL (K : PySem.W.Frag) (mg : Str → Option Value) : Prop where
  len : mg "len" = none
  range : mg "range" = none
  int : mg "int" = none
  abs : mg "abs" = none
  isinstance : mg "isinstance" = none
  bool : mg "bool" = none
theorem same_upd {H : Hp} {p : Addr} {o : HO} (h : H p = none) : Same H (upd H p o) := fun b u e => by
  rw [upd_ne (ne_of_none e h)]
  exact e
section
variable {P : Program} {w : World} {K : PySem.W.Frag} {mg : Str → Option Value} {base : Heap} {C Z : Addr}
theorem scCell : FnScope ["script", "k"] ["script", "k"] (defScope sCell) := ⟨rfl, rfl, rfl, by decide +kernel, rfl, by decide +kernel, by decide +kernel⟩
theorem ok_cell {f : Addr} {fd : FuncData} (F : Fun K "_law_cell" "_law_cell" sCell f fd) (T : TxL K mg) : FnOk P w K mg base CX0 1 f fd ["script", "k"] (spCellI K) := by
  refine F.ok scCell (fun vs H Q E h => ?_) (fun cdv A outer s H vs Q E hr h => ?_)
  · obtain ⟨a, ns, k, rfl, _⟩ := h
    rfl
  · obtain ⟨a, ns, k, rfl, hS, q⟩ := h
    refine ⟨_, pss_cons (ps_if (pt_cmpR op_lt (pv 1) (pe_callB call_len_seq (by rfl) T.len PySem.boot_len (pa_cons (pv 0) pa_nil)) (nomark _)) (pss_one (ps_ret (pe_ix ix_list (pv 0) (pv 1) fun _ _ => rfl))) pss_nil)
      (pss_one (ps_ret pe_int)), ?_⟩
    refine ⟨_, rfl, _, rfl, a, _, rfl, .inl hS, _, _, rfl, rfl, _, rfl, ite2 (fun c => ?_) (fun c => ?_)⟩
    · have hk : k < ns.length := by simpa using c
      refine ⟨_, rfl, _, rfl, a, _, _, _, rfl, rfl, hS, atI_of (x := V.int (cell ns k)) ?_, q⟩
      rw [List.getElem?_map, List.getElem?_eq_getElem hk]
      simp [cell, hk]
    · have hk : ¬ k < ns.length := by simpa using c
      have e : cell ns k = 0 := by
        unfold cell
        rw [List.getD_eq_getElem?_getD, List.getElem?_eq_none (by omega)]
        rfl
      show Q (.int 0) H
      rw [← e]
      exact q
theorem abs_nat (i : Int) : (if i < 0 then -i else i) = ((i.natAbs : Nat) : Int) := by split <;> omega
end
end Ind

set_option Elab.async false
set_option linter.all false
set_option maxRecDepth 100000
set_option maxHeartbeats 4000000
namespace Ind
open PySem PySem.Spec PyProof.Rows L2
open Builtin.Int (intBits)
structure DrSt (H H' : Hp) (l : Addr) (ds : List Int) (i : Nat) (b : Int) : Prop where
  s : Same H H'
  n : H l = none
  at_ : H' l = some (.lst (ds.map V.int))
  r : InR ds i b
theorem DrSt.push {H H' : Hp} {l : Addr} {ds : List Int} {i : Nat} {b z : Int} (x : DrSt H H' l ds i b) (h0 : 0 ≤ z) (h1 : z < b) : DrSt H (upd H' l (.lst (ds.map V.int ++ [.int z]))) l (ds ++ [z]) (i + 1) b where
  s := fun c o e => by
    have hc : c ≠ l := ne_of_none e x.n
    rw [upd_ne hc]
    exact x.s c o e
  n := x.n
  at_ := by
    rw [upd_same, List.map_append]
    rfl
  r := by
    refine ⟨by rw [List.length_append, x.r.1]; rfl, fun d hd => ?_⟩
    rcases List.mem_append.mp hd with h | h
    · exact x.r.2 d h
    · have e : d = z := by simpa using h
      subst e
      exact ⟨h0, h1⟩
theorem fmod_in {x b : Int} (h : 0 < b) : 0 ≤ x.fmod b ∧ x.fmod b < b := ⟨Int.fmod_nonneg_of_pos x h, Int.fmod_lt_of_pos x h⟩
section
variable {P : Program} {w : World} {K : PySem.W.Frag} {mg : Str → Option Value} {base : Heap} {C Z : Addr}
theorem scDr : FnScope ["script", "at", "count", "bound", "cell", "out", "k", "number", "mixed"] ["script", "at", "count", "bound"] (defScope sDraws) := ⟨rfl, rfl, rfl, by decide +kernel, rfl, by decide +kernel, by decide +kernel⟩
theorem ok_draws {f fC : Addr} {fd fdC : FuncData} (F : Fun K "_law_draws" "_law_draws" sDraws f fd) (T : TxL K mg) (FC : Fun K "_law_cell" "_law_cell" sCell fC fdC) (bC : Binds K fdC ["script", "k"] []) (gC : mg "_law_cell" = some (.ref fC)) :
    FnOk P w K mg base CX0 2 f fd ["script", "at", "count", "bound"] (spDraws K) := by
  have GC : FnOk P w K mg base CX0 1 fC fdC ["script", "k"] (spCellI K) := ok_cell FC T
  refine F.ok scDr (fun vs H Q E h => ?_) (fun cdv A outer s H vs Q E hr h => ?_)
  · obtain ⟨a, ns, k, n, b, rfl, _⟩ := h
    rfl
  · obtain ⟨a, ns, k, n, b, rfl, hS, hk, hn, hb, hb2, q⟩ := h
    refine ⟨_, pss_cons (ps_set (i := 4) scDr.nd rfl (Or.inl rfl) (pe_call GC hr (by rfl) gC FC.kp bC .nil pass0 (pa_cons (pv 0) (pa_cons (pv 1) pa_nil))))
      (pss_cons (ps_set (i := 5) scDr.nd rfl (Or.inl rfl) (pe_lst pa_nil))
      (pss_cons (ps_if (pt_cmpR op_ge (pv 4) (pe_op op_pow pe_int pe_int) (nomark _))
        (pss_cons (ps_for PassesOwn.never rfl (pi_range1 (by rfl) T.range (pa_cons (pv 2) pa_nil)) (pg_name (i := 6) scDr.nd rfl (Or.inl rfl))
          (pss_cons (ps_expr (pe_bm PySem.F.plainAttrs_list PySem.F.slot_list_append PySem.F.type_list_append mt_append (pv 5) (pa_cons (pe_op op_modN (pe_callTy call_int1 (by rfl) T.int (by decide +kernel) (pa_cons (pv 4) pa_nil)) (pv 3)) pa_nil)))
          (pss_one (ps_set (i := 4) scDr.nd rfl (Or.inl rfl) (pe_op op_fdivN (pe_callTy call_int1 (by rfl) T.int (by decide +kernel) (pa_cons (pv 4) pa_nil)) (pv 3))))))
        (pss_one (ps_ret (pv 5)))) pss_nil)
      (pss_cons (ps_set (i := 7) scDr.nd rfl (Or.inl rfl) (pe_op op_add (pe_op op_add (pe_op op_modN (pe_callTy call_int1 (by rfl) T.int (by decide +kernel) (pa_cons (pv 4) pa_nil)) pe_int) (pe_op op_mul pe_int (pv 1))) pe_int))
      (pss_cons (ps_for PassesOwn.never rfl (pi_range1 (by rfl) T.range (pa_cons (pv 2) pa_nil)) (pg_name (i := 6) scDr.nd rfl (Or.inl rfl))
          (pss_cons (ps_set (i := 7) scDr.nd rfl (Or.inl rfl) (pe_op op_modN (pe_callTy call_int1 (by rfl) T.int (by decide +kernel) (pa_cons (pe_op op_add (pe_op op_add (pe_op op_mul (pv 7) pe_int) (pe_op op_mul pe_int (pv 6))) (pv 1)) pa_nil)) pe_int))
          (pss_cons (ps_set (i := 8) scDr.nd rfl (Or.inl rfl) (pe_op op_modN (pe_callTy call_int1 (by rfl) T.int (by decide +kernel) (pa_cons (pe_op op_add (pe_op op_add (pe_op op_mul (pv 7) pe_int) (pe_op op_mul pe_int (pv 6))) pe_int) pa_nil)) pe_int))
          (pss_one (ps_expr (pe_bm PySem.F.plainAttrs_list PySem.F.slot_list_append PySem.F.type_list_append mt_append (pv 5) (pa_cons (pe_op op_modN (pe_callTy call_int1 (by rfl) T.int (by decide +kernel) (pa_cons (pv 8) pa_nil)) (pv 3)) pa_nil)))))))
      (pss_one (ps_ret (pv 5))))))), ?_⟩
    refine ⟨_, rfl, _, rfl, a, ns, k, rfl, hS, Nat.zero_le _, fun l hl => ?_⟩
    have d0 : DrSt H (upd H l (.lst [])) l [] 0 b := ⟨same_upd hl, hl, upd_same, rfl, fun d hd => nomatch hd⟩
    have hlen : ∀ {ds : List Int} {i : Nat}, InR ds i b → i < n → (ds.map V.int).length < sizeLine := fun {ds i} r hi => by
      rw [List.length_map, r.1]
      exact Nat.lt_of_lt_of_le (Nat.lt_of_lt_of_le hi hn) (by decide)
    have bnd : b ≠ 0 ∧ b.natAbs < 1073741824 := ⟨by omega, by omega⟩
    refine ⟨_, rfl, _, _, rfl, rfl, ⟨by decide, by decide, by decide⟩, _, _, rfl, rfl, _, rfl, ite2 (fun _ => ?_) (fun _ => ?_)⟩
    · refine ⟨_, rfl, (n : Int), rfl, by omega, by omega, for_range (lo := 0) (n := n) (fun i σ H' => ∃ (c : Int) (ds : List Int) (kv : Option V), σ = [some (.ref a), some (.int k), some (.int n), some (.int b), some (.int c), some (.ref l), kv, none, none] ∧ DrSt H H' l ds i b)
        ⟨_, [], none, rfl, d0⟩ ?_ ?_⟩
      · rintro i σ H' hi ⟨c, ds, kv, rfl, D⟩
        have hm := fmod_in (x := c) hb
        refine ⟨_, rfl, .inl ⟨rfl, _, SqL.of D.at_⟩, _, rfl, .inl ⟨_, rfl, _, rfl, _, _, rfl, rfl, bnd.1, l, _, _, rfl, rfl, D.at_, hlen D.r hi, ?_⟩⟩
        refine ⟨_, rfl, .inl ⟨_, rfl, _, rfl, _, _, rfl, rfl, bnd, ?_⟩⟩
        exact ⟨_, _, _, rfl, D.push hm.1 hm.2⟩
      · rintro σ H' ⟨c, ds, kv, rfl, D⟩
        exact ⟨_, rfl, q ds H' l D.r D.s D.n D.at_⟩
    · have r31 : ∀ x : Int, 0 ≤ x.fmod 2147483647 ∧ x.fmod 2147483647 < 2147483647 := fun x => fmod_in (by decide)
      have hz := r31 (cell ns k)
      refine ⟨_, rfl, .inl ⟨_, rfl, _, _, rfl, rfl, (by show (2147483647 : Int) ≠ 0; decide), _, rfl, _, _, rfl, rfl, .inl ⟨by decide, by decide⟩, _, _, rfl, rfl, _, _, rfl, rfl, ?_⟩⟩
      refine ⟨_, rfl, (n : Int), rfl, by omega, by omega, for_range (lo := 0) (n := n) (fun i σ H' => ∃ (z : Int) (ds : List Int) (kv mv : Option V), σ = [some (.ref a), some (.int k), some (.int n), some (.int b), some (.int (cell ns k)), some (.ref l), kv, some (.int z), mv] ∧ (0 ≤ z ∧ z < 2 ^ 40) ∧ DrSt H H' l ds i b)
        ⟨_, [], none, none, rfl, ⟨by omega, by omega⟩, d0⟩ ?_ ?_⟩
      · rintro i σ H' hi ⟨z, ds, kv, mv, rfl, hz, D⟩
        have hm : ∀ x : Int, _ := fun x => fmod_in (x := x) hb
        refine ⟨_, rfl, _, _, rfl, rfl, .inr ⟨by decide, by decide⟩, _, rfl, _, _, rfl, rfl, .inl ⟨by decide, by decide⟩, _, _, rfl, rfl, _, rfl, _, _, rfl, rfl, .inl ⟨_, rfl, _, _, rfl, rfl, (by show (2147483647 : Int) ≠ 0; decide), ?_⟩⟩
        refine ⟨_, rfl, _, _, rfl, rfl, .inr ⟨by decide, by decide⟩, _, rfl, _, _, rfl, rfl, .inl ⟨by decide, by decide⟩, _, _, rfl, rfl, _, _, rfl, rfl, .inl ⟨_, rfl, _, _, rfl, rfl, (by show (2147483629 : Int) ≠ 0; decide), ?_⟩⟩
        refine ⟨_, rfl, .inl ⟨rfl, _, SqL.of D.at_⟩, _, rfl, .inl ⟨_, rfl, _, rfl, _, _, rfl, rfl, bnd.1, l, _, _, rfl, rfl, D.at_, hlen D.r hi, ?_⟩⟩
        have hw := r31 (z * 48271 + 11 * (0 + (i : Int)) + (k : Int))
        exact ⟨_, _, _, _, rfl, ⟨hw.1, by omega⟩, D.push (hm _).1 (hm _).2⟩
      · rintro σ H' ⟨z, ds, kv, mv, rfl, hz, D⟩
        exact ⟨_, rfl, q ds H' l D.r D.s D.n D.at_⟩
end
end Ind

set_option Elab.async false
set_option linter.all false
set_option maxRecDepth 100000
set_option maxHeartbeats 4000000
namespace Ind
open PySem PySem.Spec PyProof.Rows L2
/-! ### super().__init__(..) of an own exception over ValueError -/
theorem mw_call {X : Cx} {pins : List (Addr × Obj)} {σ : L2.St} {H : Hp} {s : Shared} {a u C : Addr} {us : List Value} {Q : Value → Shared → Prop} {E : Value → Shared → Prop} {A : Around} (T : OexC X.K C) (I : Inv X pins σ H s)
    (hu : s.heap.get? u = some (PySem.W.kxs_mw "ValueError.__init__" a)) (e : H a = some (exo a C none)) (hl : us.length ≤ sizeLine) (h : ∀ s', Inv X pins σ H s' → Q .none s') : wpAny (model X.prog X.w) A (call (.ref u) us) Q E s := by
  obtain ⟨nm, q, N, bs, bm, sn, sub, ab, col, dd, k0, k1, k2, k3, k5, hC, hbm⟩ := T.cls
  obtain ⟨t1, ho⟩ := exo_at I.hok e
  obtain ⟨hp, g, d, t, os⟩ := s
  have fin : ∀ (h' : Heap) (t2 : Addr), (∀ b o, b ≠ a → hp.get? b = some o → h'.get? b = some o) → h'.get? a = some ({ cls := .ref C, dict := none, data := .fields #[.ref t2, .none, .none, .none, .bool false, .none] } : Obj) → Q .none ⟨h', g, d, t, os⟩ := fun h' t2 k hx => by
    have J := I.write (t' := t) (x := a) (e := a) (o := exo a C none) (by rw [e]; exact True.intro) (.inl rfl) k ⟨_, hx⟩ (exo_ok hx)
    have eu : upd H a (exo a C none) = H := by
      funext b
      by_cases hb : b = a
      · rw [hb, upd_same, e]
      · rw [upd_ne hb]
    rw [eu] at J
    exact h _ J
  refine wpAny_call (codeAny_of_tree ?_)
  show wpAny _ A.in1 (callAny (.ref u) ⟨us, []⟩) _ _ _
  simp only [callAny]
  refine wpAny_bind (wpAny_load hu ?_)
  simp only [PySem.W.kxs_mw, show (Value.type "method-wrapper" == Value.type "method" || Value.type "method-wrapper" == Value.type "builtin_function_or_method" || Value.type "method-wrapper" == Value.type "method-wrapper") = true by decide, if_true]
  refine PySem.W.KFB.if_so (by decide) ?_
  refine wpAny_bind (PySem.W.check_bound_init (PySem.F.excBase_ValueError).toExcCallFacts (I.kIn _ _ hC) ho rfl ?_)
  refine wpAny_bind (wpAny_pure (wpAny_pure ?_))
  refine ⟨PySem.plainId_quiet PySem.F.excBase_ValueError.init.plain _, codeAny_builtin PySem.F.excBase_ValueError.initEntry ?_⟩
  exact PySem.W.exc_init_tree (cls := .ref C) (t0 := t1) (dv := none) (c2 := .none) (c3 := .none) (b4 := .bool false) ho hl fun h' k e' _ => fin h' _ k e'
theorem kept_inv {X : Cx} {pins : List (Addr × Obj)} {σ : L2.St} {H : Hp} {s : Shared} {h' : Heap} (t' : Nat) (I : Inv X pins σ H s) (k : ∀ b o, s.heap.get? b = some o → h'.get? b = some o) : Inv X pins σ H { s with heap := h', toks := t' } :=
  I.un (t' := t') (Un.kept k) (I.hok.kept k)
theorem add_pin {X : Cx} {pins : List (Addr × Obj)} {σ : L2.St} {H : Hp} {s : Shared} {u : Addr} {o : Obj} {n : Nat} (I : Inv X pins σ H s) (hu : s.heap.get? u = some o) (hn : H u = none) (hL : u ≠ X.env.locals) (hf : u ∉ X.fs) (hd : ∀ v, o.data ≠ .cell v) : Inv X ((u, o) :: pins) σ H s :=
  ⟨I.ok, I.os, I.bare, I.base, I.loc, I.cell, I.free, I.freeC, fun p hp => by
    rcases List.mem_append.mp hp with h | h
    · exact I.pin p (List.mem_append_left _ h)
    · rcases List.mem_cons.mp h with rfl | h
      · exact ⟨hu, hn, hL, hf, hd⟩
      · exact I.pin p (List.mem_append_right _ h), I.hok, I.len⟩
theorem less_pin {X : Cx} {pins : List (Addr × Obj)} {σ : L2.St} {H : Hp} {s : Shared} {p : Addr × Obj} (I : Inv X (p :: pins) σ H s) : Inv X pins σ H s :=
  ⟨I.ok, I.os, I.bare, I.base, I.loc, I.cell, I.free, I.freeC, fun q hq => I.pin q (by
    rcases List.mem_append.mp hq with h | h
    · exact List.mem_append_left _ h
    · exact List.mem_append_right _ (List.mem_cons_of_mem _ h)), I.hok, I.len⟩
theorem kxs_cw {M : Model} {A : Around} {E : Value → Shared → Prop} {s : Shared} {i : String} {x u : Addr} {pos : Pos} {env : Env} {e : Expr} {rest : List Expr} {Q : Value → Shared → Prop}
    (he : starEach (e :: rest) env = (false, eval e env) :: starEach rest env) (hplain : (backTo pos (starEach rest env)).any (·.1) = false)
    (h : wpAny M A (spliced (backTo pos (starEach (e :: rest) env))) (fun vs s₁ => PySem.W.KxsAt i u x s₁.heap ∧ wpAny M A (call (.ref u) vs) Q E s₁) E s) :
    wpAny M A (callWith pos (.ref u) [] (backTo pos (starEach (e :: rest) env)) []) Q E s := by
  rw [he] at h ⊢
  refine PySem.W.kxs_callWith (i := i) (x := x) (by show (false || (backTo pos (starEach rest env)).any (·.1)) = false; rw [hplain]; rfl) ?_
  exact PySem.Calls.evalArgs_plain h
/-- what the text and the written part say of a def whose first row is super().__init__(..): class D over ValueError -/
structure SupD (P : Program) (K : PySem.W.Frag) (mg : Str → Option Value) (name qual : Str) (params : Arguments) (body : List Stmt) (scope : Scope) (D cc cda f : Addr) (fd : FuncData) (slf : Str) : Prop where
  ex : ∃ (oc : Value) (od : Option Addr) (dV kV doc pm : Value) (an : Option Addr) (ct : Value) (osl : Array (Option Value)),
    fd = PySem.W.fnX name qual params body scope [("__class__", cc)] dV kV doc pm an (.ref cda) ct ∧ K.lookup f = some ⟨oc, od, .func fd, osl⟩
  code : PySem.W.codeIn K (.ref cda) qual = true
  file : ∃ (ccl : Value) (cdd : Option Addr) (vs : Array Value) (ccs : Array (Option Value)) (fl : Str) (tf : Tok), K.lookup cda = some ⟨ccl, cdd, .fields vs, ccs⟩ ∧ vs[2]? = some (.str fl tf) ∧ ((P.main.file : Str) == fl) = true
  cell : ∃ (cl : Value) (cld : Option Addr) (csl : Array (Option Value)), K.lookup cc = some ⟨cl, cld, .cell (some (.ref D)), csl⟩
  head : ∃ ar : Arg, (params.posonlyargs ++ params.args).head? = some ar ∧ ar.arg = slf
  T : OexC K D
  mro : PySem.W.mroIn K D (.ref D) = some true
  sup : PySem.W.ks_superIn K D D "__init__" = some (some (.builtin "ValueError.__init__"))
  sub : PySem.W.subIn K (.ref D) (.type "ValueError") = some true
  st : PySem.W.nsIn K cStatics "thirdparty.any" = some none
  top : (P.main.scope.names.lookup ("super" : Str)).isSome = false
  none : mg "super" = none
/-- .. its scope -/
structure SupS (slf : Str) (scope : Scope) : Prop where
  sup : scope.names.lookup ("super" : Str) = some .globalImplicit
  cls : scope.names.lookup ("__class__" : Str) = some .free
  me : scope.names.lookup slf = some .local
section
variable {CX : CXT} {P : Program} {w : World} {K : PySem.W.Frag} {mg : Str → Option Value} {base : Heap} {k : Nat} {f D cc cda : Addr} {fd : FuncData} {name qual slf : Str} {params : Arguments} {scope : Scope} {N ps : List Str} {sp : Sp} {e0 : Expr} {es : List Expr} {rest : List Stmt} {p0 p1 p2 p3 p4 : Pos}
abbrev nfOf (name qual : Str) (params : Arguments) (body : List Stmt) (scope : Scope) (cc cda : Addr) : NdefX.NF := ⟨name, qual, params, body, scope, [("__class__", cc)], cda⟩
theorem boot_super : bootBuiltins "super" = some (.type "super") := by first | rfl | kernel_rfl | decide +kernel
theorem ok_super {body : List Stmt} (hbd : body = .Expr (.Call (.Attribute (.Call (.Name "super" p0) [] [] p1) "__init__" p2) (e0 :: es) [] p3) p4 :: rest)
    (F : SupD P K mg name qual params body scope D cc cda f fd slf) (S : NdefX.NScope N ps ["__class__"] scope) (S2 : SupS slf scope) (hps : ps[0]? = some slf) (hN0 : N[0]? = some slf)
    (len : ∀ vs H Q E, sp vs H Q E → vs.length = ps.length)
    (he : ∀ env : Env, starEach (e0 :: es) env = (false, eval e0 env) :: starEach es env) (hpl : ∀ env : Env, (backTo p3 (starEach es env)).any (·.1) = false)
    (hcall : ∀ env : Env, eval (.Call (.Attribute (.Call (.Name "super" p0) [] [] p1) "__init__" p2) (e0 :: es) [] p3) env = (do
      let ov ← attributeBase (.Call (.Name "super" p0) [] [] p1) "__init__" env (eval (.Call (.Name "super" p0) [] [] p1) env)
      standAt p2.atName
      let (g, first) ← holding [ov] (getMethod ov "__init__" (pure false))
      callWith p3 g first (backTo p3 (starEach (e0 :: es) env)) []))
    (hbody : ∀ (A : Around) (outer : List Env) (s : Shared) (H : Hp) (vs : List V) (Q : VK) (E : XK), Room k (A.deeper (NdefX.envF (nfOf name qual params body scope cc cda) f s.heap.objs.size)) → sp vs H Q E →
      ∃ (a : Addr) (ws : List V) (ta : TA) (t : TS), vs = .ref a :: ws ∧ H a = some (exo a D none) ∧ PA (NdefX.ncx CX P w K mg base N (nfOf name qual params body scope cc cda) f A outer s H E) (e0 :: es) ta ∧
        PSs (NdefX.ncx CX P w K mg base N (nfOf name qual params body scope cc cda) f A outer s H E) rest t ∧
        ta (NdefX.startF N vs [none]) H fun us H1 => us.length ≤ 1000 ∧ H1 a = some (exo a D none) ∧ t { nx := fun _ H' => Q .non H', rt := Q } (NdefX.startF N vs [none]) H1) :
    FnOk P w K mg base CX (k + 1) f fd ps sp := by
  refine ⟨len, fun A outer s H args us vs Q E hr e0' hb r hsp => ?_⟩
  obtain ⟨oc, od, dV, kV, doc, pm, an, ct, osl, rfl, lk⟩ := F.ex
  obtain ⟨ccl, cdd, cvs, ccs, fl, tf, lkc, hfl, hfile⟩ := F.file
  obtain ⟨cl, cld, csl, lkcc⟩ := F.cell
  obtain ⟨ar, har, hself⟩ := F.head
  have hl := len _ _ _ _ hsp
  have KX : K.In s.heap := e0'.mod.kin.keeps fun b o e => (e0'.bs b o e).1
  have lim : s.heap.NoLimit := e0'.mod.nolimit.keeps fun b o e => (e0'.bs b o e).1
  refine PySem.ks_codeAny_call_defAt (fd := PySem.W.fnX name qual params body scope [("__class__", cc)] dV kV doc pm an (.ref cda) ct) (body := body) (binds := ps.zip us) hr.depth (KX _ _ lk) rfl lim (PySem.W.codeRec_of KX F.code) rfl hb S.nocell
    (fun ⟨n, _⟩ hy => S.par n (List.of_mem_zip hy).1) (fun h₁ hns kp => ?_) S.co S.gen S.kind
  obtain ⟨a, ws, ta, t, rfl, ha, hta, ht, hq⟩ := hbody A outer s H vs Q E (hr.deeper _) hsp
  have baseCC : base.get? cc = some ⟨cl, cld, .cell (some (.ref D)), csl⟩ := e0'.mod.kin _ _ lkcc
  have C : NdefX.CellsAt [("__class__", cc)] ["__class__"] [none] s.heap H := ⟨rfl, fun y c e => by
      have hy : y = "__class__" ∧ c = cc := by
        by_cases h : y = ("__class__" : Str)
        · subst h
          simp [List.lookup] at e
          exact ⟨rfl, e.symm⟩
        · have h' : (y == ("__class__" : Str)) = false := by simpa using h
          simp [List.lookup, h'] at e
      obtain ⟨rfl, rfl⟩ := hy
      exact ⟨(e0'.bs _ _ baseCC).2, _, _, (e0'.bs _ _ baseCC).1, rfl⟩, fun x y c e1 e2 => by
      have hx : ∀ z : Str, List.lookup z [(("__class__" : Str), cc)] = some c → z = "__class__" := fun z e => by
        by_cases h : z = ("__class__" : Str)
        · exact h
        · have h' : (z == ("__class__" : Str)) = false := by simpa using h
          simp [List.lookup, h'] at e
      rw [hx x e1, hx y e2], fun i y e => by
      match i, e with
      | 0, e =>
        have e : y = "__class__" := by
          have z : some ("__class__" : Str) = some y := e
          exact (Option.some.inj z).symm
        subst e
        exact ⟨cc, rfl, fun v hv => by cases hv⟩
      | i + 1, e => cases e⟩
  have I : Inv (NdefX.ncx CX P w K mg base N (nfOf name qual params body scope cc cda) f A outer s H E) [] (NdefX.startF N (.ref a :: ws) [none]) H { s with heap := h₁, toks := s.toks + (ps.zip us).length } := NdefX.inv_startN S hr.hd e0' hl r C hns kp
  have fin : ∀ {σ' : L2.St} {H' : Hp} {v : V} {u : Value} {s' : Shared}, Inv (NdefX.ncx CX P w K mg base N (nfOf name qual params body scope cc cda) f A outer s H E) [] σ' H' s' → L2.RelV v u → Q v H' → CE outer P w H s Q u s' :=
    fun {σ' H' v u s'} J rv q => ⟨v, H', J.os, J.bare, J.base, J.hok, rv, q⟩
  refine PySem.ks_wpAt_mono (Q := SP (NdefX.ncx CX P w K mg base N (nfOf name qual params body scope cc cda) f A outer s H E) [] { nx := fun _ H' => Q .non H', rt := Q }) ?_ (fun fl s' hs => ?_) (fun e s' hs => hs)
  rotate_left
  · cases fl with
    | ret u =>
      obtain ⟨v, σ', H', J, rv, q⟩ := hs
      exact fin J rv q
    | next =>
      obtain ⟨σ', H', J, q⟩ := hs
      exact fin (v := V.non) (u := Value.none) J rfl q
    | brk =>
      obtain ⟨_, _, _, q⟩ := hs
      exact False.elim q
    | cont =>
      obtain ⟨_, _, _, q⟩ := hs
      exact False.elim q
  subst hbd
  obtain ⟨nm, qq, NN, bs, bm, sn, sub, ab, col, dd, k0, k1, k2, k3, k5, hDk, hbm⟩ := F.T.cls
  have hcl : PySem.W.clsIn K D = some { name := nm, bases := bs, mro := .ref D :: bm, ns := NN, qualname := qq, hasDict := true, slotNames := sn, subclasses := sub, abstract := ab, collection := col, hasDel := false } := by unfold PySem.W.clsIn; rw [hDk] <;> rfl
  obtain ⟨t1, ho⟩ := exo_at I.hok ha
  obtain ⟨m, hn, hlk⟩ := id I.loc
  obtain ⟨u0, ru, hlook⟩ := hlk 0 slf (.ref a) hN0 rfl (.inl S2.me)
  obtain rfl : u0 = Value.ref a := ru
  have hv : m slf = some (.ref a) := by
    rcases hlook with ⟨_, z⟩ | ⟨z, _⟩
    · exact z
    · have z : scope.names.lookup slf = some .cell ∨ scope.names.lookup slf = some .free := z
      rw [S2.me] at z
      rcases z with z | z <;> cases z
  obtain ⟨mb, hmb, hbb⟩ := I.ok.mod.blt
  have hint : ∀ (doc pm : Value), interactive (callEnv (PySem.W.fnX name qual params (.Expr (.Call (.Attribute (.Call (.Name "super" p0) [] [] p1) "__init__" p2) (e0 :: es) [] p3) p4 :: rest) scope [("__class__", cc)] dV kV doc pm an (.ref cda) ct) s.heap.objs.size f) = false := fun doc pm => by
    show (scope.kind == .module && _) = false
    rw [S.kind]
    rfl
  refine PySem.ks_wpAt_execs_cons (PySem.ks_wpAt_Expr_any (PySem.ks_wpAt_MethodCall (pl := pure false) ?_ (hcall _)) (hint _ _) rfl)
  refine PySem.ks_wpAt_super_base (env := NdefX.envF (nfOf name qual params (.Expr (.Call (.Attribute (.Call (.Name "super" p0) [] [] p1) "__init__" p2) (e0 :: es) [] p3) p4 :: rest) scope cc cda) f s.heap.objs.size) S2.sup S2.cls rfl rfl (I.kIn _ _ lk) rfl har rfl (I.kIn _ _ lkc) rfl hfl hfile F.top ?_
  refine PySem.W.ks_loadName_global S.kind S2.sup (PySem.Calls.loadGlobal_builtin (I.mod.glob.keeps I.bk) F.none (hmb.keeps I.bk) ((hbb _ (by decide +kernel)).trans boot_super) ⟨rfl, ?_⟩)
  refine wpAny_loadName_free S.kind S2.cls rfl ⟨_, I.kIn _ _ lkcc, rfl⟩ ?_
  rw [hself]
  refine wpAny_loadName_local S.kind S2.me hn hv ?_
  refine PySem.ks_wpAny_isType_cls (I.kIn _ _ hDk) rfl ⟨rfl, ?_⟩
  refine PySem.ks_wpAny_call_super (I.kIn _ _ hDk) rfl ho rfl (fun c e => by cases e) (PySem.W.looks_mroIn I.kIn F.mro) (fun h2 hso k2' => ?_)
  have I2 := kept_inv (h' := h2) (s.toks + (ps.zip us).length) I k2'
  have hI : PySem.W.InstAt h2 a { cls := .ref D, dict := none, data := .fields #[.ref t1, .none, .none, .none, .bool false, .none] } D none := ⟨k2' _ _ ho, rfl, rfl, trivial⟩
  have hsup := F.sup
  unfold PySem.W.ks_superIn at hsup
  rw [hcl] at hsup
  refine PySem.W.kxs_getMethod PySem.W.kxs_ValueError hso (PySem.W.looks_opaque I2.kIn F.st) (l₀ := .ref D :: bm) ((PySem.W.looks_clsIn I2.kIn hcl).andThen .now) rfl I2.kIn hsup (hI.type.andThen (PySem.W.looks_subIn I2.kIn F.sub)) (PySem.W.ks_ne I2.kIn hI hcl) (by decide) ?_
  have hmw : (h2.push (PySem.W.kxs_mw "ValueError.__init__" a)).get? h2.objs.size = some (PySem.W.kxs_mw "ValueError.__init__" a) := Heap.get?_push_at rfl rfl
  have I3 := kept_inv (h' := h2.push (PySem.W.kxs_mw "ValueError.__init__" a)) (s.toks + (ps.zip us).length + 1) I2 (fun b o e => Heap.get?_push_of_some _ e)
  have I4 := add_pin (u := h2.objs.size) (n := 0) I3 hmw (I2.hok.fresh (Nat.le_refl _)) (Nat.ne_of_gt I2.lt) (I2.nofs (Nat.le_refl _)) (fun v z => by cases z)
  show wpAny _ _ (callWith p3 (.ref h2.objs.size) [] (backTo p3 (starEach (e0 :: es) _)) []) _ _ _
  refine kxs_cw (i := "ValueError.__init__") (x := a) (he _) (hpl _) ?_
  refine thn (hta.run p3 _ _ _ H _ I4 hq) fun us2 s5 ⟨vs5, H5, I5, r5, hl5, ha5, q5⟩ => ?_
  have pin5 := (I5.pin (h2.objs.size, PySem.W.kxs_mw "ValueError.__init__" a) (List.mem_append_right _ List.mem_cons_self)).1
  refine ⟨pin5, ?_⟩
  refine mw_call F.T I5 pin5 ha5 ?_ fun s6 I6 => ?_
  · rw [← Paired.length r5, sizeLine_eq]
    omega
  · exact PySem.wpAt_of_wpAny (ht.run [] s6 _ H5 _ (less_pin I6) q5)
end
end Ind

set_option Elab.async false
set_option linter.all false
set_option maxRecDepth 100000
set_option maxHeartbeats 4000000
namespace Ind
open PySem PySem.Spec PyProof.Rows L2 SX
abbrev sIsW : Stmt := top 14
abbrev sAs : Stmt := top 15
/-- what a comprehension has gathered -/
structure ColV (D : Addr) (H H2 : Hp) (vs : List V) : Prop where
  s : Same H H2
  at_ : H2 D = some (.lst vs)
theorem ColV.start {D : Addr} {H : Hp} (h : H D = none) : ColV D H (upd H D (.lst [])) [] := ⟨same_upd h, upd_same⟩
theorem ColV.push {D : Addr} {H H2 H3 : Hp} {vs : List V} {v : V} (x : ColV D H H2 vs) (hD : H D = none) (s : Same H2 H3) (hl : vs.length ≤ 100000) :
    ∃ acc, H3 D = some (.lst acc) ∧ acc.length < sizeLine ∧ ColV D H (upd H3 D (.lst (acc ++ [v]))) (vs ++ [v]) := by
  refine ⟨vs, s _ _ x.at_, Nat.lt_of_le_of_lt hl (by decide), fun c o ec => ?_, upd_same⟩
  rw [upd_ne (ne_of_none ec hD)]
  exact s _ _ (x.s _ _ ec)
/-- a small letter -/
def sm1 (c : Nat) : Bool := decide (97 ≤ c) && decide (c ≤ 122)
def smB (l : List Nat) : Bool := l.all sm1
def isW (l : List Nat) : Bool := decide (1 ≤ l.length) && decide (l.length ≤ 12) && smB l
def spAs : Sp := fun vs H Q _ => ∃ l : List Nat, vs = [.str (S l)] ∧ l.length ≤ 100000 ∧ ∀ H' : Hp, Same H H' → Q (.bl (smB l)) H'
def spIsW (K : PySem.W.Frag) : Sp := fun vs H Q _ => (∃ l : List Nat, vs = [.str (S l)] ∧ l.length ≤ 100000 ∧ ∀ H' : Hp, Same H H' → Q (.bl (isW l)) H') ∨
  ∃ (x : V) (ty : Value), vs = [x] ∧ TyX K H x ty ∧ PySem.W.kitOne K ty (.type "str") = some false ∧ Q (.bl false) H
theorem one_lt (c d : Nat) : decide ((⟨#[c]⟩ : Str).cps.toList < (⟨#[d]⟩ : Str).cps.toList) = decide (c < d) := by
  by_cases h : c < d
  · rw [decide_eq_true h]
    refine decide_eq_true ?_
    show [c] < [d]
    exact List.cons_lt_cons_iff.mpr (.inl h)
  · rw [decide_eq_false h]
    refine decide_eq_false fun z => ?_
    have z : [c] < [d] := z
    rcases List.cons_lt_cons_iff.mp z with z | ⟨_, z⟩
    · exact h z
    · cases z
theorem at_S {l : List Nat} {i c : Nat} (h : (S l).cps[i]? = some c) : l[i]? = some c := by
  have : l.toArray[i]? = some c := h
  simpa using this
section
variable {P : Program} {w : World} {K : PySem.W.Frag} {mg : Str → Option Value} {base : Heap}
abbrev nAs : List Str := ["text", "here"]
theorem scAs : FnScope nAs ["text"] (defScope sAs) := ⟨rfl, rfl, rfl, by decide +kernel, rfl, by decide +kernel, by decide +kernel⟩
theorem ok_as {f : Addr} {fd : FuncData} (F : Fun K "are_small" "are_small" sAs f fd) (hall : mg "all" = none) : FnOk P w K mg base CX0 1 f fd ["text"] spAs := by
  refine F.ok scAs (fun vs H Q E h => ?_) (fun cdv A outer s H vs Q E hr h => ?_)
  · obtain ⟨l, rfl, _⟩ := h
    rfl
  · obtain ⟨l, rfl, hl, k⟩ := h
    refine ⟨_, pss_one (ps_ret (pe_callB (cr_all rfl) (by rfl) hall (by decide +kernel) (pa_cons (pe_lc (own := [("here", 1)]) (g := gName 1) (tt := tYes) rfl scAs.nd (pi_str (pv 0)) (blkOk_by (N := nAs) (sc := defScope sAs) (by decide +kernel))
        (fun _ _ _ _ _ => pg_name (i := 1) scAs.nd rfl (Or.inl rfl)) (fun _ _ _ _ _ => pts_nil) (fun _ _ _ _ _ => pe_chain op_le_str op_le_str pe_str (pv 1) pe_str)) pa_nil))), ?_⟩
    refine ⟨_, rfl, _, rfl, fun D hD => ?_⟩
    refine lc_it (walk_str (z := S l)) (fun i H2 => ColV D H H2 ((l.take i).map fun c => V.bl (sm1 c))) (ColV.start hD) (fun _ _ _ _ => trivial) ?_ ?_
    · rintro i x H2 H3 hi z ⟨rfl, c, hc, rfl⟩
      have hc := at_S hc
      refine ⟨rfl, _, rfl, Str.ofString "a", ⟨#[c]⟩, rfl, rfl, _, rfl, ?_⟩
      have e1 : (!decide ((⟨#[c]⟩ : Str).cps.toList < (Str.ofString "a").cps.toList)) = decide (97 ≤ c) := by
        rw [show Str.ofString "a" = ⟨#[97]⟩ by decide +kernel, one_lt]
        by_cases h : 97 ≤ c
        · rw [decide_eq_true h, decide_eq_false (by omega)]
          rfl
        · rw [decide_eq_false h, decide_eq_true (by omega)]
          rfl
      have fin : ∃ acc, H3 D = some (.lst acc) ∧ acc.length < sizeLine ∧ ColV D H (upd H3 D (.lst (acc ++ [V.bl (sm1 c)]))) ((l.take (i + 1)).map fun c => V.bl (sm1 c)) := by
        rw [List.take_add_one, hc, List.map_append]
        refine z.push hD same_rfl ?_
        rw [List.length_map, List.length_take]
        omega
      rw [e1]
      by_cases h : 97 ≤ c
      · rw [decide_eq_true h]
        refine iteT ⟨⟨#[c]⟩, Str.ofString "z", rfl, rfl, ?_⟩
        have e2 : (!decide ((Str.ofString "z").cps.toList < (⟨#[c]⟩ : Str).cps.toList)) = sm1 c := by
          rw [show Str.ofString "z" = ⟨#[122]⟩ by decide +kernel, one_lt]
          unfold sm1
          rw [decide_eq_true h]
          by_cases h2 : c ≤ 122
          · rw [decide_eq_true h2, decide_eq_false (by omega)]
            rfl
          · rw [decide_eq_false h2, decide_eq_true (by omega)]
            rfl
        rw [e2]
        exact fin
      · rw [decide_eq_false h]
        refine iteF ?_
        have e3 : sm1 c = false := by
          unfold sm1
          rw [decide_eq_false h]
          rfl
        rw [e3] at fin
        exact fin
    · rintro H2 z
      have e : (l.take (S l).cps.size).map (fun c => V.bl (sm1 c)) = (l.map sm1).map V.bl := by
        rw [show (S l).cps.size = l.length by simp [S], List.take_length, List.map_map]
        rfl
      rw [e] at z
      refine ⟨D, l.map sm1, rfl, SqL.of z.at_, ?_⟩
      rw [show (l.map sm1).all id = smB l by unfold smB; rw [List.all_map]; rfl]
      exact k _ z.s
abbrev nIsW : List Str := ["value"]
theorem scIsW : FnScope nIsW ["value"] (defScope sIsW) := ⟨rfl, rfl, rfl, by decide +kernel, rfl, by decide +kernel, by decide +kernel⟩
theorem ok_isw {f fA : Addr} {fd fdA : FuncData} {vL : Value} (F : Fun K "is_word" "is_word" sIsW f fd) (T : TxL K mg) (hstr : mg "str" = none) (gL : mg "LETTERS" = some vL) (rL : RelV (.int 12) vL)
    (GA : FnOk P w K mg base CX0 1 fA fdA ["text"] spAs) (kA : PySem.W.keepIn K (.ref fA) = true) (bA : Binds K fdA ["text"] []) (gA : mg "are_small" = some (.ref fA)) : FnOk P w K mg base CX0 2 f fd ["value"] (spIsW K) := by
  refine F.ok scIsW (fun vs H Q E h => ?_) (fun cdv A outer s H vs Q E hr h => ?_)
  · rcases h with ⟨l, rfl, _⟩ | ⟨x, ty, rfl, _⟩ <;> rfl
  · refine ⟨_, pss_cons (ps_if (PW.pt (pw_or (pt_not (pt_val (pe_callB call_isi (by rfl) T.isinstance (by decide +kernel) (pa_cons (pv 0) (pa_cons (pe_bltn (v := .ty "str") (by rfl) hstr (by decide +kernel) rfl) pa_nil)))))
          (pw_or1 (pt_not (pt_chain op_le op_le pe_int (pe_callB call_len_str (by rfl) T.len PySem.boot_len (pa_cons (pv 0) pa_nil)) (pe_glob rfl gL rL)))))) (pss_one (ps_ret pe_bl)) pss_nil)
      (pss_one (ps_ret (pe_call GA hr (by rfl) gA kA bA .nil pass0 (pa_cons (pv 0) pa_nil)))), ?_⟩
    rcases h with ⟨l, rfl, hl, k⟩ | ⟨x, ty, rfl, hty, hk, q⟩
    · refine ⟨_, rfl, _, _, _, _, true, rfl, ClsV.ty "str", .base (.str _), kit_ty (by decide +kernel), true, rfl, ?_⟩
      refine iteF ⟨_, rfl, S l, rfl, (by rw [S_len]; exact Nat.le_trans hl (by decide)), ?_⟩
      rw [S_len]
      refine ⟨_, _, rfl, rfl, _, rfl, ?_⟩
      by_cases h1 : 1 ≤ l.length
      · rw [show decide ((1 : Int) ≤ ((l.length : Nat) : Int)) = true from decide_eq_true (by omega)]
        refine iteT ⟨_, _, rfl, rfl, _, rfl, ?_⟩
        by_cases h2 : l.length ≤ 12
        · rw [show decide (((l.length : Nat) : Int) ≤ 12) = true from decide_eq_true (by omega)]
          refine iteF ⟨_, rfl, l, rfl, hl, fun H' s => ?_⟩
          have := k H' s
          unfold isW at this
          rw [decide_eq_true h1, decide_eq_true h2] at this
          exact this
        · rw [show decide (((l.length : Nat) : Int) ≤ 12) = false from decide_eq_false (by omega)]
          refine iteT ?_
          have := k H same_rfl
          unfold isW at this
          rw [decide_eq_true h1, decide_eq_false h2] at this
          exact this
      · rw [show decide ((1 : Int) ≤ ((l.length : Nat) : Int)) = false from decide_eq_false (by omega)]
        refine iteF ⟨_, rfl, iteT ?_⟩
        have := k H same_rfl
        unfold isW at this
        rw [decide_eq_false h1] at this
        exact this
    · refine ⟨_, rfl, _, _, _, _, false, rfl, ClsV.ty "str", hty, hk, false, rfl, iteT ?_⟩
      exact q
end
end Ind

set_option Elab.async false
set_option maxRecDepth 100000
namespace Ind
open PySem SX
open PySem.NumText (AllDigits digitsVal)
open TL (numL numL_lt numL_step)
/-! ### digits of a number in blocks -/
/-- the last k digits, with zeros ahead -/
def zp : Nat → Nat → List Nat
  | 0, _ => []
  | k + 1, n => zp k (n / 10) ++ [48 + n % 10]
theorem zp_len : ∀ (k n : Nat), (zp k n).length = k
  | 0, _ => rfl
  | k + 1, n => by rw [zp, List.length_append, zp_len]; rfl
theorem zp_zero : ∀ k : Nat, zp k 0 = List.replicate k 48
  | 0 => rfl
  | k + 1 => by
    rw [zp, Nat.zero_div, zp_zero k, List.replicate_succ']
theorem numL_pos {n : Nat} (h : 10 ≤ n) : numL n = numL (n / 10) ++ [48 + n % 10] := numL_step h
theorem zp_num : ∀ {k n : Nat}, 0 < k → n < 10 ^ k → List.replicate (k - (numL n).length) 48 ++ numL n = zp k n
  | k + 1, n, _, h => by
    by_cases hn : n < 10
    · rw [numL_lt hn, zp, Nat.div_eq_of_lt hn, zp_zero, Nat.mod_eq_of_lt hn]
      rfl
    · have h1 : n / 10 < 10 ^ k := by
        rw [Nat.pow_succ] at h
        omega
      have hk : 0 < k := by
        cases k with
        | zero => simp at h1; omega
        | succ k => omega
      rw [numL_step (by omega), zp, ← zp_num hk h1, ← List.append_assoc]
      congr 2
      rw [List.length_append]
      have : k + 1 - ((numL (n / 10)).length + [48 + n % 10].length) = k - (numL (n / 10)).length := by
        show k + 1 - (_ + 1) = _
        omega
      rw [this]
theorem zp_len_num {k n : Nat} (hk : 0 < k) (h : n < 10 ^ k) : (numL n).length ≤ k := TL.numL_len hk h
theorem numL_split : ∀ (k q r : Nat), 0 < q → r < 10 ^ k → numL (q * 10 ^ k + r) = numL q ++ zp k r
  | 0, q, r, _, h => by
    have : r = 0 := by simpa using h
    subst this
    simp [zp]
  | k + 1, q, r, hq, h => by
    have hp : 0 < 10 ^ k := Nat.pow_pos (by decide)
    have h1 : r / 10 < 10 ^ k := by
      rw [Nat.pow_succ] at h
      omega
    have e : q * 10 ^ (k + 1) = 10 * (q * 10 ^ k) := by rw [Nat.pow_succ]; ac_rfl
    have hb : 1 ≤ q * 10 ^ k := Nat.mul_pos hq hp
    have d : (q * 10 ^ (k + 1) + r) / 10 = q * 10 ^ k + r / 10 := by rw [e]; omega
    have m : (q * 10 ^ (k + 1) + r) % 10 = r % 10 := by rw [e]; omega
    rw [numL_step (by rw [e]; omega), d, m, numL_split k q (r / 10) hq h1, zp, List.append_assoc]
theorem digitsVal_app (a b : List Nat) : digitsVal (a ++ b) = digitsVal a * 10 ^ b.length + digitsVal b := by
  have key : ∀ (b : List Nat) (v : Nat), b.foldl (fun acc c => acc * 10 + (c - 48)) v = v * 10 ^ b.length + b.foldl (fun acc c => acc * 10 + (c - 48)) 0 := by
    intro b
    induction b with
    | nil => intro v; simp
    | cons c b ih =>
      intro v
      rw [List.foldl_cons, List.foldl_cons, ih, ih (0 * 10 + (c - 48)), List.length_cons, Nat.pow_succ, Nat.add_mul, Nat.zero_mul, Nat.zero_add]
      have : v * 10 * 10 ^ b.length = v * (10 ^ b.length * 10) := by ac_rfl
      omega
  unfold digitsVal
  rw [List.foldl_append, key]
theorem digitsVal_one (c : Nat) : digitsVal [c] = c - 48 := by
  show 0 * 10 + (c - 48) = _
  omega
theorem digitsVal_lt : ∀ {l : List Nat}, AllDigits l → digitsVal l < 10 ^ l.length
  | [], _ => by decide
  | c :: l, h => by
    have h1 := digitsVal_lt (l := l) h.tail
    have h2 := h.head
    have e := digitsVal_app [c] l
    rw [digitsVal_one] at e
    have e2 : digitsVal (c :: l) = (c - 48) * 10 ^ l.length + digitsVal l := e
    rw [e2, List.length_cons, Nat.pow_succ]
    have h3 : (c - 48) * 10 ^ l.length ≤ 9 * 10 ^ l.length := Nat.mul_le_mul_right _ (by omega)
    omega
/-- zfill of a number's text -/
theorem zfill_num {n : Nat} (h : n < 10 ^ 64) : Txt.zfill (S (numL n)) 64 = S (zp 64 n) := by
  have hl := zp_len_num (k := 64) (by decide) h
  have e := zp_num (k := 64) (by decide) h
  unfold Txt.zfill
  by_cases c : (64 : Int) ≤ ((S (numL n)).length : Int)
  · rw [if_pos c]
    rw [S_len] at c
    have : (numL n).length = 64 := by omega
    rw [← e, this]
    rfl
  · rw [if_neg c]
    rw [S_len] at c
    have hz : zfilled (S (numL n)) ((64 : Int).toNat - (S (numL n)).length) = Builtin.Str.padded (S (numL n)) (64 - (numL n).length) 0 48 := by
      have hd := TL.numL_digits n
      have hne := TL.numL_ne n
      rw [S_len]
      unfold zfilled
      cases h0 : numL n with
      | nil => exact absurd h0 hne
      | cons c0 cs =>
        have hc := hd c0 (by rw [h0]; simp)
        show (match (S (c0 :: cs)).cps[0]? with | some 43 | some 45 => _ | _ => _) = _
        have : (S (c0 :: cs)).cps[0]? = some c0 := by simp [S]
        rw [this]
        split
        · rename_i z; cases z; omega
        · rename_i z; cases z; omega
        · rfl
    rw [hz, ← e]
    unfold Builtin.Str.padded
    congr 1
    simp [S]
end Ind

set_option Elab.async false
set_option linter.all false
set_option maxRecDepth 100000
set_option maxHeartbeats 4000000
set_option exponentiation.threshold 3000
namespace Ind
open PySem PySem.Spec PyProof.Rows L2 SX
open Builtin.Int (intBits)
open TL (numL)
abbrev sDec : Stmt := top 7
abbrev sNum : Stmt := top 8
/-- the texts of code lists, as values -/
def Ss (ls : List (List Nat)) : List V := ls.map fun l => V.str (S l)
theorem Ss_strs (ls : List (List Nat)) : Ss ls = (ls.map S).map V.str := by
  unfold Ss
  rw [List.map_map]
  rfl
theorem joinL_nil : ∀ ls : List (List Nat), TL.joinL [] ls = ls.flatten
  | [] => rfl
  | [p] => by
    show p = _
    simp
  | p :: q :: r => by
    show p ++ ([] ++ TL.joinL [] (q :: r)) = _
    rw [joinL_nil (q :: r)]
    simp
def dec (n : Int) : List Nat := (if n < 0 then [45] else []) ++ numL n.natAbs
structure TxP (mg : Str → Option Value) : Prop where
  part : ∃ v, mg "PART" = some v ∧ RelV (.int (10 ^ 64)) v
  dig : ∃ v, mg "DIGITS" = some v ∧ RelV (.int 64) v
  divmod : mg "divmod" = none
  str : mg "str" = none
  max : mg "max" = none
def spDec : Sp := fun vs H Q _ => ∃ n : Int, vs = [.int n] ∧ n.natAbs < 10 ^ 200 ∧ ∀ H' : Hp, Same H H' → Q (.str (S (dec n))) H'
theorem flat64 : ∀ {ls : List (List Nat)}, (∀ p ∈ ls, p.length = 64) → ls.flatten.length = 64 * ls.length
  | [], _ => rfl
  | p :: ls, h => by
    rw [List.flatten_cons, List.length_append, flat64 fun q hq => h q (List.mem_cons_of_mem _ hq), h p (by simp), List.length_cons]
    omega
/-- the pieces behind each turn -/
structure DecSt (m rest : Nat) (ls : List (List Nat)) : Prop where
  all : numL m = numL rest ++ ls.reverse.flatten
  len : ∀ p ∈ ls, p.length = 64
theorem DecSt.few {m rest : Nat} {ls : List (List Nat)} (h : DecSt m rest ls) (hm : m < 10 ^ 200) : ls.length ≤ 4 := by
  have h1 := TL.numL_len (k := 200) (by decide) hm
  rw [h.all, List.length_append, flat64 fun p hp => h.len p (List.mem_reverse.mp hp), List.length_reverse] at h1
  omega
theorem DecSt.go {m rest : Nat} {ls : List (List Nat)} (h : DecSt m rest ls) (hr : 10 ^ 64 ≤ rest) : DecSt m (rest / 10 ^ 64) (ls ++ [zp 64 (rest % 10 ^ 64)]) := by
  have hp : 0 < 10 ^ 64 := Nat.pow_pos (by decide)
  have e := numL_split 64 (rest / 10 ^ 64) (rest % 10 ^ 64) (Nat.div_pos hr hp) (Nat.mod_lt _ hp)
  rw [Nat.div_add_mod'] at e
  refine ⟨?_, fun p hq => ?_⟩
  · rw [h.all, e, List.reverse_append]
    simp
  · rcases List.mem_append.mp hq with z | z
    · exact h.len p z
    · rw [List.mem_singleton.mp z, zp_len]
theorem lt_log {n k : Nat} (h : n < 2 ^ k) (hk : 0 < k) : n.log2 < k := by
  by_cases z : n = 0
  · subst z
    exact hk
  · exact (Nat.log2_lt z).mpr h
theorem ediv64 (r : Nat) : (r : Int) / (10 ^ 64) = ((r / 10 ^ 64 : Nat) : Int) := by
  rw [Int.natCast_ediv]
  rfl
theorem emod64 (r : Nat) : (r : Int) % (10 ^ 64) = ((r % 10 ^ 64 : Nat) : Int) := by
  rw [Int.natCast_emod]
  rfl
theorem p64 : (10 ^ 64 : Nat) < 2 ^ 250 := by decide
section
variable {P : Program} {w : World} {K : PySem.W.Frag} {mg : Str → Option Value} {base : Heap} {C Z : Addr}
theorem scDec : FnScope ["n", "rest", "parts", "part"] ["n"] (defScope sDec) := ⟨rfl, rfl, rfl, by decide +kernel, rfl, by decide +kernel, by decide +kernel⟩
theorem ok_dec {f : Addr} {fd : FuncData} (F : Fun K "decimal" "decimal" sDec f fd) (T : TxL K mg) (G : TxP mg) : FnOk P w K mg base CX0 1 f fd ["n"] spDec := by
  obtain ⟨vP, gP, rP⟩ := G.part
  obtain ⟨vD, gD, rD⟩ := G.dig
  refine F.ok scDec (fun vs H Q E h => ?_) (fun cdv A outer s H vs Q E hr h => ?_)
  · obtain ⟨n, rfl, _⟩ := h
    rfl
  · obtain ⟨n, rfl, hn, q⟩ := h
    refine ⟨_, pss_cons (ps_set (i := 1) scDec.nd rfl (Or.inl rfl) (pe_callB call_abs (by rfl) T.abs (by decide +kernel) (pa_cons (pv 0) pa_nil)))
      (pss_cons (ps_set (i := 2) scDec.nd rfl (Or.inl rfl) (pe_lst pa_nil))
      (pss_cons (ps_while PassesOwn.never (pt_cmpR op_ge (pv 1) (pe_glob rfl gP rP) (nomark _))
        (pss_cons (ps_asg (pe_callB call_divmodW (by rfl) G.divmod (by decide +kernel) (pa_cons (pv 1) (pa_cons (pe_glob rfl gP rP) pa_nil))) (pg_tup (by rfl) (pgs_cons (pg_name (i := 1) scDec.nd rfl (Or.inl rfl)) (pgs_cons (pg_name (i := 3) scDec.nd rfl (Or.inl rfl)) pgs_nil))))
        (pss_one (ps_expr (pe_bm PySem.F.plainAttrs_list PySem.F.slot_list_append PySem.F.type_list_append mt_append (pv 2) (pa_cons
          (pe_bm PySem.F.plainAttrs_str PySem.F.slot_str_zfill PySem.F.type_str_zfill mt_zfill (pe_callTy call_str_int (by rfl) G.str (by decide +kernel) (pa_cons (pv 3) pa_nil)) (pa_cons (pe_glob rfl gD rD) pa_nil)) pa_nil))))))
      (pss_cons (ps_expr (pe_bm PySem.F.plainAttrs_list PySem.F.slot_list_append PySem.F.type_list_append mt_append (pv 2) (pa_cons (pe_callTy call_str_int (by rfl) G.str (by decide +kernel) (pa_cons (pv 1) pa_nil)) pa_nil)))
      (pss_cons (ps_if (pt_cmpR op_lt (pv 0) pe_int (nomark _)) (pss_one (ps_expr (pe_bm PySem.F.plainAttrs_list PySem.F.slot_list_append PySem.F.type_list_append mt_append (pv 2) (pa_cons pe_str pa_nil)))) pss_nil)
      (pss_one (ps_ret (pe_bm PySem.F.plainAttrs_str PySem.F.slot_str_join PySem.F.type_str_join mt_join pe_str (pa_cons (pe_revL (pv 2)) pa_nil)))))))), ?_⟩
    refine ⟨_, rfl, _, rfl, Nat.zero_le _, fun l hl => ?_⟩
    rw [abs_nat]
    have keep : ∀ {H' : Hp} {xs : List V}, Same H H' → Same H (upd H' l (.lst xs)) := fun {H' xs} s c o e => by
      rw [upd_ne (ne_of_none e hl)]
      exact s c o e
    refine while_by (fun σ H' => ∃ (rest : Nat) (ls : List (List Nat)) (v : Option V), σ = [some (.int n), some (.int (rest : Int)), some (.ref l), v] ∧ H' l = some (.lst (Ss ls)) ∧ Same H H' ∧ DecSt n.natAbs rest ls ∧ rest ≤ n.natAbs)
      (fun σ _ => match σ[1]? with | some (some (V.int y)) => y.natAbs | _ => 0) ⟨n.natAbs, [], none, rfl, upd_same, same_upd hl, ⟨by simp, by simp⟩, Nat.le_refl _⟩ ?_ ?_
    · rintro σ H' ⟨rest, ls, v, rfl, hL, s1, D, hle⟩
      have hfew := D.few hn
      have hlen : (Ss ls).length < sizeLine := by
        unfold Ss
        rw [List.length_map]
        exact Nat.lt_of_le_of_lt hfew (by decide)
      refine ⟨_, rfl, _, _, rfl, rfl, _, rfl, ite2 (fun c => ?_) (fun c => ?_)⟩
      · have hr1 : 10 ^ 64 ≤ rest := by
          have := of_decide_eq_true c
          omega
        have hb : rest % 10 ^ 64 < 10 ^ 64 := Nat.mod_lt _ (Nat.pow_pos (by decide))
        refine ⟨_, rfl, _, _, rfl, divp_ok (by decide) ?_, fun p hp => ?_⟩
        · refine Nat.le_trans (m := 700) (PySem.intBits_le_iff.mpr ?_) (Nat.le_trans (by decide) (Nat.le_add_left 4000 _))
          have h7 : (10 : Nat) ^ 200 < 2 ^ 700 := by decide
          omega
        · rw [ediv64, emod64]
          refine ⟨p, _, rfl, SqT.of upd_same, rfl, _, _, rfl, _, _, rfl, rfl, ?_⟩
          have hL2 : (upd H' p (.tup [.int ((rest / 10 ^ 64 : Nat) : Int), .int ((rest % 10 ^ 64 : Nat) : Int)])) l = some (.lst (Ss ls)) := same_upd hp _ _ hL
          refine ⟨_, rfl, .inl ⟨rfl, _, SqL.of hL2⟩, _, rfl, _, rfl, lt_log (Nat.lt_trans hb (Nat.lt_trans p64 (by decide))) (by decide), rfl, _, _, rfl, rfl, by decide +kernel, _, _, _, rfl, rfl, hL2, hlen, ?_⟩
          rw [num_S, zfill_num hb]
          refine ⟨⟨_, ls ++ [zp 64 (rest % 10 ^ 64)], _, rfl, ?_, keep (s1.trans (same_upd hp)), D.go hr1, Nat.le_trans (Nat.div_le_self _ _) hle⟩, ?_⟩
          · rw [upd_same]
            unfold Ss
            rw [List.map_append]
            rfl
          · show ((rest / 10 ^ 64 : Nat) : Int).natAbs < ((rest : Nat) : Int).natAbs
            have : rest / 10 ^ 64 < rest := Nat.div_lt_self (by have : 0 < 10 ^ 64 := Nat.pow_pos (by decide); omega) (by decide)
            omega
      · have hr1 : rest < 10 ^ 64 := by
          have : ¬ ((10 : Int) ^ 64 ≤ (rest : Int)) := fun z => c (decide_eq_true z)
          omega
        refine ⟨_, rfl, .inl ⟨rfl, _, SqL.of hL⟩, _, rfl, _, rfl, lt_log (Nat.lt_trans hr1 (Nat.lt_trans p64 (by decide))) (by decide), _, _, _, rfl, rfl, hL, hlen, ?_⟩
        rw [num_S]
        have hL2 : (upd H' l (.lst (Ss ls ++ [V.str (S (numL rest))]))) l = some (.lst (Ss (ls ++ [numL rest]))) := by
          rw [upd_same]
          unfold Ss
          rw [List.map_append]
          rfl
        have sum64 : ∀ {xs : List (List Nat)}, (∀ p ∈ xs, p.length ≤ 64) → (xs.map (·.length)).sum ≤ 64 * xs.length := fun {xs} => by
          induction xs with
          | nil => intro _; exact Nat.le_refl _
          | cons p xs ih =>
            intro h
            have h1 := ih fun q hq => h q (List.mem_cons_of_mem _ hq)
            have h2 := h p (by simp)
            rw [List.map_cons, List.sum_cons, List.length_cons]
            omega
        have hlen2 : ∀ p ∈ ls ++ [numL rest], p.length ≤ 64 := fun p hp => by
          rcases List.mem_append.mp hp with z | z
          · rw [D.len p z]
            exact Nat.le_refl _
          · rw [List.mem_singleton.mp z]
            exact zp_len_num (by decide) hr1
        refine ⟨_, rfl, _, _, rfl, rfl, _, rfl, ite2 (fun c2 => ?_) (fun c2 => ?_)⟩
        · have hneg : n < 0 := of_decide_eq_true c2
          refine ⟨_, rfl, .inl ⟨rfl, _, SqL.of hL2⟩, _, _, _, rfl, rfl, hL2, ?_, ?_⟩
          · unfold Ss
            rw [List.length_map, List.length_append]
            exact Nat.lt_of_le_of_lt (m := 5) (by show ls.length + 1 ≤ 5; omega) (by decide)
          · refine ⟨rfl, _, rfl, l, _, rfl, SqL.of upd_same, fun p hp => ?_⟩
            refine ⟨_, p, ((ls ++ [numL rest] ++ [[45]]).reverse.map S), rfl, rfl, .inl (SqL.of ?_), ?_, ?_⟩
            · rw [upd_same, ← Ss_strs]
              unfold Ss
              rw [show (Str.ofString "-") = S [45] by decide +kernel]
              simp only [List.map_append, List.map_reverse]
              rfl
            · rw [lens, List.length_map]
              have h1 := sum64 (xs := (ls ++ [numL rest] ++ [[45]]).reverse) fun p hp => by
                rcases List.mem_append.mp (List.mem_reverse.mp hp) with z | z
                · exact hlen2 p z
                · rw [List.mem_singleton.mp z]
                  decide
              have h2 : (ls ++ [numL rest] ++ [[45]]).reverse.length ≤ 10 := by
                rw [List.length_reverse, List.length_append, List.length_append]
                show ls.length + 1 + 1 ≤ 10
                omega
              have h3 : (Str.ofString "").length = 0 := by decide +kernel
              show _ + _ * (Str.ofString "").length ≤ 16777216
              rw [h3]
              omega
            · rw [show (Str.ofString "") = S [] by decide +kernel, join_S, joinL_nil]
              have e : (ls ++ [numL rest] ++ [[45]]).reverse.flatten = dec n := by
                unfold dec
                rw [if_pos hneg, D.all]
                simp
              rw [e]
              exact q _ ((keep (keep s1)).trans (same_upd hp))
        · have hneg : ¬ n < 0 := fun z => c2 (decide_eq_true z)
          refine ⟨rfl, _, rfl, l, _, rfl, SqL.of hL2, fun p hp => ?_⟩
          refine ⟨_, p, ((ls ++ [numL rest]).reverse.map S), rfl, rfl, .inl (SqL.of ?_), ?_, ?_⟩
          · rw [upd_same, ← Ss_strs]
            unfold Ss
            rw [List.map_reverse]
          · rw [lens, List.length_map]
            have h1 := sum64 (xs := (ls ++ [numL rest]).reverse) fun p hp => hlen2 p (List.mem_reverse.mp hp)
            have h2 : (ls ++ [numL rest]).reverse.length ≤ 10 := by
              rw [List.length_reverse, List.length_append]
              show ls.length + 1 ≤ 10
              omega
            have h3 : (Str.ofString "").length = 0 := by decide +kernel
            show _ + _ * (Str.ofString "").length ≤ 16777216
            rw [h3]
            omega
          · rw [show (Str.ofString "") = S [] by decide +kernel, join_S, joinL_nil]
            have e : (ls ++ [numL rest]).reverse.flatten = dec n := by
              unfold dec
              rw [if_neg hneg, D.all]
              simp
            rw [e]
            exact q _ ((keep s1).trans (same_upd hp))
    · rintro σ H' R R' hR ⟨v, e1, i, j, e2, e3, b1, e4, h3⟩
      exact ⟨v, e1, i, j, e2, e3, b1, e4, hR _ _ h3⟩
end
end Ind

set_option Elab.async false
set_option linter.all false
set_option maxRecDepth 100000
set_option maxHeartbeats 4000000
namespace Ind
open PySem PySem.Spec PyProof.Rows L2 SX
open Builtin.Int (intBits)
theorem dec_len {n : Int} (h : n.natAbs < 10 ^ 200) : (dec n).length ≤ 201 := by
  have := TL.numL_len (k := 200) (by decide) h
  unfold dec
  rw [List.length_append]
  split
  · show 1 + _ ≤ 201
    omega
  · show 0 + _ ≤ 201
    omega
/-- a number's text -/
theorem starts_one (l : List Nat) (c : Nat) : Txt.startswith (S l) (S [c]) = decide (l.head? = some c) := by
  unfold Txt.startswith
  rw [StrLaws.subAt_eq, S_len, S_len]
  cases l with
  | nil => simp
  | cons d r =>
    show (decide (0 + 1 ≤ (d :: r).length) && ([d] == [c])) = _
    by_cases h : d = c
    · subst h
      simp
    · simp [h]
theorem S_le {l : List Nat} {n : Nat} (h : l.length ≤ n) (hn : n ≤ 1000000 := by decide) : (S l).length ≤ sizeLine := by
  rw [S_len]
  have : (1000000 : Nat) ≤ sizeLine := by decide
  omega
end Ind

set_option Elab.async false
set_option linter.all false
set_option maxRecDepth 100000
set_option maxHeartbeats 4000000
namespace Ind
open PySem PySem.Spec PyProof.Rows L2 SX
abbrev sNt : Stmt := inClass (top 3) 0
def spNt (D : Addr) : Sp := fun vs H Q _ => ∃ (a : Addr) (n : Int), vs = [.ref a, .int n] ∧ H a = some (exo a D none) ∧ n.natAbs.log2 < 1920 ∧ ((Str.ofString (toString n)).length ≤ 10000) ∧
  ∀ dx, H dx = none → dx ≠ a → Q .non (upd (upd H dx (exd dx [("at", .int n)])) a (exo a D (some dx)))
section
variable {P : Program} {w : World} {K : PySem.W.Frag} {mg : Str → Option Value} {base : Heap} {D cc cda : Addr}
theorem nsNt : NdefX.NScope ["self", "at", "__class__"] ["self", "at"] ["__class__"] (defScope sNt) := NdefX.nscope_by (by decide +kernel)
theorem ok_nt {f : Addr} {fd : FuncData} (F : SupD P K mg "__init__" "NoText.__init__" (defArgs sNt) (defBody sNt) (defScope sNt) D cc cda f fd "self") (hno : PySem.W.findIn K (.ref D) "at" = some none) :
    FnOk P w K mg base CX0 1 f fd ["self", "at"] (spNt D) := by
  refine ok_super (k := 0) (N := ["self", "at", "__class__"]) (hbd := rfl) F nsNt ⟨rfl, rfl, rfl⟩ rfl rfl (fun vs H Q E h => ?_) (fun _ => rfl) (fun _ => rfl) (fun _ => rfl) (fun A outer s H vs Q E hr h => ?_)
  · obtain ⟨a, n, rfl, _⟩ := h
    rfl
  · obtain ⟨a, n, rfl, ha, hn, hl, k⟩ := h
    refine ⟨a, [.int n], _, _, rfl, ha, pa_cons (pe_joined (.cons pe_str (.cons (pe_fmt (pv 1)) .nil))) pa_nil, pss_one (ps_ost (pv 0) (pv 1)), ?_⟩
    refine ⟨_, rfl, ?_, _, rfl, .inr ⟨n, rfl, hn, _, rfl, ?_, ?_⟩⟩
    · decide +kernel
    · rw [PySem.Str.length_append]
      have h1 : (Str.empty ++ Str.ofString "no text, see position ").length ≤ 100 := by decide +kernel
      have h2 : (20000 : Nat) ≤ sizeLine := by decide
      omega
    · exact ⟨(by show 1 ≤ 1000; decide), ha, _, rfl, _, rfl, a, D, rfl, F.T, hno, .inl ⟨ha, k⟩⟩
end
end Ind

set_option Elab.async false
set_option linter.all false
set_option maxRecDepth 100000
set_option maxHeartbeats 4000000
set_option exponentiation.threshold 3000
namespace Ind
open PySem PySem.Spec PyProof.Rows L2 SX
open Builtin.Int (intBits)
open PySem.NumText (AllDigits digitsVal)
theorem rg_down {L : Nat} (h : L ≤ 1000) : RgC (L : Int) 0 (-64) ((L + 63) / 64) := by
  have e : Builtin.Range.rangeSize (L : Int) 0 (-64) = (((L + 63) / 64 : Nat) : Int) := by
    unfold Builtin.Range.rangeSize
    simp only [show ¬ ((-64 : Int) > 0) by decide, if_false, show (-(-64) : Int) = 64 from rfl]
    split <;> omega
  refine ⟨by decide, by decide, ?_, e⟩
  unfold Builtin.Range.small
  rw [e]
  simp only [Builtin.Range.rangeFitsLong, Bool.and_eq_true, Bool.or_eq_true, decide_eq_true_eq, beq_iff_eq, show ¬ ((-64 : Int) > 0) by decide, if_false]
  omega
theorem rg_up {L : Nat} (h : L ≤ 1000) : RgC 0 (L : Int) 2 ((L + 1) / 2) := by
  have e : Builtin.Range.rangeSize 0 (L : Int) 2 = (((L + 1) / 2 : Nat) : Int) := by
    unfold Builtin.Range.rangeSize
    rw [if_pos (by decide)]
    split <;> omega
  refine ⟨by decide, by decide, ?_, e⟩
  have fit : ∀ z : Int, -10000 ≤ z → z ≤ 10000 → Builtin.Range.rangeFitsLong z = true := fun z h1 h2 => by
    unfold Builtin.Range.rangeFitsLong
    rw [Bool.and_eq_true, decide_eq_true_eq, decide_eq_true_eq]
    omega
  unfold Builtin.Range.small
  rw [e, fit 0 (by decide) (by decide), fit (L : Int) (by omega) (by omega), fit 2 (by decide) (by decide), fit _ (by omega) (by omega), if_pos (by decide), fit ((L : Int) + (2 - 1)) (by omega) (by omega)]
  simp
/-- what a list of parts is worth, the smallest part first -/
def ev (B : Nat) : List Nat → Nat
  | [] => 0
  | p :: ps => p + B * ev B ps
theorem ev_app (B : Nat) : ∀ (xs ys : List Nat), ev B (xs ++ ys) = ev B xs + B ^ xs.length * ev B ys
  | [], ys => by simp [ev]
  | p :: xs, ys => by
    rw [List.cons_append, ev, ev, ev_app B xs ys, List.length_cons, Nat.mul_add, Nat.pow_succ]
    have : B * (B ^ xs.length * ev B ys) = B ^ xs.length * B * ev B ys := by ac_rfl
    omega
theorem ev_one (B p : Nat) : ev B [p] = p := by simp [ev]
theorem ev_zero (B : Nat) (xs : List Nat) : ev B (xs ++ [0]) = ev B xs := by
  rw [ev_app, ev_one]
  simp
/-- one more pair -/
theorem ev_pair {B : Nat} {zs xs : List Nat} {i x y : Nat} (h : ev (B * B) zs = ev B (xs.take (2 * i))) (hl : zs.length = i) (hx : xs[2 * i]? = some x) (hy : xs[2 * i + 1]? = some y) :
    ev (B * B) (zs ++ [x + B * y]) = ev B (xs.take (2 * (i + 1))) := by
  have e : xs.take (2 * (i + 1)) = xs.take (2 * i) ++ [x, y] := by
    rw [show 2 * (i + 1) = 2 * i + 1 + 1 by omega, List.take_add_one, List.take_add_one, hx, hy]
    simp
  have hlen : (xs.take (2 * i)).length = 2 * i := by
    have := (List.getElem?_eq_some_iff.mp hx).1
    rw [List.length_take]
    omega
  rw [e, ev_app, ev_app, ev_one, h, hl, hlen]
  have e2 : ev B [x, y] = x + B * y := by simp [ev]
  rw [e2, Nat.mul_pow, ← Nat.pow_add, Nat.two_mul]
/-- one more block of a text -/
theorem ev_block {B : Nat} (hB : B = 10 ^ 64) {l : List Nat} {zs : List Nat} {i : Nat} (h : digitsVal l = ev B zs + B ^ i * digitsVal (l.take (l.length - 64 * i))) (hl : zs.length = i) (hi : 64 * i < l.length) :
    digitsVal l = ev B (zs ++ [digitsVal ((l.drop (l.length - 64 * (i + 1))).take (l.length - 64 * i - (l.length - 64 * (i + 1))))]) + B ^ (i + 1) * digitsVal (l.take (l.length - 64 * (i + 1))) := by
  have e : l.take (l.length - 64 * i) = l.take (l.length - 64 * (i + 1)) ++ (l.drop (l.length - 64 * (i + 1))).take (l.length - 64 * i - (l.length - 64 * (i + 1))) := by
    have hs : l.length - 64 * i = (l.length - 64 * (i + 1)) + (l.length - 64 * i - (l.length - 64 * (i + 1))) := by omega
    conv => lhs; rw [hs]
    rw [List.take_add]
  rw [ev_app, ev_one, hl]
  generalize hc : (l.drop (l.length - 64 * (i + 1))).take (l.length - 64 * i - (l.length - 64 * (i + 1))) = c at e ⊢
  have hcl : c.length = l.length - 64 * i - (l.length - 64 * (i + 1)) := by
    rw [← hc, List.length_take, List.length_drop]
    omega
  rw [e, digitsVal_app] at h
  by_cases hz : l.length ≤ 64 * (i + 1)
  · have z : l.length - 64 * (i + 1) = 0 := by omega
    rw [z] at h ⊢
    have d0 : digitsVal (l.take 0) = 0 := rfl
    rw [d0] at h ⊢
    rw [Nat.zero_mul, Nat.zero_add] at h
    rw [Nat.mul_zero]
    exact h
  · have z : c.length = 64 := by omega
    rw [z, ← hB] at h
    rw [h, Nat.pow_succ, Nat.mul_add]
    have : B ^ i * (digitsVal (l.take (l.length - 64 * (i + 1))) * B) = B ^ i * B * digitsVal (l.take (l.length - 64 * (i + 1))) := by ac_rfl
    omega
theorem cut_nat (l : List Nat) {a b : Nat} (hab : a ≤ b) (hb : b ≤ l.length) : cutS (S l) (some (a : Int)) (some (b : Int)) = S ((l.drop a).take (b - a)) := by
  unfold cutS
  rw [HT.sIx_nat, HT.sIx_nat, S_len, Nat.min_eq_left (Nat.le_trans hab hb), Nat.min_eq_left hb]
end Ind

set_option Elab.async false
set_option linter.all false
set_option maxRecDepth 100000
set_option maxHeartbeats 4000000
set_option exponentiation.threshold 3000
namespace Ind
open PySem PySem.Spec PyProof.Rows L2 SX
open Builtin.Int (intBits)
open TL (numL)
open PySem.NumText (AllDigits digitsVal)
def spNumOf : Sp := fun vs H Q _ => ∃ l : List Nat, vs = [.str (S l)] ∧ AllDigits l ∧ l ≠ [] ∧ l.length ≤ 300 ∧ ∀ H' : Hp, Same H H' → Q (.int ((digitsVal l : Nat) : Int)) H'
def Ints (ns : List Nat) : List V := ns.map fun n : Nat => V.int (n : Int)
section
variable {P : Program} {w : World} {K : PySem.W.Frag} {mg : Str → Option Value} {base : Heap} {C Z : Addr}
abbrev nNum : List Str := ["digits", "parts", "base", "end", "k"]
theorem scNum : FnScope nNum ["digits"] (defScope sNum) := ⟨rfl, rfl, rfl, by decide +kernel, rfl, by decide +kernel, by decide +kernel⟩
theorem Ints_app (xs : List Nat) (z : Nat) : Ints xs ++ [V.int (z : Int)] = Ints (xs ++ [z]) := by
  unfold Ints
  rw [List.map_append]
  rfl
theorem Ints_len (xs : List Nat) : (Ints xs).length = xs.length := List.length_map ..
def muNum (σ : L2.St) (H : Hp) : Nat := match σ[1]? with
  | some (some (V.ref p)) => (match H p with
    | some (.lst ys) => ys.length
    | _ => 0)
  | _ => 0
theorem muNum_at {H : Hp} {p : Addr} {ys : List V} {o1 o2 o3 o4 : Option V} (h : H p = some (.lst ys)) : muNum [o1, some (V.ref p), o2, o3, o4] H = ys.length := by
  show (match H p with | some (.lst ys) => ys.length | _ => 0) = ys.length
  rw [h]
theorem ok_num {f : Addr} {fd : FuncData} (F : Fun K "number_of" "number_of" sNum f fd) (T : TxL K mg) (G : TxP mg) : FnOk P w K mg base CX0 1 f fd ["digits"] spNumOf := by
  obtain ⟨vP, gP, rP⟩ := G.part
  obtain ⟨vD, gD, rD⟩ := G.dig
  refine F.ok scNum (fun vs H Q E h => ?_) (fun cdv A outer s H vs Q E hr h => ?_)
  · obtain ⟨l, rfl, _⟩ := h
    rfl
  · obtain ⟨l, rfl, hd, hne, hl, q⟩ := h
    refine ⟨_, pss_cons (ps_set (i := 1) scNum.nd rfl (Or.inr rfl) (pe_lc (own := [("end", 3)]) (g := gName 3) (tt := tYes) rfl scNum.nd
        (pi_range3 (by rfl) T.range (pa_cons (pe_callB call_len_str (by rfl) T.len PySem.boot_len (pa_cons (pv 0) pa_nil)) (pa_cons pe_int (pa_cons (pe_un un_neg (pe_glob rfl gD rD)) pa_nil)))) (blkOk_by (N := nNum) (sc := defScope sNum) (by decide +kernel))
          (fun _ _ _ _ _ => pg_name (i := 3) scNum.nd rfl (Or.inl rfl)) (fun _ _ _ _ _ => pts_nil)
          (fun _ _ _ _ _ => pe_callTy call_int_str (by rfl) T.int (by decide +kernel) (pa_cons (pe_slice sl_str (pv 0) (po_some (pe_callB (call_max2 rfl) (by rfl) G.max (by decide +kernel) (pa_cons pe_int (pa_cons (pe_op op_sub (pv 3) (pe_glob rfl gD rD)) pa_nil)))) (po_some (pv 3))) pa_nil))))
      (pss_cons (ps_set (i := 2) scNum.nd rfl (Or.inr rfl) (pe_glob rfl gP rP))
      (pss_cons (ps_while PassesOwn.never (pt_cmpR op_gt (pe_callB call_len_seq (by rfl) T.len PySem.boot_len (pa_cons (pv 1) pa_nil)) pe_int (nomark _))
        (C8.pss_cut (ps_if (pt_cmpR op_eq (pe_op op_modN (pe_callB call_len_seq (by rfl) T.len PySem.boot_len (pa_cons (pv 1) pa_nil)) pe_int) pe_int (nomark _)) (pss_one (ps_expr (pe_bm PySem.F.plainAttrs_list PySem.F.slot_list_append PySem.F.type_list_append mt_append (pv 1) (pa_cons pe_int pa_nil)))) pss_nil)
        (pss_cons (ps_set (i := 1) scNum.nd rfl (Or.inr rfl) (pe_lc (own := [("k", 4)]) (g := gName 4) (tt := tYes) (te := tOp (rI0 fun i j => .int (i + j)) (tOp (rIxL K) (tVar 1) (tVar 4)) (tOp (rI (fun i j => intBits i + intBits j ≤ 134217728) fun i j => .int (i * j)) (tVar 2) (tOp (rIxL K) (tVar 1) (tOp (rI0 fun i j => .int (i + j)) (tVar 4) (tC (.int 1)))))) rfl scNum.nd
            (pi_range3 (by rfl) T.range (pa_cons pe_int (pa_cons (pe_callB call_len_seq (by rfl) T.len PySem.boot_len (pa_cons (pv 1) pa_nil)) (pa_cons pe_int pa_nil)))) (blkOk_by (N := nNum) (sc := defScope sNum) (by decide +kernel))
            (fun _ _ _ _ _ => pg_name (i := 4) scNum.nd rfl (Or.inl rfl)) (fun _ _ _ _ _ => pts_nil)
            (fun _ _ _ _ _ => pe_op op_add (pe_ix ix_list (pv 1) (pv 4) fun _ _ => rfl) (pe_op op_mulB (pv 2) (pe_ix ix_list (pv 1) (pe_op op_add (pv 4) pe_int) fun _ _ => rfl)))))
        (pss_one (ps_set (i := 2) scNum.nd rfl (Or.inr rfl) (pe_op op_mulB (pv 2) (pv 2)))))))
      (pss_one (ps_ret (pe_ix ix_list (pv 1) pe_int fun _ _ => rfl))))), ?_⟩
    have hL : l.length ≤ 1000 := by omega
    have lp : 0 < l.length := List.length_pos_iff.mpr hne
    refine ⟨_, rfl, _, rfl, ?_⟩
    rw [S_len]
    refine ⟨by have := S_le (l := l) hL (by decide); rw [S_len] at this; exact this, _, rfl, _, _, _, _, rfl, rg_down hL, fun D hD => lc_it walk_rangeC (fun i H2 => ∃ zs : List Nat, Same H H2 ∧ H2 D = some (.lst (Ints zs)) ∧ zs.length = i ∧ digitsVal l = ev (10 ^ 64) zs + (10 ^ 64) ^ i * digitsVal (l.take (l.length - 64 * i)) ∧ ∀ z ∈ zs, z < 10 ^ 64)
      ⟨[], same_upd hD, upd_same, rfl, ?_, fun z hz => nomatch hz⟩ (fun _ _ _ _ => trivial) ?_ ?_⟩
    · simp [ev]
    · rintro i x H2 H3 hi ⟨zs, s2, hLs, hzl, hev, hzb⟩ ⟨rfl, rfl⟩
      have hi2 : 64 * i < l.length := by omega
      have e3 : (l.length : Int) + (i : Int) * -64 = ((l.length - 64 * i : Nat) : Int) := by omega
      have e4 : (if (l.length : Int) + (i : Int) * -64 - 64 > 0 then (l.length : Int) + (i : Int) * -64 - 64 else 0) = ((l.length - 64 * (i + 1) : Nat) : Int) := by split <;> omega
      have hcs : ∀ c ∈ (l.drop (l.length - 64 * (i + 1))).take (l.length - 64 * i - (l.length - 64 * (i + 1))), 48 ≤ c ∧ c ≤ 57 := fun c hc => hd c (List.mem_of_mem_drop (List.mem_of_mem_take hc))
      have hcl : ((l.drop (l.length - 64 * (i + 1))).take (l.length - 64 * i - (l.length - 64 * (i + 1)))).length = l.length - 64 * i - (l.length - 64 * (i + 1)) := by
        rw [List.length_take, List.length_drop]
        omega
      refine ⟨rfl, _, rfl, _, rfl, _, _, rfl, rfl, _, _, rfl, ?_⟩
      rw [e4]
      refine ⟨_, rfl, _, rfl, _, rfl, _, rfl, S_le hL (by decide), ?_⟩
      rw [e3, cut_nat l (by omega) (by omega)]
      have hval := digitsVal_lt hcs
      refine ⟨_, _, rfl, int_S (List.all_eq_true.mpr fun c hc => by rw [Bool.and_eq_true, decide_eq_true_eq, decide_eq_true_eq]; exact hcs c hc) (fun z => ?_) (by rw [hcl]; omega), by rw [S_len, hcl]; omega, _, hLs, ?_, ?_⟩
      · have z2 := congrArg List.length z
        rw [hcl] at z2
        simp at z2
        omega
      · rw [Ints_len, hzl]
        exact Nat.lt_of_lt_of_le (Nat.lt_of_lt_of_le hi (show (l.length + 63) / 64 ≤ 1000 by omega)) (by decide)
      · rw [Ints_app]
        refine ⟨zs ++ [_], fun c o e => ?_, upd_same, by rw [List.length_append, hzl]; rfl, ev_block rfl hev hzl hi2, fun z hz => ?_⟩
        · rw [upd_ne (ne_of_none e hD)]
          exact s2 c o e
        · rcases List.mem_append.mp hz with h | h
          · exact hzb z h
          · rw [List.mem_singleton.mp h]
            refine Nat.lt_of_lt_of_le hval (Nat.pow_le_pow_right (by decide) (by rw [hcl]; omega))
    · rintro H2 ⟨zs, s2, hLs, hzl, hev, hzb⟩
      have hv : digitsVal l = ev (10 ^ 64) zs := by
        rw [hev, show l.length - 64 * ((l.length + 63) / 64) = 0 by omega]
        show _ + _ * 0 = _
        rw [Nat.mul_zero, Nat.add_zero]
      have hz1 : 1 ≤ zs.length := by omega
      have hz5 : zs.length ≤ 5 := by omega
      have hb0 : ∀ z ∈ zs, intBits ((z : Nat) : Int) ≤ 1000 * 10 ^ (5 - zs.length) := fun z hz => by
        have h1 := hzb z hz
        have h2 : (10 : Nat) ^ 64 < 2 ^ 250 := by decide
        refine Nat.le_trans (m := 250) (PySem.intBits_le_iff.mpr (by omega)) ?_
        have : 0 < 10 ^ (5 - zs.length) := Nat.pow_pos (by decide)
        omega
      have hB0 : intBits ((10 : Int) ^ 64) ≤ 1000 * 10 ^ (5 - zs.length) := by
        refine Nat.le_trans (m := 250) (by decide) ?_
        have : 0 < 10 ^ (5 - zs.length) := Nat.pow_pos (by decide)
        omega
      refine while_by (fun σ H' => ∃ (pl : Addr) (xs : List Nat) (B : Nat) (v3 v4 : Option V), σ = [some (.str (S l)), some (.ref pl), some (.int (B : Int)), v3, v4] ∧ H pl = none ∧ H' pl = some (.lst (Ints xs)) ∧ Same H H' ∧ ev B xs = digitsVal l ∧
          (1 ≤ xs.length ∧ xs.length ≤ 5) ∧ intBits (B : Int) ≤ 1000 * 10 ^ (5 - xs.length) ∧ ∀ x ∈ xs, intBits ((x : Nat) : Int) ≤ 1000 * 10 ^ (5 - xs.length))
        muNum
        ⟨D, zs, 10 ^ 64, none, none, rfl, hD, hLs, s2, hv.symm, ⟨hz1, hz5⟩, hB0, hb0⟩ ?_ ?_
      · rintro σ H' ⟨pl, xs, B, v3, v4, rfl, hpl, hP, s3, hev3, ⟨hx1, hx5⟩, hBb, hxb⟩
        refine ⟨_, rfl, pl, _, rfl, .inl (SqL.of hP), _, _, rfl, rfl, _, rfl, ite2 (fun c => ?_) (fun c => ?_)⟩
        · have hx2 : 1 < xs.length := by
            have := of_decide_eq_true c
            rw [Ints_len] at this
            omega
          generalize hbeta : 1000 * 10 ^ (5 - xs.length) = β at hBb hxb
          have hβ1 : 1000 ≤ β := by
            have : 0 < 10 ^ (5 - xs.length) := Nat.pow_pos (by decide)
            omega
          have hβ2 : β ≤ 10000000 := by
            have : 10 ^ (5 - xs.length) ≤ 10 ^ 4 := Nat.pow_le_pow_right (by decide) (by omega)
            omega
          refine ⟨fun σ' H2 => ∃ ys : List Nat, σ' = [some (.str (S l)), some (.ref pl), some (.int (B : Int)), v3, v4] ∧ H2 pl = some (.lst (Ints ys)) ∧ Same H H2 ∧ ev B ys = digitsVal l ∧ ys.length = 2 * ((xs.length + 1) / 2) ∧ ∀ y ∈ ys, intBits ((y : Nat) : Int) ≤ β, ?_, ?_⟩
          · refine ⟨_, rfl, pl, _, rfl, .inl (SqL.of hP), _, _, rfl, rfl, (by show (2 : Int) ≠ 0; decide), rfl, _, rfl, ite2 (fun c2 => ?_) (fun c2 => ?_)⟩
            · have hodd : xs.length % 2 = 1 := by
                have z := V.int.inj (of_decide_eq_true c2)
                rw [Ints_len, Int.fmod_eq_emod_of_nonneg _ (by decide)] at z
                omega
              refine ⟨_, rfl, .inl ⟨rfl, _, SqL.of hP⟩, _, _, _, rfl, rfl, hP, by rw [Ints_len]; exact Nat.lt_of_le_of_lt hx5 (by decide), xs ++ [0], rfl, ?_, fun c3 o e => ?_, by rw [ev_zero]; exact hev3, by rw [List.length_append]; show xs.length + 1 = _; omega, fun y hy => ?_⟩
              · rw [upd_same]
                exact congrArg (fun z => some (HO.lst z)) (Ints_app xs 0)
              · rw [upd_ne (ne_of_none e hpl)]
                exact s3 c3 o e
              · rcases List.mem_append.mp hy with h | h
                · exact hxb y h
                · rw [List.mem_singleton.mp h]
                  exact Nat.le_trans (show intBits 0 ≤ 0 by decide) (Nat.zero_le _)
            · have hev2 : ¬ xs.length % 2 = 1 := fun z => c2 (decide_eq_true (congrArg V.int (by
                rw [Ints_len, Int.fmod_eq_emod_of_nonneg _ (by decide)]
                omega)))
              exact ⟨xs, rfl, hP, s3, hev3, by omega, hxb⟩
          · rintro σ' H2 ⟨ys, rfl, hP2, s4, hev4, hyl, hyb⟩
            refine ⟨_, rfl, pl, _, rfl, .inl (SqL.of hP2), ?_⟩
            rw [Ints_len]
            refine ⟨_, _, _, _, rfl, rg_up (L := ys.length) (by omega), fun D2 hD2 => lc_it walk_rangeC (fun i H3 => ∃ zs2 : List Nat, Same H2 H3 ∧ H3 D2 = some (.lst (Ints zs2)) ∧ zs2.length = i ∧ ev (B * B) zs2 = ev B (ys.take (2 * i)) ∧ ∀ z ∈ zs2, intBits ((z : Nat) : Int) ≤ 2 * β + 1)
              ⟨[], same_upd hD2, upd_same, rfl, rfl, fun z hz => nomatch hz⟩ (fun _ _ _ _ => trivial) ?_ ?_⟩
            · rintro i x H3 H4 hi ⟨zs2, s5, hL5, hzl5, hev5, hzb5⟩ ⟨rfl, rfl⟩
              have hi2 : 2 * i + 1 < ys.length := by omega
              obtain ⟨x, hx⟩ : ∃ x, ys[2 * i]? = some x := ⟨_, List.getElem?_eq_getElem (by omega)⟩
              obtain ⟨y, hy⟩ : ∃ y, ys[2 * i + 1]? = some y := ⟨_, List.getElem?_eq_getElem hi2⟩
              have hP5 : SqL K H4 pl (Ints ys) := s5.seq (SqL.of hP2)
              have ax : atI (Ints ys) (0 + (i : Int) * 2) = some (V.int (x : Int)) := by
                rw [show 0 + (i : Int) * 2 = ((2 * i : Nat) : Int) by omega]
                refine atI_of ?_
                unfold Ints
                rw [List.getElem?_map, hx]
                rfl
              have ay : atI (Ints ys) (0 + (i : Int) * 2 + 1) = some (V.int (y : Int)) := by
                rw [show 0 + (i : Int) * 2 + 1 = ((2 * i + 1 : Nat) : Int) by omega]
                refine atI_of ?_
                unfold Ints
                rw [List.getElem?_map, hy]
                rfl
              have bx := hyb x (List.mem_of_getElem? hx)
              have by_ := hyb y (List.mem_of_getElem? hy)
              refine ⟨rfl, _, rfl, _, rfl, pl, _, _, _, rfl, rfl, hP5, ax, _, rfl, _, rfl, _, rfl, _, _, rfl, rfl, pl, _, _, _, rfl, rfl, hP5, ay, _, _, rfl, rfl, by show intBits (B : Int) + intBits (y : Int) ≤ 134217728; omega, _, _, rfl, rfl, _, hL5, ?_, ?_⟩
              · rw [Ints_len, hzl5]
                exact Nat.lt_of_lt_of_le (Nat.lt_of_lt_of_le hi (show (ys.length + 1) / 2 ≤ 1000 by omega)) (by decide)
              · have ez : (x : Int) + (B : Int) * (y : Int) = ((x + B * y : Nat) : Int) := by
                  rw [Int.natCast_add, Int.natCast_mul]
                show ∃ zs2_1 : List Nat, Same H2 (upd H4 D2 (.lst (Ints zs2 ++ [V.int ((x : Int) + (B : Int) * (y : Int))]))) ∧ upd H4 D2 (.lst (Ints zs2 ++ [V.int ((x : Int) + (B : Int) * (y : Int))])) D2 = some (.lst (Ints zs2_1)) ∧ _
                rw [ez, Ints_app]
                refine ⟨zs2 ++ [x + B * y], fun c3 o e => ?_, upd_same, by rw [List.length_append, hzl5]; rfl, ev_pair hev5 hzl5 hx hy, fun z hz => ?_⟩
                · rw [upd_ne (ne_of_none e hD2)]
                  exact s5 c3 o e
                · rcases List.mem_append.mp hz with h | h
                  · exact hzb5 z h
                  · rw [List.mem_singleton.mp h, ← ez]
                    have h2 := PySem.intBits_add_le bx (PySem.intBits_mul_le hBb by_)
                    omega
            · rintro H3 ⟨zs2, s5, hL5, hzl5, hev5, hzb5⟩
              have hD0 : H D2 = none := by
                cases e : H D2 with
                | none => rfl
                | some o => rw [s4 _ _ e] at hD2; cases hD2
              have hstep : ∀ b : Nat, b ≤ 2 * β + 1 → b ≤ 1000 * 10 ^ (5 - zs2.length) := fun b hb => by
                refine Nat.le_trans hb ?_
                have h1 : 10 ^ (5 - xs.length + 1) ≤ 10 ^ (5 - zs2.length) := Nat.pow_le_pow_right (by decide) (by omega)
                rw [Nat.pow_succ] at h1
                omega
              refine ⟨_, rfl, _, rfl, _, _, rfl, rfl, by show intBits (B : Int) + intBits (B : Int) ≤ 134217728; omega, ?_⟩
              refine ⟨⟨D2, zs2, B * B, _, _, rfl, hD0, hL5, s4.trans s5, ?_, by omega, ?_, fun z hz => hstep _ (hzb5 z hz)⟩, ?_⟩
              · rw [hev5, ← hev4, List.take_of_length_le (by omega)]
              · have h2 := PySem.intBits_mul_le hBb hBb
                exact hstep _ (by rw [Int.natCast_mul]; omega)
              · show muNum [some (.str (S l)), some (.ref D2), some (.int ((B : Int) * (B : Int))), v3, v4] _ < muNum _ _
                rw [muNum_at hL5, muNum_at hP, Ints_len, Ints_len]
                omega
        · have hx2 : xs.length = 1 := by
            have : ¬ (1 : Int) < ((Ints xs).length : Int) := fun z => c (decide_eq_true z)
            rw [Ints_len] at this
            omega
          obtain ⟨x, rfl⟩ : ∃ x, xs = [x] := by
            match xs, hx2 with
            | [x], _ => exact ⟨x, rfl⟩
          rw [ev_one] at hev3
          subst hev3
          exact ⟨_, rfl, pl, _, _, _, rfl, rfl, SqL.of hP, atI_of (k := 0) rfl, q _ s3⟩
      · rintro σ H' R R' hR ⟨v, e1, p, ys, e2, e3, i, j, e4, e5, b1, e6, h3⟩
        exact ⟨v, e1, p, ys, e2, e3, i, j, e4, e5, b1, e6, hR _ _ h3⟩
end
end Ind

set_option Elab.async false
set_option linter.all false
set_option maxRecDepth 100000
set_option maxHeartbeats 4000000
namespace Ind
open PySem PySem.Spec PyProof.Rows L2
open Builtin.Int (intBits)
/-! ### the end of a law's row, where the base is known to let a long division run -/
section
variable {K L : PySem.W.Frag} {h base : Heap}
theorem look_app (K L : PySem.W.Frag) (a : Addr) : (K ++ L).lookup a = (K.lookup a).or (L.lookup a) := List.lookup_append
theorem ext_in (X : K.In h) (hL : ∀ p ∈ L, h.get? p.1 = some p.2) : PySem.W.Frag.In (K ++ L) h := fun a o e => by
  rw [look_app] at e
  cases q : K.lookup a with
  | some u =>
    rw [q] at e
    have e1 : u = o := Option.some.inj e
    exact X a o (e1 ▸ q)
  | none =>
    rw [q] at e
    have e2 : L.lookup a = some o := e
    obtain ⟨l1, l2, e3, _⟩ := List.lookup_eq_some_iff.mp e2
    exact hL (a, o) (by rw [e3]; simp)
theorem ext_at (X : K.In h) (hL : ∀ p ∈ L, h.get? p.1 = some p.2) (B : PySem.W.Frag.In (K ++ L) base) {a : Addr} {o : Obj} (hp : (a, o) ∈ L) : base.get? a = some o := by
  cases q : List.lookup a (K ++ L) with
  | none =>
    rw [look_app] at q
    have q2 : L.lookup a = none := by
      cases z : K.lookup a with
      | some u => rw [z] at q; cases q
      | none => rw [z] at q; exact q
    have := List.lookup_eq_none_iff.mp q2 (a, o) hp
    simp at this
  | some u =>
    have h1 : h.get? a = some u := ext_in X hL a u q
    have h2 := hL (a, o) hp
    rw [h1] at h2
    cases h2
    exact B a o q
theorem app_in (B : PySem.W.Frag.In (K ++ L) base) : K.In base := fun a o e => B a o (by rw [look_app, e]; rfl)
end
/-- the objects that a long division asks for -/
structure Seen (h : Heap) (L : PySem.W.Frag) : Prop where
  at_ : ∀ p ∈ L, h.get? p.1 = some p.2
  no : ∀ p ∈ L, p.2.cls ≠ .type "list" ∨ ∃ es ep, p.2.data = .dict es ep
  far : ∀ base : Heap, (∀ a o, (a, o) ∈ L → base.get? a = some o) → base.NoSeer
theorem seen_of {h : Heap} (x : h.NoSeer) : ∃ L, Seen h L := by
  obtain ⟨⟨m1, ⟨o1, e1, p1, g1, d1, r1⟩, s1, s2⟩, ⟨m2, ⟨o2, e2, p2, g2, d2, r2⟩, s3⟩, ⟨m3, ⟨o3, e3, p3, g3, d3, r3⟩, s4⟩, ⟨m4, bm, ob, ⟨o4, e4, p4, g4, d4, r4⟩, s5, g5, c5, s6⟩⟩ := x
  refine ⟨[(cStatics, o1), (sysModules, o2), (builtinsNs, o3), (mainGlobals, o4), (bm, ob)], ⟨fun p hp => ?_, fun p hp => ?_, fun base k => ?_⟩⟩
  · simp only [List.mem_cons, List.not_mem_nil, or_false] at hp
    rcases hp with rfl | rfl | rfl | rfl | rfl <;> assumption
  · simp only [List.mem_cons, List.not_mem_nil, or_false] at hp
    rcases hp with rfl | rfl | rfl | rfl | rfl
    · exact .inr ⟨_, _, d1⟩
    · exact .inr ⟨_, _, d2⟩
    · exact .inr ⟨_, _, d3⟩
    · exact .inr ⟨_, _, d4⟩
    · exact .inl (by show ob.cls ≠ _; rw [c5]; intro z; exact absurd (Value.type.inj z) (by decide))
  · exact ⟨⟨m1, ⟨o1, e1, p1, k _ _ (by simp), d1, r1⟩, s1, s2⟩, ⟨m2, ⟨o2, e2, p2, k _ _ (by simp), d2, r2⟩, s3⟩, ⟨m3, ⟨o3, e3, p3, k _ _ (by simp), d3, r3⟩, s4⟩, ⟨m4, bm, ob, ⟨o4, e4, p4, k _ _ (by simp), d4, r4⟩, s5, k _ _ (by simp), c5, s6⟩⟩
theorem sql_app {K L : PySem.W.Frag} {h : Heap} (S : Seen h L) {H : Hp} {a : Addr} {xs : List V} (q : SqL (K ++ L) H a xs) : SqL K H a xs := by
  rcases q with q | ⟨o, its, n, lk, c, d, dt, r⟩
  · exact .inl q
  · rw [look_app] at lk
    cases z : K.lookup a with
    | some u =>
      rw [z] at lk
      cases lk
      exact .inr ⟨o, its, n, z, c, d, dt, r⟩
    | none =>
      rw [z] at lk
      have lk2 : L.lookup a = some o := lk
      obtain ⟨l1, l2, e3, _⟩ := List.lookup_eq_some_iff.mp lk2
      rcases S.no (a, o) (by rw [e3]; simp) with w | ⟨es, ep, w⟩
      · exact absurd c w
      · rw [show o.data = _ from w] at dt
        cases dt
/-- a def's promise over a larger written part -/
theorem lift_fn {P : Program} {w : World} {K K' : PySem.W.Frag} {mg : Str → Option Value} {base : Heap} {CX : CXT} {k : Nat} {f : Addr} {fd : FuncData} {ps : List Str} {sp : Sp} (kin : K.In base) (F : FnOk P w K mg base CX k f fd ps sp) : FnOk P w K' mg base CX k f fd ps sp :=
  ⟨F.len, fun A outer s H args us vs Q E hr e0 => F.run A outer s H args us vs Q E hr ⟨e0.frames, ⟨kin, e0.mod.glob, e0.mod.blt, e0.mod.nolimit⟩, e0.bs, e0.bsz, e0.funs, e0.frf, e0.hok, e0.bare⟩⟩
theorem walk_far {l : PySem.W.OpenLaw} {n k : Nat} {q : Program} {loose : List Str} {XP : (Str → Option Value) → Heap → Prop} {YP : World → Heap → Prop} {d : DefRec} {K : Params → PySem.W.Frag} {sp : World → Sp} {x : Str}
    (hn : l.most = some n) (hn2 : n ≤ sizeLine) (hdf : d.params.defaults = []) (hr : Room k callerA) (hi : importsNone q = true)
    (hY : ∀ (w : World) (h : Heap), YP w h → (K w.params).In h)
    (F : ∀ (w : World) (mg : Str → Option Value) (fa : Addr) (h : Heap), (K w.params).In h → h.Ns mainGlobals mg → mg d.name = some (.ref fa) →
      ∃ fd : FuncData, (∀ (s : Shared) (u : Value), BindsTo s fd ⟨[u], []⟩ [(x, u)]) ∧
        ∀ base : Heap, (K w.params).In base → base.Ns mainGlobals mg → base.NoSeer → FnOk l.prog w (K w.params) mg base CX0 k fa fd [x] (sp w))
    (hsp : ∀ (w : World) (H : Hp) (a : Addr) (ns : List Int), ns.length ≤ n → (∀ z ∈ ns, intBits z ≤ 1048576) → SqL (K w.params) H a (ns.map V.int) → sp w [.ref a] H (fun v _ => v = .bl true) fun _ _ _ => False) :
    PySem.W.WalkO q loose XP YP l.row.toRowW d [] (fun f vs => PySem.call f vs) := by
  refine Att.attach_callB hn hdf fun w s₀ s₁ mg mb fa o pm cd doc a vs ns G Y ho hd hcd hmg hobj hints hlen hbits hg => ?_
  have KX := hY w _ Y
  obtain ⟨L, S⟩ := seen_of (G.T.seer hi)
  obtain ⟨fd, hb, hF⟩ := F w mg fa _ KX G.T.g hmg
  refine law_call (K := K w.params ++ L) (CX := CX0) (ext_in KX S.at_) G.T.g G.T.b G.T.builtins G.T.nolimit hg hobj hints (Nat.le_trans hlen hn2) hr (fun base B g => lift_fn (app_in B) (hF base (app_in B) g (S.far base fun a o hp => ext_at KX S.at_ B hp))) hb (fun H _ hS => hsp w H a ns hlen hbits (sql_app S hS)) fun _ _ _ z => z
end Ind

set_option Elab.async false
set_option linter.all false
set_option maxRecDepth 100000
set_option maxHeartbeats 4000000
namespace Ind
open PySem PySem.Spec PyProof.Rows L2 SX
open Builtin.Int (intBits)
/-! ### data: numbers, words, tuples, and what is none of them -/
mutual
inductive Dt where
  | num (n : Int)
  | wrd (l : List Nat)
  | tup (ds : Dl)
  | bl (b : Bool)
  | non
  | ls
inductive Dl where
  | nil
  | cons (d : Dt) (ds : Dl)
end
def Dl.toL : Dl → List Dt
  | .nil => []
  | .cons d ds => d :: ds.toL
def Dl.ofL : List Dt → Dl
  | [] => .nil
  | d :: l => .cons d (Dl.ofL l)
theorem Dl.to_of : ∀ l : List Dt, (Dl.ofL l).toL = l
  | [] => rfl
  | d :: l => by
    show d :: (Dl.ofL l).toL = _
    rw [Dl.to_of l]
mutual
/-- how data stand in the heap -/
def At (H : Hp) (v : V) : Dt → Prop
  | .num n => v = .int n
  | .wrd l => v = .str (S l)
  | .tup ds => ∃ a vs, v = .ref a ∧ H a = some (.tup vs) ∧ AllA H vs ds
  | .bl b => v = .bl b
  | .non => v = .non
  | .ls => ∃ a vs, v = .ref a ∧ H a = some (.lst vs)
def AllA (H : Hp) (vs : List V) : Dl → Prop
  | .nil => vs = []
  | .cons d ds => ∃ v us, vs = v :: us ∧ At H v d ∧ AllA H us ds
end
/-- lists stay lists, all else stays -/
def Kl (H H' : Hp) : Prop := (∀ b o, H b = some o → (∀ xs, o ≠ .lst xs) → H' b = some o) ∧ ∀ b xs, H b = some (.lst xs) → ∃ ys, H' b = some (.lst ys)
theorem Kl.of {H H' : Hp} (s : Same H H') : Kl H H' := ⟨fun b o e _ => s b o e, fun b xs e => ⟨xs, s _ _ e⟩⟩
theorem Kl.trans {H H1 H2 : Hp} (a : Kl H H1) (b : Kl H1 H2) : Kl H H2 := ⟨fun c o e n => b.1 _ _ (a.1 _ _ e n) n, fun c xs e => let ⟨ys, f⟩ := a.2 _ _ e; b.2 _ _ f⟩
theorem Kl.up {H : Hp} {D : Addr} {xs ys : List V} (h : H D = some (.lst xs)) : Kl H (upd H D (.lst ys)) := ⟨fun b o e n => by
  rw [upd_ne]
  · exact e
  · intro z
    rw [z, h] at e
    exact n xs (Option.some.inj e).symm, fun b zs e => by
  by_cases z : b = D
  · rw [z, upd_same]
    exact ⟨_, rfl⟩
  · rw [upd_ne z]
    exact ⟨_, e⟩⟩
theorem Kl.new {H : Hp} {D : Addr} {o : HO} (h : H D = none) : Kl H (upd H D o) := Kl.of (same_upd h)
mutual
theorem At.kl {H H' : Hp} (k : Kl H H') : ∀ {v : V} {d : Dt}, At H v d → At H' v d
  | v, .num n, h => h
  | v, .wrd l, h => h
  | v, .bl b, h => h
  | v, .non, h => h
  | v, .tup ds, h => by
    unfold At at h ⊢
    obtain ⟨a, vs, e, ha, hs⟩ := h
    exact ⟨a, vs, e, k.1 _ _ ha (by intro xs z; cases z), AllA.kl k hs⟩
  | v, .ls, h => by
    unfold At at h ⊢
    obtain ⟨a, vs, e, ha⟩ := h
    obtain ⟨ys, hy⟩ := k.2 _ _ ha
    exact ⟨a, ys, e, hy⟩
theorem AllA.kl {H H' : Hp} (k : Kl H H') : ∀ {vs : List V} {ds : Dl}, AllA H vs ds → AllA H' vs ds
  | vs, .nil, h => h
  | vs, .cons d ds, h => by
    unfold AllA at h ⊢
    obtain ⟨v, us, e, h1, h2⟩ := h
    exact ⟨v, us, e, At.kl k h1, AllA.kl k h2⟩
end
theorem At.same {H H' : Hp} (s : Same H H') {v : V} {d : Dt} (h : At H v d) : At H' v d := h.kl (Kl.of s)
theorem all_paired {H : Hp} : ∀ {vs : List V} {ds : Dl}, AllA H vs ds → Paired (At H) vs ds.toL
  | vs, .nil, h => by
    unfold AllA at h
    subst h
    exact .nil
  | vs, .cons d ds, h => by
    unfold AllA at h
    obtain ⟨v, us, rfl, h1, h2⟩ := h
    exact .cons h1 (all_paired h2)
theorem all_of {H : Hp} : ∀ {vs : List V} {l : List Dt}, Paired (At H) vs l → AllA H vs (Dl.ofL l)
  | _, _, .nil => by
    unfold Dl.ofL AllA
    rfl
  | _, _, .cons a t => by
    unfold Dl.ofL AllA
    exact ⟨_, _, rfl, a, all_of t⟩
theorem Paired.at {α β : Type} {F : α → β → Prop} : ∀ {xs : List α} {ys : List β} {i : Nat} {x : α}, Paired F xs ys → xs[i]? = some x → ∃ y, ys[i]? = some y ∧ F x y
  | _, _, 0, _, .cons a t, h => ⟨_, rfl, by
      have e := Option.some.inj h
      rw [← e]
      exact a⟩
  | _, _, i + 1, _, .cons a t, h => Paired.at (i := i) t h
  | _, _, _, _, .nil, h => by simp at h
theorem Paired.imp {α β : Type} {F G : α → β → Prop} (h : ∀ a b, F a b → G a b) : ∀ {xs : List α} {ys : List β}, Paired F xs ys → Paired G xs ys
  | _, _, .nil => .nil
  | _, _, .cons r t => .cons (h _ _ r) (Paired.imp h t)
theorem take_snoc {α : Type} {xs : List α} {i : Nat} {x : α} (h : xs[i]? = some x) : xs.take (i + 1) = xs.take i ++ [x] := by
  rw [List.take_add_one, h]
  rfl
/-- its type -/
def tyD : Dt → Value
  | .num _ => .type "int"
  | .wrd _ => .type "str"
  | .tup _ => .type "tuple"
  | .bl _ => .type "bool"
  | .non => .type "NoneType"
  | .ls => .type "list"
theorem At.ty {K : PySem.W.Frag} {H : Hp} {v : V} : ∀ {d : Dt}, At H v d → TyX K H v (tyD d)
  | .num n, h => by
    unfold At at h
    subst h
    exact .base (.int n)
  | .wrd l, h => by
    unfold At at h
    subst h
    exact .base (.str _)
  | .bl b, h => by
    unfold At at h
    subst h
    exact .base (.bl b)
  | .non, h => by
    unfold At at h
    subst h
    exact .base .non
  | .tup ds, h => by
    unfold At at h
    obtain ⟨a, vs, rfl, e, _⟩ := h
    exact .base (.tup e)
  | .ls, h => by
    unfold At at h
    obtain ⟨a, vs, rfl, e⟩ := h
    exact .base (.lst e)
def isN : Dt → Bool
  | .num _ => true
  | _ => false
def isTp : Dt → Bool
  | .tup _ => true
  | _ => false
def isSt : Dt → Bool
  | .wrd _ => true
  | _ => false
mutual
/-- plain, with this room -/
def pl : Dt → Nat → Bool
  | .num _, _ => true
  | .wrd l, _ => isW l
  | .tup ds, r => match r with
    | 0 => false
    | r + 1 => pls ds r
  | .bl _, _ => false
  | .non, _ => false
  | .ls, _ => false
def pls : Dl → Nat → Bool
  | .nil, _ => true
  | .cons d ds, r => pl d r && pls ds r
end
theorem pls_all (r : Nat) : ∀ ds : Dl, pls ds r = ds.toL.all fun d => pl d r
  | .nil => rfl
  | .cons d ds => by
    show (pl d r && pls ds r) = (pl d r && _)
    rw [pls_all r ds]
mutual
/-- the written form -/
def wr : Dt → List Nat
  | .num n => dec n
  | .wrd l => l
  | .tup ds => 40 :: (TL.joinL [32] (wl ds) ++ [41])
  | _ => []
def wl : Dl → List (List Nat)
  | .nil => []
  | .cons d ds => wr d :: wl ds
end
theorem wl_map : ∀ ds : Dl, wl ds = ds.toL.map wr
  | .nil => rfl
  | .cons d ds => by
    show wr d :: wl ds = wr d :: _
    rw [wl_map ds]
mutual
/-- numbers and words of a size that can be written -/
def few : Dt → Prop
  | .num n => n.natAbs < 10 ^ 200
  | .wrd _ => True
  | .tup ds => fews ds
  | .bl _ => False
  | .non => False
  | .ls => False
def fews : Dl → Prop
  | .nil => True
  | .cons d ds => few d ∧ fews ds
end
theorem fews_mem : ∀ {ds : Dl}, fews ds → ∀ d ∈ ds.toL, few d
  | .nil, _, d, h => by cases h
  | .cons e ds, h, d, hd => by
    unfold fews at h
    rcases List.mem_cons.mp hd with rfl | hd
    · exact h.1
    · exact fews_mem h.2 d hd
/-- how deep -/
def dp' : Nat := 0
mutual
def dep : Dt → Nat
  | .tup ds => deps ds + 1
  | _ => 0
def deps : Dl → Nat
  | .nil => 0
  | .cons d ds => max (dep d) (deps ds)
end
theorem deps_mem : ∀ {ds : Dl} {d : Dt}, d ∈ ds.toL → dep d ≤ deps ds
  | .nil, d, h => by cases h
  | .cons e ds, d, h => by
    show _ ≤ max (dep e) (deps ds)
    rcases List.mem_cons.mp h with rfl | h
    · exact Nat.le_max_left _ _
    · exact Nat.le_trans (deps_mem h) (Nat.le_max_right _ _)
theorem joinL_len (sep : List Nat) : ∀ ls : List (List Nat), (TL.joinL sep ls).length ≤ (ls.map List.length).sum + ls.length * sep.length
  | [] => Nat.zero_le _
  | [l] => by
    show l.length ≤ l.length + 0 + _
    omega
  | l :: k :: ls => by
    have ih := joinL_len sep (k :: ls)
    show (l ++ (sep ++ TL.joinL sep (k :: ls))).length ≤ _
    rw [List.length_append, List.length_append]
    simp only [List.map_cons, List.sum_cons, List.length_cons, Nat.add_mul, Nat.one_mul] at ih ⊢
    omega
theorem joinL_ge (sep : List Nat) : ∀ ls : List (List Nat), (ls.map List.length).sum + ls.length * sep.length ≤ (TL.joinL sep ls).length + sep.length
  | [] => Nat.le_trans (by simp) (Nat.le_refl _)
  | [l] => by
    show l.length + 0 + _ ≤ l.length + _
    simp
  | l :: k :: ls => by
    have ih := joinL_ge sep (k :: ls)
    show _ ≤ (l ++ (sep ++ TL.joinL sep (k :: ls))).length + _
    rw [List.length_append, List.length_append]
    simp only [List.map_cons, List.sum_cons, List.length_cons, Nat.add_mul, Nat.one_mul] at ih ⊢
    omega
theorem mem_sum : ∀ {ls : List Nat} {x : Nat}, x ∈ ls → x ≤ ls.sum
  | [], x, h => by cases h
  | y :: ls, x, h => by
    rw [List.sum_cons]
    rcases List.mem_cons.mp h with rfl | h
    · omega
    · have := mem_sum h
      omega
theorem wr_item {ds : Dl} {d : Dt} (h : d ∈ ds.toL) : (wr d).length ≤ (wr (.tup ds)).length := by
  show _ ≤ (TL.joinL [32] (wl ds) ++ [41]).length + 1
  rw [List.length_append]
  have h1 := joinL_ge [32] (wl ds)
  have h2 : (wr d).length ∈ (wl ds).map List.length := by
    rw [wl_map, List.map_map]
    exact List.mem_map.mpr ⟨d, h, rfl⟩
  have h3 := mem_sum h2
  simp only [List.length_cons, List.length_nil] at h1 ⊢
  omega
theorem wr_many (ds : Dl) : ds.toL.length ≤ (wr (.tup ds)).length := by
  show _ ≤ (TL.joinL [32] (wl ds) ++ [41]).length + 1
  rw [List.length_append]
  have h1 := joinL_ge [32] (wl ds)
  have h2 : (wl ds).length = ds.toL.length := by rw [wl_map, List.length_map]
  simp only [List.length_cons, List.length_nil] at h1 ⊢
  omega
mutual
theorem dep_pl : ∀ {d : Dt} {r : Nat}, pl d r = true → dep d ≤ r
  | .num _, _, _ => Nat.zero_le _
  | .wrd _, _, _ => Nat.zero_le _
  | .bl _, _, _ => Nat.zero_le _
  | .non, _, _ => Nat.zero_le _
  | .ls, _, _ => Nat.zero_le _
  | .tup ds, 0, h => by cases h
  | .tup ds, r + 1, h => Nat.succ_le_succ (deps_pl (show pls ds r = true from h))
theorem deps_pl : ∀ {ds : Dl} {r : Nat}, pls ds r = true → deps ds ≤ r
  | .nil, _, _ => Nat.zero_le _
  | .cons d ds, r, h => by
    have h : (pl d r && pls ds r) = true := h
    obtain ⟨h1, h2⟩ := Bool.and_eq_true_iff.mp h
    exact Nat.max_le.mpr ⟨dep_pl h1, deps_pl h2⟩
end
end Ind

set_option Elab.async false
set_option linter.all false
set_option maxRecDepth 100000
set_option maxHeartbeats 4000000
namespace Ind
open PySem PySem.Spec PyProof.Rows L2 SX
open Builtin.Int (intBits)
abbrev sIi : Stmt := top 10
abbrev sPl : Stmt := top 16
structure TxD (mg : Str → Option Value) : Prop where
  str : mg "str" = none
  tuple : mg "tuple" = none
  all : mg "all" = none
  min : mg "min" = none
  dep : ∃ v, mg "DEPTH" = some v ∧ RelV (.int 60) v
  let_ : ∃ v, mg "LETTERS" = some v ∧ RelV (.int 12) v
structure Cl (P : Program) (w : World) (K : PySem.W.Frag) (mg : Str → Option Value) (base : Heap) (CX : CXT) (k : Nat) (x : Str) (f : Addr) (fd : FuncData) (ps : List Str) (sp : Sp) : Prop where
  g : mg x = some (.ref f)
  kp : PySem.W.keepIn K (.ref f) = true
  b : Binds K fd ps []
  fn : FnOk P w K mg base CX k f fd ps sp
mutual
/-- words and tuples of a length that fits -/
def shrt : Dt → Prop
  | .wrd l => l.length ≤ 100000
  | .tup ds => ds.toL.length ≤ 10000 ∧ shrts ds
  | _ => True
def shrts : Dl → Prop
  | .nil => True
  | .cons d ds => shrt d ∧ shrts ds
end
theorem shrts_mem : ∀ {ds : Dl}, shrts ds → ∀ d ∈ ds.toL, shrt d
  | .nil, _, d, h => by cases h
  | .cons e ds, h, d, hd => by
    unfold shrts at h
    rcases List.mem_cons.mp hd with rfl | hd
    · exact h.1
    · exact shrts_mem h.2 d hd
def spIi : Sp := fun vs H Q _ => ∃ (v : V) (d : Dt), vs = [v] ∧ At H v d ∧ Q (.bl (isN d)) H
/-- plain data, of room below m -/
def spPl (m : Nat) : Sp := fun vs H Q _ => ∃ (v : V) (d : Dt) (r : Nat), vs = [v, .int (r : Int)] ∧ At H v d ∧ r < m ∧ shrt d ∧ ∀ H' : Hp, Same H H' → Q (.bl (pl d r)) H'
section
variable {P : Program} {w : World} {K : PySem.W.Frag} {mg : Str → Option Value} {base : Heap}
theorem scIi : FnScope ["value"] ["value"] (defScope sIi) := ⟨rfl, rfl, rfl, by decide +kernel, rfl, by decide +kernel, by decide +kernel⟩
theorem ok_ii {f : Addr} {fd : FuncData} {q : Str} {st : Stmt} (hst : st = sIi) (F : Fun K "is_integer" "is_integer" sIi f fd) (T : TxL K mg) : FnOk P w K mg base CX0 1 f fd ["value"] spIi := by
  refine F.ok scIi (fun vs H Q E h => ?_) (fun cdv A outer s H vs Q E hr h => ?_)
  · obtain ⟨v, d, rfl, _⟩ := h
    rfl
  · obtain ⟨v, d, rfl, hv, q⟩ := h
    refine ⟨_, pss_one (ps_ret (pe_and (pe_callB call_isi (by rfl) T.isinstance (by decide +kernel) (pa_cons (pv 0) (pa_cons (pe_bltn (v := .ty "int") (by rfl) T.int (by decide +kernel) rfl) pa_nil))) (pe_one (pe_not (pe_callB call_isi (by rfl) T.isinstance (by decide +kernel) (pa_cons (pv 0) (pa_cons (pe_bltn (v := .ty "bool") (by rfl) T.bool (by decide +kernel) rfl) pa_nil))))))), ?_⟩
    have ht := hv.ty (K := K)
    cases d with
    | num n => exact ⟨_, rfl, _, _, _, _, true, rfl, ClsV.ty "int", ht, kit_ty (by decide +kernel), true, rfl, iteT ⟨_, rfl, _, _, _, _, false, rfl, ClsV.ty "bool", ht, kit_ty (by decide +kernel), false, rfl, q⟩⟩
    | wrd l => exact ⟨_, rfl, _, _, _, _, false, rfl, ClsV.ty "int", ht, kit_ty (by decide +kernel), false, rfl, iteF q⟩
    | tup ds => exact ⟨_, rfl, _, _, _, _, false, rfl, ClsV.ty "int", ht, kit_ty (by decide +kernel), false, rfl, iteF q⟩
    | bl b => exact ⟨_, rfl, _, _, _, _, true, rfl, ClsV.ty "int", ht, kit_ty (by decide +kernel), true, rfl, iteT ⟨_, rfl, _, _, _, _, true, rfl, ClsV.ty "bool", ht, kit_ty (by decide +kernel), true, rfl, q⟩⟩
    | non => exact ⟨_, rfl, _, _, _, _, false, rfl, ClsV.ty "int", ht, kit_ty (by decide +kernel), false, rfl, iteF q⟩
    | ls => exact ⟨_, rfl, _, _, _, _, false, rfl, ClsV.ty "int", ht, kit_ty (by decide +kernel), false, rfl, iteF q⟩
abbrev nPl : List Str := ["value", "room", "item"]
theorem scPl : FnScope nPl ["value", "room"] (defScope sPl) := ⟨rfl, rfl, rfl, by decide +kernel, rfl, by decide +kernel, by decide +kernel⟩
theorem ok_pl {f fI fW : Addr} {fd fdI fdW : FuncData} (F : Fun K "is_plain" "is_plain" sPl f fd) (T : TxL K mg) (D : TxD mg) (GI : Cl P w K mg base CX0 1 "is_integer" fI fdI ["value"] spIi) (GW : Cl P w K mg base CX0 2 "is_word" fW fdW ["value"] (spIsW K))
    (gP : mg "is_plain" = some (.ref f)) (bP : Binds K fd ["value", "room"] []) : ∀ m, FnOk P w K mg base CX0 (3 + m) f fd ["value", "room"] (spPl m)
  | 0 => F.ok scPl (fun vs H Q E h => by obtain ⟨v, d, r, _, _, h, _⟩ := h; exact absurd h (Nat.not_lt_zero _)) (fun cdv A outer s H vs Q E hr h => by obtain ⟨v, d, r, _, _, h, _⟩ := h; exact absurd h (Nat.not_lt_zero _))
  | m + 1 => by
    have GP := ok_pl F T D GI GW gP bP m
    refine F.ok (k := 3 + m) scPl (fun vs H Q E h => ?_) (fun cdv A outer s H vs Q E hr h => ?_)
    · obtain ⟨v, d, r, rfl, _⟩ := h
      rfl
    · obtain ⟨v, d, r, rfl, hv, hrm, hsh, k⟩ := h
      have h1 := hr.mono (show 1 ≤ 3 + m by omega)
      have h2 := hr.mono (show 2 ≤ 3 + m by omega)
      refine ⟨_, pss_cons (ps_if (PW.pt (pw_or (pt_val (pe_call GI.fn h1 (by rfl) GI.g GI.kp GI.b .nil pass0 (pa_cons (pv 0) pa_nil))) (pw_or1 (pt_val (pe_call GW.fn h2 (by rfl) GW.g GW.kp GW.b .nil pass0 (pa_cons (pv 0) pa_nil))))))
          (pss_one (ps_ret pe_bl))
          pss_nil)
        (pss_cons (ps_if (PW.pt (pw_or (pt_not (pt_val (pe_callB call_isi (by rfl) T.isinstance (by decide +kernel) (pa_cons (pv 0) (pa_cons (pe_bltn (v := .ty "tuple") (by rfl) D.tuple (by decide +kernel) rfl) pa_nil))))) (pw_or1 (pt_cmpR op_eq (pv 1) pe_int (nomark _)))))
          (pss_one (ps_ret pe_bl))
          pss_nil)
        (pss_one (ps_ret (pe_callB (cr_all rfl) (by rfl) D.all (by decide +kernel) (pa_cons (pe_lc (own := [("item", 2)]) (g := gName 2) (tt := tYes) (te := (tCall (spPl m) [] E0 (tCons (tVar 2) (tCons (tOp (rI0 fun i j => .int (i - j)) (tVar 1) (tC (.int 1))) tNil)))) rfl scPl.nd (pi_tup (pv 0)) (blkOk_by (N := nPl) (sc := defScope sPl) (by decide +kernel)) (fun _ _ _ _ _ => (pg_name (i := 2) scPl.nd rfl (Or.inl rfl))) (fun _ _ _ _ _ => pts_nil) (fun _ _ _ _ _ => (pe_call GP hr (by rfl) gP F.kp bP .nil pass0 (pa_cons (pv 2) (pa_cons (pe_op op_sub (pv 1) pe_int) pa_nil))))) pa_nil))))), ?_⟩
      have ht := hv.ty (K := K)
      cases d with
      | num n => exact ⟨_, rfl, v, _, rfl, hv, _, rfl, iteT (k H same_rfl)⟩
      | wrd l =>
        have hv2 := hv
        unfold At at hv2
        subst hv2
        unfold shrt at hsh
        refine ⟨_, rfl, _, _, rfl, hv, _, rfl, iteF ⟨_, rfl, .inl ⟨l, rfl, hsh, fun H1 s1 => ⟨_, rfl, ?_⟩⟩⟩⟩
        by_cases c : isW l = true
        · rw [c]
          refine iteT ?_
          have := k H1 s1
          rwa [show pl (.wrd l) r = true from c] at this
        · have c : isW l = false := by simpa using c
          rw [c]
          refine iteF ⟨_, rfl, _, _, _, _, false, rfl, ClsV.ty "tuple", (hv.same s1).ty, kit_ty (by decide +kernel), false, rfl, iteT ?_⟩
          have := k H1 s1
          rwa [show pl (.wrd l) r = false from c] at this
      | bl b =>
        refine ⟨_, rfl, _, _, rfl, hv, _, rfl, iteF ⟨_, rfl, .inr ⟨_, _, rfl, ht, kit_ty (by decide +kernel), _, rfl, iteF ?_⟩⟩⟩
        exact ⟨_, rfl, _, _, _, _, false, rfl, ClsV.ty "tuple", ht, kit_ty (by decide +kernel), false, rfl, iteT (k H same_rfl)⟩
      | non =>
        refine ⟨_, rfl, _, _, rfl, hv, _, rfl, iteF ⟨_, rfl, .inr ⟨_, _, rfl, ht, kit_ty (by decide +kernel), _, rfl, iteF ?_⟩⟩⟩
        exact ⟨_, rfl, _, _, _, _, false, rfl, ClsV.ty "tuple", ht, kit_ty (by decide +kernel), false, rfl, iteT (k H same_rfl)⟩
      | ls =>
        refine ⟨_, rfl, _, _, rfl, hv, _, rfl, iteF ⟨_, rfl, .inr ⟨_, _, rfl, ht, kit_ty (by decide +kernel), _, rfl, iteF ?_⟩⟩⟩
        exact ⟨_, rfl, _, _, _, _, false, rfl, ClsV.ty "tuple", ht, kit_ty (by decide +kernel), false, rfl, iteT (k H same_rfl)⟩
      | tup ds =>
        refine ⟨_, rfl, _, _, rfl, hv, _, rfl, iteF ⟨_, rfl, .inr ⟨_, _, rfl, ht, kit_ty (by decide +kernel), _, rfl, iteF ?_⟩⟩⟩
        refine ⟨_, rfl, _, _, _, _, true, rfl, ClsV.ty "tuple", ht, kit_ty (by decide +kernel), true, rfl, iteF ⟨_, rfl, rfl, _, rfl, ?_⟩⟩
        cases r with
        | zero => exact iteT (k H same_rfl)
        | succ r =>
          rw [show decide (V.int (((r + 1 : Nat) : Nat) : Int) = V.int 0) = false from decide_eq_false fun z => by have := V.int.inj z; omega]
          have hv2 := hv
          unfold At at hv2
          obtain ⟨a, vs, rfl, ha, hs⟩ := hv2
          unfold shrt at hsh
          obtain ⟨hl, hsh⟩ := hsh
          have hP := all_paired hs
          have hlen := hP.length
          refine iteF ⟨_, rfl, a, rfl, ⟨_, SqT.of ha⟩, fun D hD => ?_⟩
          refine lc_tup (K := K) (a := a) (xs := vs) (fun i H2 => ColV D H H2 (((ds.toL.take i).map fun d => pl d r).map V.bl)) (ColV.start hD) (fun i H2 _ z => .of (z.s _ _ ha)) ?_ ?_
          · rintro i x H2 hx z
            obtain ⟨d, hd, hxd⟩ := Paired.at hP hx
            have hil := (List.getElem?_eq_some_iff.mp hd).1
            refine ⟨rfl, _, rfl, _, rfl, _, _, rfl, rfl, x, d, r, by show [x, V.int ((((r + 1 : Nat) : Nat) : Int) - 1)] = _; rw [show ((((r + 1 : Nat) : Nat) : Int) - 1) = (r : Int) by omega], hxd.same z.s, by omega, shrts_mem hsh d (List.mem_of_getElem? hd), fun H3 s3 => ?_⟩
            rw [take_snoc hd, List.map_append, List.map_append]
            exact z.push hD s3 (by rw [List.length_map, List.length_map, List.length_take]; omega)
          · rintro H2 z
            rw [hlen, List.take_length] at z
            refine ⟨D, (ds.toL.map fun d => pl d r), rfl, SqL.of z.at_, ?_⟩
            have := k H2 z.s
            rw [show pl (.tup ds) (r + 1) = (ds.toL.map fun d => pl d r).all id by
              show pls ds r = _
              rw [pls_all, List.all_map]
              rfl] at this
            exact this
end
end Ind

set_option Elab.async false
set_option linter.all false
set_option maxRecDepth 100000
set_option maxHeartbeats 4000000
namespace Ind
open PySem PySem.Spec PyProof.Rows L2 SX
open Builtin.Int (intBits)
abbrev sWrt : Stmt := top 17
abbrev sWp : Stmt := top 18
/-- Malformed -/
structure TxMl (K : PySem.W.Frag) (mg : Str → Option Value) (Ma : Addr) : Prop where
  x : PySem.W.excIn K Ma [.type "ValueError", .type "Exception", .type "BaseException", .type "object"] "ValueError.__new__" = true
  g : mg "Malformed" = some (.ref Ma)
  k : PySem.W.keepIn K (.ref Ma) = true
  b : PySem.W.subIn K (.ref Ma) (.type "BaseException") = some true
  t : PySem.W.typeIn K (.ref Ma) = some (.type "type")
def spWp (m : Nat) : Sp := fun vs H Q _ => ∃ (v : V) (d : Dt), vs = [v] ∧ At H v d ∧ dep d < m ∧ few d ∧ (wr d).length ≤ 100000 ∧ ∀ H' : Hp, Same H H' → Q (.str (S (wr d))) H'
def spWrt (Ma : Addr) : Sp := fun vs H Q E => ∃ (v : V) (d : Dt), vs = [v] ∧ At H v d ∧ shrt d ∧ (pl d 60 = false → ∀ H' : Hp, Same H H' → E (.ref Ma) none H') ∧ (pl d 60 = true → few d ∧ (wr d).length ≤ 100000 ∧ ∀ H' : Hp, Same H H' → Q (.str (S (wr d))) H')
section
variable {P : Program} {w : World} {K : PySem.W.Frag} {mg : Str → Option Value} {base : Heap} {Ma : Addr}
abbrev nWp : List Str := ["data", "inside", "item"]
theorem scWp : FnScope nWp ["data"] (defScope sWp) := ⟨rfl, rfl, rfl, by decide +kernel, rfl, by decide +kernel, by decide +kernel⟩
theorem ok_wp {f fD : Addr} {fd fdD : FuncData} (F : Fun K "written_parts" "written_parts" sWp f fd) (T : TxL K mg) (D : TxD mg) (GD : Cl P w K mg base CX0 1 "decimal" fD fdD ["n"] spDec)
    (gP : mg "written_parts" = some (.ref f)) (bP : Binds K fd ["data"] []) : ∀ m, FnOk P w K mg base CX0 (2 + m) f fd ["data"] (spWp m)
  | 0 => F.ok scWp (fun vs H Q E h => by obtain ⟨v, d, _, _, h, _⟩ := h; exact absurd h (Nat.not_lt_zero _)) (fun cdv A outer s H vs Q E hr h => by obtain ⟨v, d, _, _, h, _⟩ := h; exact absurd h (Nat.not_lt_zero _))
  | m + 1 => by
    have GP := ok_wp F T D GD gP bP m
    refine F.ok (k := 2 + m) scWp (fun vs H Q E h => ?_) (fun cdv A outer s H vs Q E hr h => ?_)
    · obtain ⟨v, d, rfl, _⟩ := h
      rfl
    · obtain ⟨v, d, rfl, hv, hdm, hfe, hln, k⟩ := h
      have h1 := hr.mono (show 1 ≤ 2 + m by omega)
      refine ⟨_, pss_cons (ps_if (pt_val (pe_callB call_isi (by rfl) T.isinstance (by decide +kernel) (pa_cons (pv 0) (pa_cons (pe_bltn (v := .ty "tuple") (by rfl) D.tuple (by decide +kernel) rfl) pa_nil))))
        (pss_cons (ps_set (i := 1) scWp.nd rfl (Or.inl rfl) (pe_join pe_str (pe_lc (own := [("item", 2)]) (g := gName 2) (tt := tYes) (te := (tCall (spWp m) [] E0 (tCons (tVar 2) tNil))) rfl scWp.nd (pi_tup (pv 0)) (blkOk_by (N := nWp) (sc := defScope sWp) (by decide +kernel)) (fun _ _ _ _ _ => (pg_name (i := 2) scWp.nd rfl (Or.inl rfl))) (fun _ _ _ _ _ => pts_nil) (fun _ _ _ _ _ => (pe_call GP hr (by rfl) gP F.kp bP .nil pass0 (pa_cons (pv 2) pa_nil))))))
        (pss_one (ps_ret (pe_joined (.cons pe_str (.cons (pe_fmt (pv 1)) (.cons pe_str .nil)))))))
        pss_nil)
      (pss_cons (ps_if (pt_val (pe_callB call_isi (by rfl) T.isinstance (by decide +kernel) (pa_cons (pv 0) (pa_cons (pe_bltn (v := .ty "str") (by rfl) D.str (by decide +kernel) rfl) pa_nil))))
        (pss_one (ps_ret (pv 0)))
        pss_nil)
      (pss_one (ps_ret (pe_call GD.fn h1 (by rfl) GD.g GD.kp GD.b .nil pass0 (pa_cons (pv 0) pa_nil))))), ?_⟩
      have ht := hv.ty (K := K)
      cases d with
      | num n =>
        have hv2 := hv
        unfold At at hv2
        subst hv2
        refine ⟨_, rfl, _, _, _, _, false, rfl, ClsV.ty "tuple", ht, kit_ty (by decide +kernel), false, rfl, iteF ⟨_, rfl, _, _, _, _, false, rfl, ClsV.ty "str", ht, kit_ty (by decide +kernel), false, rfl, iteF ?_⟩⟩
        exact ⟨_, rfl, n, rfl, hfe, fun H' s => k H' s⟩
      | wrd l =>
        have hv2 := hv
        unfold At at hv2
        subst hv2
        refine ⟨_, rfl, _, _, _, _, false, rfl, ClsV.ty "tuple", ht, kit_ty (by decide +kernel), false, rfl, iteF ⟨_, rfl, _, _, _, _, true, rfl, ClsV.ty "str", ht, kit_ty (by decide +kernel), true, rfl, iteT ?_⟩⟩
        exact ⟨_, rfl, k H same_rfl⟩
      | bl b => exact hfe.elim
      | non => exact hfe.elim
      | ls => exact hfe.elim
      | tup ds =>
        have hv2 := hv
        unfold At at hv2
        obtain ⟨a, vs, rfl, ha, hs⟩ := hv2
        have hP := all_paired hs
        have hlen := hP.length
        have hmany := wr_many ds
        refine ⟨_, rfl, _, _, _, _, true, rfl, ClsV.ty "tuple", ht, kit_ty (by decide +kernel), true, rfl, iteT ⟨⟨_, rfl⟩, _, rfl, a, rfl, ⟨_, SqT.of ha⟩, fun D2 hD => ?_⟩⟩
        refine lc_tup (K := K) (a := a) (xs := vs) (fun i H2 => ColV D2 H H2 (((ds.toL.take i).map fun d => V.str (S (wr d))))) (ColV.start hD) (fun i H2 _ z => .of (z.s _ _ ha)) ?_ ?_
        · rintro i x H2 hx z
          obtain ⟨d, hd, hxd⟩ := Paired.at hP hx
          have hil := (List.getElem?_eq_some_iff.mp hd).1
          have hm := List.mem_of_getElem? hd
          have hdd : dep d < m := by
            have h1 := deps_mem hm
            have h2 : deps ds + 1 < m + 1 := hdm
            omega
          refine ⟨rfl, _, rfl, x, d, rfl, hxd.same z.s, hdd, fews_mem hfe d hm, Nat.le_trans (wr_item hm) hln, fun H3 s3 => ?_⟩
          rw [take_snoc hd, List.map_append]
          exact z.push hD s3 (by rw [List.length_map, List.length_take]; omega)
        · rintro H2 z
          rw [hlen, List.take_length] at z
          have el : (ds.toL.map fun d => V.str (S (wr d))) = ((wl ds).map S).map V.str := by rw [wl_map, List.map_map, List.map_map]; rfl
          have hw : (wr (.tup ds)).length = (TL.joinL [32] (wl ds)).length + 2 := by
            show (TL.joinL [32] (wl ds) ++ [41]).length + 1 = _
            rw [List.length_append]
            rfl
          have hge := joinL_ge [32] (wl ds)
          have lz : (((wl ds).map S).map (·.length)) = (wl ds).map List.length := by
            rw [List.map_map]
            exact List.map_congr_left fun l _ => S_len l
          refine ⟨Str.ofString " ", D2, (wl ds).map S, rfl, rfl, .inl (SqL.of (by rw [← el]; exact z.at_)), ?_, ?_⟩
          · rw [lz, List.length_map, show (Str.ofString " ").length = 1 by decide +kernel]
            simp only [List.length_cons, List.length_nil] at hge
            omega
          rw [show Str.ofString " " = S [32] by decide +kernel, join_S]
          have e1 : Str.empty ++ Str.ofString "(" = S [40] := by decide +kernel
          have e2 : Str.empty ++ Str.ofString "(" ++ S (TL.joinL [32] (wl ds)) = S (40 :: TL.joinL [32] (wl ds)) := by
            rw [e1, S_cat]
            rfl
          have e3 : Str.empty ++ Str.ofString "(" ++ S (TL.joinL [32] (wl ds)) ++ Str.ofString ")" = S (wr (.tup ds)) := by
            rw [e2, show Str.ofString ")" = S [41] by decide +kernel, S_cat]
            rfl
          refine ⟨_, rfl, by rw [e1]; exact S_le (n := 10) (by decide), _, rfl, .inl ⟨_, rfl, S_le (n := 100000) (by omega), ?_⟩⟩
          refine ⟨_, rfl, by rw [e2]; exact S_le (n := 200000) (by show _ + 1 ≤ 200000; omega), _, rfl, by rw [e3]; exact S_le hln, ?_⟩
          show Q (.str (Str.empty ++ Str.ofString "(" ++ S (TL.joinL [32] (wl ds)) ++ Str.ofString ")")) H2
          rw [e3]
          exact k H2 z.s
theorem scWrt : FnScope ["data"] ["data"] (defScope sWrt) := ⟨rfl, rfl, rfl, by decide +kernel, rfl, by decide +kernel, by decide +kernel⟩
theorem ok_wrt {f fP fW : Addr} {fd fdP fdW : FuncData} (F : Fun K "written" "written" sWrt f fd) (D : TxD mg) (M : TxMl K mg Ma) (GP : Cl P w K mg base CX0 64 "is_plain" fP fdP ["value", "room"] (spPl 61)) (GW : Cl P w K mg base CX0 63 "written_parts" fW fdW ["data"] (spWp 61)) : FnOk P w K mg base (L2.CX P w) 65 f fd ["data"] (spWrt Ma) := by
  refine F.okX scWrt (fun vs H Q E h => ?_) (fun cdv A outer s H vs Q E hr h => ?_)
  · obtain ⟨v, d, rfl, _⟩ := h
    rfl
  · obtain ⟨v, d, rfl, hv, hsh, kf, kt⟩ := h
    obtain ⟨vD, gD, rD⟩ := D.dep
    have h63 := hr.mono (show 63 ≤ 64 by decide)
    refine ⟨_, pss_cons (ps_if (pt_not (pt_val (pe_call GP.fn hr (by rfl) GP.g GP.kp GP.b .nil pass0 (pa_cons (pv 0) (pa_cons (pe_glob rfl gD rD) pa_nil)))))
        (pss_one (ps_raise rfl (takes_of rfl rfl rfl rfl) (pmk_own PySem.F.excBase_ValueError M.x M.g M.k (raises_own M.b M.t) rfl)))
        pss_nil)
      (pss_one (ps_ret (pe_call GW.fn h63 (by rfl) GW.g GW.kp GW.b .nil pass0 (pa_cons (pv 0) pa_nil)))), ?_⟩
    refine ⟨_, rfl, v, d, 60, rfl, hv, by decide, hsh, fun H1 s1 => ⟨_, rfl, ?_⟩⟩
    by_cases c : pl d 60 = true
    · obtain ⟨hfe, hln, k⟩ := kt c
      rw [c]
      refine iteF ⟨_, rfl, v, d, rfl, hv.same s1, Nat.lt_succ_of_le (dep_pl c), hfe, hln, fun H2 s2 => k H2 (s1.trans s2)⟩
    · have c : pl d 60 = false := by simpa using c
      rw [c]
      exact iteT (kf c H1 s1)
end
end Ind

set_option Elab.async false
set_option linter.all false
set_option maxRecDepth 100000
set_option maxHeartbeats 4000000
namespace Ind
open PySem PySem.Spec PyProof.Rows L2 SX NumText TL
open Builtin.Int (intBits)
/-! ### reading, as a machine over code points -/
def dg (c : Nat) : Bool := decide (48 ≤ c) && decide (c ≤ 57)
def dg1 (c : Nat) : Bool := decide (49 ≤ c) && decide (c ≤ 57)
def runL (p : Nat → Bool) (l : List Nat) : Nat := (l.takeWhile p).length
/-- a number's end from s on -/
def nend (l : List Nat) (s : Nat) : Nat × Bool := match l[s]? with
  | some d => if dg1 d = true then (s + runL dg (l.drop s), true) else (s, false)
  | none => (s, false)
/-- a leaf's end -/
def lend (l : List Nat) (k : Nat) : Nat × Bool := match l[k]? with
  | some c => if sm1 c = true then (k + min 12 (runL sm1 (l.drop k)), true) else if c = 48 then (k + 1, true) else nend l (if c = 45 then k + 1 else k)
  | none => (k, false)
def lval (t : List Nat) : Dt := if smB t = true then .wrd t else if t.head? = some 45 then .num (-((digitsVal t.tail : Nat) : Int)) else .num ((digitsVal t : Nat) : Int)
inductive Plc where
  | item
  | first
  | behind
inductive Out where
  | ok (d : Dt)
  | err (n : Nat)
def cutL (l : List Nat) (a b : Nat) : List Nat := (l.drop a).take (b - a)
inductive Rn (l : List Nat) : Nat → Plc → List (List Dt) → Out → Prop where
  | stop {d : Dt} {s : List Dt} : Rn l l.length .behind [d :: s] (.ok d)
  | fail {k : Nat} {p : Plc} {stk : List (List Dt)} (h : k = l.length) (h2 : p ≠ .behind ∨ 1 < stk.length) : Rn l k p stk (.err l.length)
  | bErr {k c : Nat} {stk : List (List Dt)} (h : l[k]? = some c) (h2 : stk.length = 1 ∨ (c ≠ 32 ∧ c ≠ 41)) : Rn l k .behind stk (.err k)
  | bSp {k : Nat} {stk : List (List Dt)} {o : Out} (h : l[k]? = some 32) (h2 : stk.length ≠ 1) (n : Rn l (k + 1) .item stk o) : Rn l k .behind stk o
  | bCl {k : Nat} {s t : List Dt} {r : List (List Dt)} {o : Out} (h : l[k]? = some 41) (n : Rn l (k + 1) .behind ((t ++ [.tup (Dl.ofL s)]) :: r) o) : Rn l k .behind (s :: t :: r) o
  | opn {k : Nat} {p : Plc} {stk : List (List Dt)} {o : Out} (h : l[k]? = some 40) (hp : p ≠ .behind) (h2 : stk.length ≤ 60) (n : Rn l (k + 1) .first ([] :: stk) o) : Rn l k p stk o
  | cls {k : Nat} {s t : List Dt} {r : List (List Dt)} {o : Out} (h : l[k]? = some 41) (n : Rn l (k + 1) .behind ((t ++ [.tup (Dl.ofL s)]) :: r) o) : Rn l k .first (s :: t :: r) o
  | lfE {k c : Nat} {p : Plc} {stk : List (List Dt)} (h : l[k]? = some c) (hp : p ≠ .behind) (h2 : ¬ (c = 40 ∧ stk.length ≤ 60)) (h3 : ¬ (c = 41 ∧ p = .first)) (h4 : (lend l k).2 = false) : Rn l k p stk (.err (lend l k).1)
  | lf {k c : Nat} {p : Plc} {s : List Dt} {r : List (List Dt)} {o : Out} (h : l[k]? = some c) (hp : p ≠ .behind) (h2 : c ≠ 40) (h3 : c ≠ 41) (h4 : (lend l k).2 = true) (h5 : (lend l k).1 ≤ k + 300) (n : Rn l (lend l k).1 .behind ((s ++ [lval (cutL l k (lend l k).1)]) :: r) o) : Rn l k p (s :: r) o
theorem at_mid {pre mid post : List Nat} {i : Nat} (h : i < mid.length) : (pre ++ mid ++ post)[pre.length + i]? = mid[i]? := by
  rw [List.append_assoc, List.getElem?_append_right (by omega), Nat.add_sub_cancel_left, List.getElem?_append_left h]
theorem drop_pre {pre mid post : List Nat} : (pre ++ mid ++ post).drop pre.length = mid ++ post := by
  rw [List.append_assoc, List.drop_left]
theorem run_all {p : Nat → Bool} : ∀ {w post : List Nat}, (∀ c ∈ w, p c = true) → (∀ c, post.head? = some c → p c = false) → runL p (w ++ post) = w.length
  | [], post, _, h => by
    unfold runL
    cases post with
    | nil => rfl
    | cons c r => rw [List.nil_append, List.takeWhile_cons_of_neg (by rw [h c rfl]; decide)]
  | c :: w, post, hw, h => by
    have := run_all (fun x hx => hw x (List.mem_cons_of_mem _ hx)) h
    unfold runL at this ⊢
    rw [List.cons_append, List.takeWhile_cons_of_pos (hw c (by simp)), List.length_cons, this]
    rfl
/-- what ends a leaf -/
def Ends (post : List Nat) : Prop := ∀ c, post.head? = some c → sm1 c = false ∧ dg c = false
theorem smB_mem {w : List Nat} (h : smB w = true) : ∀ c ∈ w, sm1 c = true := List.all_eq_true.mp h
theorem cut_mid (pre mid post : List Nat) : cutL (pre ++ mid ++ post) pre.length (pre.length + mid.length) = mid := by
  unfold cutL
  rw [drop_pre, Nat.add_sub_cancel_left, List.take_left]
/-- a word at its place -/
theorem lend_word {pre w post : List Nat} (h : isW w = true) (he : Ends post) : lend (pre ++ w ++ post) pre.length = (pre.length + w.length, true) ∧ lval w = .wrd w := by
  unfold isW at h
  obtain ⟨h1, h2⟩ := Bool.and_eq_true_iff.mp h
  obtain ⟨h1, h3⟩ := Bool.and_eq_true_iff.mp h1
  have h1 := of_decide_eq_true h1
  have h3 := of_decide_eq_true h3
  constructor
  · obtain ⟨c, r, rfl⟩ : ∃ c r, w = c :: r := by
      cases w with
      | nil => exact absurd h1 (by decide)
      | cons c r => exact ⟨c, r, rfl⟩
    have e := at_mid (pre := pre) (mid := c :: r) (post := post) (i := 0) (by simp)
    rw [Nat.add_zero] at e
    unfold lend
    rw [e]
    show (if sm1 c = true then _ else _) = _
    rw [if_pos (smB_mem h2 c (by simp)), drop_pre, run_all (smB_mem h2) fun c hc => (he c hc).1, Nat.min_eq_right h3]
  · unfold lval
    rw [if_pos h2]
theorem dg_not_sm {c : Nat} (h : dg c = true) : sm1 c = false := by
  unfold dg at h
  obtain ⟨h1, h2⟩ := Bool.and_eq_true_iff.mp h
  have h1 := of_decide_eq_true h1
  have h2 := of_decide_eq_true h2
  unfold sm1
  rw [decide_eq_false (show ¬ 97 ≤ c by omega)]
  rfl
theorem all_dg {ds : List Nat} (h : AllDigits ds) : ∀ c ∈ ds, dg c = true := fun c hc => by
  obtain ⟨a, b⟩ := h c hc
  unfold dg
  rw [decide_eq_true a, decide_eq_true b]
  rfl
theorem smB_cons {c : Nat} {r : List Nat} (h : sm1 c = false) : smB (c :: r) = false := by
  unfold smB
  rw [List.all_cons, h]
  rfl
/-- the digits of a number other than zero do not begin with 0 -/
theorem numL_first : ∀ n : Nat, 0 < n → ∃ c r, numL n = c :: r ∧ dg1 c = true := by
  intro n
  induction n using Nat.strongRecOn with
  | ind n ih =>
    intro hn
    by_cases h : n < 10
    · refine ⟨48 + n, [], numL_lt h, ?_⟩
      unfold dg1
      rw [decide_eq_true (show 49 ≤ 48 + n by omega), decide_eq_true (show 48 + n ≤ 57 by omega)]
      rfl
    · obtain ⟨c, r, e, hc⟩ := ih (n / 10) (by omega) (by omega)
      exact ⟨c, r ++ [48 + n % 10], by rw [numL_step (by omega), e]; rfl, hc⟩
theorem nend_num {pre ds post : List Nat} {c : Nat} {r : List Nat} (e : ds = c :: r) (hc : dg1 c = true) (hd : AllDigits ds) (he : Ends post) : nend (pre ++ ds ++ post) pre.length = (pre.length + ds.length, true) := by
  have a := at_mid (pre := pre) (mid := ds) (post := post) (i := 0) (by rw [e]; simp)
  rw [Nat.add_zero] at a
  unfold nend
  rw [a, e]
  show (if dg1 c = true then _ else _) = _
  rw [if_pos hc, ← e, drop_pre, run_all (all_dg hd) fun c hc => (he c hc).2]
/-- a number at its place -/
theorem lend_num {pre post : List Nat} (n : Int) (he : Ends post) : lend (pre ++ dec n ++ post) pre.length = (pre.length + (dec n).length, true) ∧ lval (dec n) = .num n := by
  by_cases hn : n < 0
  · have ed : dec n = 45 :: numL n.natAbs := by
      unfold dec
      rw [if_pos hn]
      rfl
    obtain ⟨c, r, e, hc⟩ := numL_first n.natAbs (by omega)
    rw [ed]
    constructor
    · have a := at_mid (pre := pre) (mid := 45 :: numL n.natAbs) (post := post) (i := 0) (by simp)
      rw [Nat.add_zero] at a
      unfold lend
      rw [a]
      show (if sm1 45 = true then _ else if 45 = 48 then _ else nend _ (if 45 = 45 then _ else _)) = _
      rw [if_neg (by decide), if_neg (by decide), if_pos rfl]
      have := nend_num (pre := pre ++ [45]) (post := post) e hc (numL_digits _) he
      rw [List.length_append] at this
      rw [show pre ++ 45 :: numL n.natAbs ++ post = pre ++ [45] ++ numL n.natAbs ++ post by simp]
      show nend _ (pre.length + [45].length) = _
      rw [this]
      congr 1
      simp
      omega
    · unfold lval
      rw [smB_cons (by decide), if_neg (by decide), if_pos (by rfl)]
      show Dt.num (-((digitsVal (numL n.natAbs) : Nat) : Int)) = _
      rw [numL_val]
      congr 1
      omega
  · have ed : dec n = numL n.natAbs := by
      unfold dec
      rw [if_neg hn]
      rfl
    rw [ed]
    by_cases h0 : n = 0
    · subst h0
      have e0 : numL (0 : Int).natAbs = [48] := numL_lt (n := 0) (by decide)
      rw [e0]
      constructor
      · have a := at_mid (pre := pre) (mid := [48]) (post := post) (i := 0) (by simp)
        rw [Nat.add_zero] at a
        unfold lend
        rw [a]
        rfl
      · rfl
    · obtain ⟨c, r, e, hc⟩ := numL_first n.natAbs (by omega)
      have hcd : dg c = true := all_dg (numL_digits n.natAbs) c (by rw [e]; simp)
      have c48 : c ≠ 48 := fun z => by rw [z] at hc; exact absurd hc (by decide)
      have c45 : c ≠ 45 := fun z => by rw [z] at hc; exact absurd hc (by decide)
      constructor
      · have a := at_mid (pre := pre) (mid := numL n.natAbs) (post := post) (i := 0) (by rw [e]; simp)
        rw [Nat.add_zero] at a
        unfold lend
        rw [a, show (numL n.natAbs)[0]? = some c by rw [e]; rfl]
        show (if sm1 c = true then _ else if c = 48 then _ else nend _ (if c = 45 then _ else _)) = _
        rw [dg_not_sm hcd, if_neg (by decide), if_neg c48, if_neg c45]
        exact nend_num e hc (numL_digits _) he
      · unfold lval
        rw [show smB (numL n.natAbs) = false by rw [e]; exact smB_cons (dg_not_sm hcd), if_neg (by decide), if_neg (by rw [e]; intro z; exact c45 (Option.some.inj z)), numL_val]
        congr 1
        omega
theorem dec_small {n : Int} (h : n.natAbs < 10 ^ 200) : (dec n).length ≤ 201 := dec_len h
/-- a leaf's first sign -/
theorem dec_head (n : Int) : ∃ c r, dec n = c :: r ∧ c ≠ 40 ∧ c ≠ 41 := by
  unfold dec
  by_cases hn : n < 0
  · rw [if_pos hn]
    exact ⟨45, _, rfl, by decide, by decide⟩
  · rw [if_neg hn]
    cases e : numL n.natAbs with
    | nil => exact absurd e (numL_ne _)
    | cons c r =>
      obtain ⟨a, b⟩ := numL_digits n.natAbs c (by rw [e]; simp)
      exact ⟨c, r, rfl, by omega, by omega⟩
theorem wl_ne {ds : Dl} {d : Dt} : wl (.cons d ds) = wr d :: wl ds := rfl
theorem ends_of {c : Nat} {r : List Nat} (h : sm1 c = false) (h2 : dg c = false) : Ends (c :: r) := fun x hx => by
  have e := Option.some.inj hx
  rw [← e]
  exact ⟨h, h2⟩
theorem ends_nil : Ends [] := fun c h => by cases h
theorem ofL_toL : ∀ ds : Dl, Dl.ofL ds.toL = ds
  | .nil => rfl
  | .cons d ds => by
    show Dl.cons d (Dl.ofL ds.toL) = _
    rw [ofL_toL ds]
mutual
/-- reading what was written -/
theorem rd_wr : ∀ (d : Dt) {r : Nat} (pre post : List Nat) (p : Plc) (s : List Dt) (rst : List (List Dt)) {o : Out}, pl d r = true → few d → dep d + (rst.length + 1) ≤ 61 → Ends post → p ≠ .behind →
    Rn (pre ++ wr d ++ post) (pre.length + (wr d).length) .behind ((s ++ [d]) :: rst) o → Rn (pre ++ wr d ++ post) pre.length p (s :: rst) o
  | .num n, r, pre, post, p, s, rst, o, h, hf, hd, he, hp, k => by
    obtain ⟨e1, e2⟩ := lend_num (pre := pre) n he
    obtain ⟨c, x, ec, c40, c41⟩ := dec_head n
    have a := at_mid (pre := pre) (mid := dec n) (post := post) (i := 0) (by rw [ec]; simp)
    have hf : n.natAbs < 10 ^ 200 := hf
    have hl := dec_small hf
    show Rn (pre ++ dec n ++ post) _ _ _ _
    refine .lf (c := c) ?_ hp c40 c41 (by rw [e1]) (by rw [e1]; show _ + _ ≤ _; omega) ?_
    · rw [Nat.add_zero] at a
      rw [a, ec]
      rfl
    · rw [e1]
      dsimp only
      rw [cut_mid, e2]
      exact k
  | .wrd w, r, pre, post, p, s, rst, o, h, hf, hd, he, hp, k => by
    have h : isW w = true := h
    obtain ⟨e1, e2⟩ := lend_word (pre := pre) h he
    have hw := h
    unfold isW at hw
    obtain ⟨h1, h2⟩ := Bool.and_eq_true_iff.mp hw
    obtain ⟨h1, h3⟩ := Bool.and_eq_true_iff.mp h1
    have h1 := of_decide_eq_true h1
    have h3 := of_decide_eq_true h3
    obtain ⟨c, x, ec⟩ : ∃ c x, w = c :: x := by
      cases w with
      | nil => exact absurd h1 (by decide)
      | cons c x => exact ⟨c, x, rfl⟩
    have hc := smB_mem h2 c (by rw [ec]; simp)
    have a := at_mid (pre := pre) (mid := w) (post := post) (i := 0) (by rw [ec]; simp)
    show Rn (pre ++ w ++ post) _ _ _ _
    refine .lf (c := c) ?_ hp (fun z => by rw [z] at hc; exact absurd hc (by decide)) (fun z => by rw [z] at hc; exact absurd hc (by decide)) (by rw [e1]) (by rw [e1]; show _ + _ ≤ _; omega) ?_
    · rw [Nat.add_zero] at a
      rw [a, ec]
      rfl
    · rw [e1]
      dsimp only
      rw [cut_mid, e2]
      exact k
  | .bl _, r, pre, post, p, s, rst, o, h, hf, hd, he, hp, k => hf.elim
  | .non, r, pre, post, p, s, rst, o, h, hf, hd, he, hp, k => hf.elim
  | .ls, r, pre, post, p, s, rst, o, h, hf, hd, he, hp, k => hf.elim
  | .tup ds, 0, pre, post, p, s, rst, o, h, hf, hd, he, hp, k => by cases h
  | .tup ds, r + 1, pre, post, p, s, rst, o, h, hf, hd, he, hp, k => by
    have h : pls ds r = true := h
    have hd : deps ds + 1 + (rst.length + 1) ≤ 61 := hd
    have a0 := at_mid (pre := pre) (mid := wr (.tup ds)) (post := post) (i := 0) (by show 0 < _ + 1; omega)
    rw [Nat.add_zero] at a0
    refine .opn (by rw [a0]; rfl) hp (by show rst.length + 1 ≤ 60; omega) ?_
    cases ds with
    | nil =>
      have a1 := at_mid (pre := pre) (mid := [40, 41]) (post := post) (i := 1) (by decide)
      show Rn (pre ++ [40, 41] ++ post) _ _ _ _
      refine .cls a1 ?_
      exact k
    | cons d ds =>
      have key := rds_wr d ds (pre ++ [40]) (41 :: post) .first [] (s :: rst) (r := r) (o := o) h hf (by show deps (.cons d ds) + (rst.length + 1 + 1) ≤ 61; omega) (ends_of (by decide) (by decide)) (by intro z; cases z) (by intro z; cases z)
      have el : pre ++ [40] ++ TL.joinL [32] (wl (.cons d ds)) ++ 41 :: post = pre ++ wr (.tup (.cons d ds)) ++ post := by
        show _ = pre ++ (40 :: (TL.joinL [32] (wl (.cons d ds)) ++ [41])) ++ post
        simp
      rw [el, List.length_append] at key
      refine key ?_
      have hw : (wr (.tup (.cons d ds))).length = (TL.joinL [32] (wl (.cons d ds))).length + 2 := by
        show (TL.joinL [32] (wl (.cons d ds)) ++ [41]).length + 1 = _
        rw [List.length_append]
        rfl
      have a2 := at_mid (pre := pre) (mid := wr (.tup (.cons d ds))) (post := post) (i := (TL.joinL [32] (wl (.cons d ds))).length + 1) (by omega)
      refine .bCl ?_ ?_
      · rw [show pre.length + [40].length + (TL.joinL [32] (wl (.cons d ds))).length = pre.length + ((TL.joinL [32] (wl (.cons d ds))).length + 1) by simp; omega, a2]
        show (40 :: (TL.joinL [32] (wl (.cons d ds)) ++ [41]))[(TL.joinL [32] (wl (.cons d ds))).length + 1]? = _
        rw [List.getElem?_cons_succ, List.getElem?_append_right (Nat.le_refl _), Nat.sub_self]
        rfl
      · rw [show pre.length + [40].length + (TL.joinL [32] (wl (.cons d ds))).length + 1 = pre.length + (wr (.tup (.cons d ds))).length by rw [hw]; simp; omega]
        rw [show (Dl.ofL ([] ++ (Dl.cons d ds).toL)) = .cons d ds by rw [List.nil_append]; exact ofL_toL _]
        exact k
theorem rds_wr : ∀ (d : Dt) (ds : Dl) {r : Nat} (pre post : List Nat) (p : Plc) (s : List Dt) (rst : List (List Dt)) {o : Out}, pls (.cons d ds) r = true → fews (.cons d ds) → deps (.cons d ds) + (rst.length + 1) ≤ 61 → Ends post → p ≠ .behind → rst ≠ [] →
    Rn (pre ++ TL.joinL [32] (wl (.cons d ds)) ++ post) (pre.length + (TL.joinL [32] (wl (.cons d ds))).length) .behind ((s ++ (Dl.cons d ds).toL) :: rst) o → Rn (pre ++ TL.joinL [32] (wl (.cons d ds)) ++ post) pre.length p (s :: rst) o
  | d, .nil, r, pre, post, p, s, rst, o, h, hf, hd, he, hp, hne, k => by
    have h : (pl d r && true) = true := h
    rw [Bool.and_true] at h
    exact rd_wr d pre post p s rst h hf.1 (by have : max (dep d) 0 + (rst.length + 1) ≤ 61 := hd; omega) he hp k
  | d, .cons e ds, r, pre, post, p, s, rst, o, h, hf, hd, he, hp, hne, k => by
    have h : (pl d r && pls (.cons e ds) r) = true := h
    obtain ⟨h1, h2⟩ := Bool.and_eq_true_iff.mp h
    have hd : max (dep d) (deps (.cons e ds)) + (rst.length + 1) ≤ 61 := hd
    have ej : TL.joinL [32] (wl (.cons d (.cons e ds))) = wr d ++ ([32] ++ TL.joinL [32] (wl (.cons e ds))) := rfl
    have el : pre ++ wr d ++ ([32] ++ TL.joinL [32] (wl (.cons e ds)) ++ post) = pre ++ TL.joinL [32] (wl (.cons d (.cons e ds))) ++ post := by
      rw [ej]
      simp
    have key := rd_wr d pre ([32] ++ TL.joinL [32] (wl (.cons e ds)) ++ post) p s rst (o := o) h1 hf.1 (by omega) (ends_of (by decide) (by decide)) hp
    rw [el] at key
    refine key ?_
    have a := at_mid (pre := pre ++ wr d) (mid := [32] ++ TL.joinL [32] (wl (.cons e ds))) (post := post) (i := 0) (by simp)
    rw [Nat.add_zero, List.length_append] at a
    have el2 : pre ++ wr d ++ ([32] ++ TL.joinL [32] (wl (.cons e ds))) ++ post = pre ++ TL.joinL [32] (wl (.cons d (.cons e ds))) ++ post := by
      rw [ej]
      simp
    rw [el2] at a
    have hl : 0 < rst.length := List.length_pos_iff.mpr hne
    refine .bSp a (by show rst.length + 1 ≠ 1; omega) ?_
    have key2 := rds_wr e ds (pre ++ wr d ++ [32]) post .item (s ++ [d]) rst (o := o) h2 hf.2 (by omega) he (by intro z; cases z) hne
    have el3 : pre ++ wr d ++ [32] ++ TL.joinL [32] (wl (.cons e ds)) ++ post = pre ++ TL.joinL [32] (wl (.cons d (.cons e ds))) ++ post := by
      rw [ej]
      simp
    rw [el3] at key2
    have el4 : (pre ++ wr d ++ [32]).length = pre.length + (wr d).length + 1 := by
      simp
      omega
    rw [el4] at key2
    refine key2 ?_
    have el5 : pre.length + (wr d).length + 1 + (TL.joinL [32] (wl (.cons e ds))).length = pre.length + (TL.joinL [32] (wl (.cons d (.cons e ds)))).length := by
      rw [ej]
      simp
      omega
    rw [el5]
    have el6 : s ++ [d] ++ (Dl.cons e ds).toL = s ++ (Dl.cons d (.cons e ds)).toL := by
      show s ++ [d] ++ _ = s ++ (d :: (Dl.cons e ds).toL)
      simp
    rw [el6]
    exact k
end
end Ind

set_option Elab.async false
set_option linter.all false
set_option maxRecDepth 100000
set_option maxHeartbeats 4000000
namespace Ind
open PySem PySem.Spec PyProof.Rows L2 SX NumText TL
open Builtin.Int (intBits)
abbrev sPb : Stmt := top 20
abbrev sLe : Stmt := top 21
abbrev sLo : Stmt := top 22
/-- how NoText stands -/
structure NtC (P : Program) (w : World) (K : PySem.W.Frag) (mg : Str → Option Value) (base : Heap) (Nt fN : Addr) (fdN : FuncData) : Prop where
  T : OexC K Nt
  iC : PySem.W.findIn K (.ref Nt) "__init__" = some (some (.ref fN))
  tI : PySem.W.typeIn K (.ref fN) = some (.type "function")
  fn : FnOk P w K mg base CX0 1 fN fdN ["self", "at"] (spNt Nt)
  b : Binds K fdN ["self", "at"] []
  g : mg "NoText" = some (.ref Nt)
def NtX (Nt : Addr) (n : Nat) (H : Hp) (E : XK) : Prop := ∀ (H' : Hp) (d : Addr), Same H H' → H' d = some (.xd [("at", .int (n : Int))]) → E (.ref Nt) (some d) H'
theorem NtX.same {Nt : Addr} {n : Nat} {H H1 : Hp} {E : XK} (s : Same H H1) (k : NtX Nt n H E) : NtX Nt n H1 E := fun H' d s' hd => k H' d (s.trans s') hd
theorem txt_len {n : Nat} (h : n < 10 ^ 9) : (Str.ofString (toString ((n : Nat) : Int))).length ≤ 10000 := by
  have e : (Str.ofString (toString ((n : Nat) : Int))).length = (numL n).length := by
    rw [← tl_num n]
    show _ = (Str.ofString _).cps.toList.length
    rw [Array.length_toList]
    rfl
  rw [e]
  have := numL_len (k := 9) (by decide) h
  omega
theorem ntx_raise {Nt : Addr} {n : Nat} {H0 H : Hp} {E : XK} (hn : n < 10 ^ 9) (s : Same H0 H) (k : NtX Nt n H0 E) : ∀ a, H a = none → spNt Nt [.ref a, .int (n : Int)] (upd H a (exo a Nt none))
    (fun v H2 => v = .non ∧ ∃ (d : Addr) (fs : List (Str × V)), H2 a = some (exo a Nt (some d)) ∧ H2 d = some (exd d fs) ∧ H d = none ∧ E (.ref Nt) (some d) (upd (L2.del H2 a) d (.xd fs))) (fun _ _ _ => False) := fun a na => by
  refine ⟨a, n, rfl, upd_same, ?_, txt_len hn, fun dx ndx dne => ⟨rfl, dx, [("at", .int n)], upd_same, ?_, ?_, ?_⟩⟩
  · show ((n : Nat) : Int).natAbs.log2 < 1920
    have : n < 2 ^ 40 := Nat.lt_of_lt_of_le hn (by decide)
    have := lt_log (n := ((n : Nat) : Int).natAbs) (k := 40) (by omega) (by decide)
    omega
  · rw [upd_ne dne, upd_same]
  · rw [upd_ne dne] at ndx
    exact ndx
  · have nd : H dx = none := by
      rw [upd_ne dne] at ndx
      exact ndx
    refine k _ dx (fun b o e => ?_) upd_same
    have hb := s _ _ e
    rw [upd_ne (ne_of_none hb nd), del_ne (ne_of_none hb na), upd_ne (ne_of_none hb na), upd_ne (ne_of_none hb nd), upd_ne (ne_of_none hb na)]
    exact hb
def spPb (Nt : Addr) : Sp := fun vs H Q E => ∃ (c k : Nat) (L : Addr) (xs : List V), vs = [.str ⟨#[c]⟩, .int (k : Int), .ref L] ∧ H L = some (.lst xs) ∧ k < 10 ^ 9 ∧ ((xs.length = 1 ∨ (c ≠ 32 ∧ c ≠ 41)) → NtX Nt k H E) ∧
  (xs.length ≠ 1 → c = 32 → ∀ H' : Hp, Same H H' → Q (.str "item") H') ∧ (xs.length ≠ 1 → c = 41 → ∀ H' : Hp, Same H H' → Q (.str "behind") H')
def spLe (Nt : Addr) : Sp := fun vs H Q E => ∃ (l : List Nat) (k : Nat), vs = [.str (S l), .int (k : Int)] ∧ k < l.length ∧ l.length ≤ 200000 ∧ ((lend l k).2 = false → NtX Nt (lend l k).1 H E) ∧ ((lend l k).2 = true → Q (.int (((lend l k).1 : Nat) : Int)) H)
/-- a leaf's text -/
def LfT (t : List Nat) : Prop := t.length ≤ 300 ∧ (smB t = true ∨ ∃ ds, AllDigits ds ∧ ds ≠ [] ∧ (t = ds ∨ t = 45 :: ds))
def spLo : Sp := fun vs H Q _ => ∃ t : List Nat, vs = [.str (S t)] ∧ LfT t ∧ ∀ (H' : Hp) (v : V), Same H H' → At H' v (lval t) → Q v H'
theorem cut_from1 (l : List Nat) : cutS (S l) (some 1) none = S (l.drop 1) := by
  unfold cutS
  rw [show (1 : Int) = ((1 : Nat) : Int) from rfl, HT.sIx_nat, HT.sIx_none, S_len]
  cases l with
  | nil => rfl
  | cons c r =>
    rw [Nat.min_eq_left (by simp)]
    congr 1
    congr 1
    exact List.take_of_length_le (by rw [List.length_drop]; exact Nat.le_refl _)
theorem S_one (c : Nat) : (⟨#[c]⟩ : Str) = S [c] := rfl
theorem atI_S {l : List Nat} {k c : Nat} (h : l[k]? = some c) : atI (S l).cps.toList ((k : Nat) : Int) = some c := by
  have hk : k < l.length := (List.getElem?_eq_some_iff.mp h).1
  have e : (S l).cps.toList = l := by simp [S]
  rw [e]
  unfold atI
  have h1 : ixN l.length ((k : Nat) : Int) = some k := by
    unfold ixN
    rw [if_pos (by omega), if_pos (by omega)]
    all_goals rfl
  rw [h1]
  exact h
theorem le_a (c : Nat) : (!decide ((⟨#[c]⟩ : Str).cps.toList < (Str.ofString "a").cps.toList)) = decide (97 ≤ c) := by
  rw [show Str.ofString "a" = ⟨#[97]⟩ by decide +kernel, one_lt]
  by_cases h : 97 ≤ c
  · rw [decide_eq_true h, decide_eq_false (by omega)]
    rfl
  · rw [decide_eq_false h, decide_eq_true (by omega)]
    rfl
theorem le_z (c : Nat) : (!decide ((Str.ofString "z").cps.toList < (⟨#[c]⟩ : Str).cps.toList)) = decide (c ≤ 122) := by
  rw [show Str.ofString "z" = ⟨#[122]⟩ by decide +kernel, one_lt]
  by_cases h2 : c ≤ 122
  · rw [decide_eq_true h2, decide_eq_false (by omega)]
    rfl
  · rw [decide_eq_false h2, decide_eq_true (by omega)]
    rfl
theorem dec_one (c d : Nat) : decide (V.str ⟨#[c]⟩ = V.str ⟨#[d]⟩) = decide (c = d) := decide_eq_decide.mpr ⟨fun h => by
  have h1 := V.str.inj h
  have h2 : (#[c] : Array Nat) = #[d] := Str.mk.inj h1
  simpa using h2, fun h => by rw [h]⟩
section
variable {P : Program} {w : World} {K : PySem.W.Frag} {mg : Str → Option Value} {base : Heap} {Nt fN : Addr} {fdN : FuncData}
theorem scPb : FnScope ["here", "at", "pending"] ["here", "at", "pending"] (defScope sPb) := ⟨rfl, rfl, rfl, by decide +kernel, rfl, by decide +kernel, by decide +kernel⟩
theorem ok_pb {f : Addr} {fd : FuncData} (F : Fun K "place_behind" "place_behind" sPb f fd) (T : TxL K mg) (N : NtC P w K mg base Nt fN fdN) : FnOk P w K mg base (L2.CX P w) 3 f fd ["here", "at", "pending"] (spPb Nt) := by
  refine F.okX scPb (fun vs H Q E h => ?_) (fun cdv A outer s H vs Q E hr h => ?_)
  · obtain ⟨c, k, L, xs, rfl, _⟩ := h
    rfl
  · obtain ⟨c, k, L, xs, rfl, hL, hk, kE, k1, k2⟩ := h
    refine ⟨_, pss_cons (ps_if (PW.pt (pw_or (pt_cmpR op_eq (pe_callB call_len_seq (by rfl) T.len PySem.boot_len (pa_cons (pv 2) pa_nil)) pe_int (nomark _)) (pw_or1 (pt_cmpR op_notIn_seq (pv 0) (pe_tup (pa_cons pe_str (pa_cons pe_str pa_nil))) (by rfl)))))
        (pss_one (ps_raise rfl (takes_of rfl rfl rfl rfl) (pmk_oex N.T N.iC N.tI N.fn hr N.b .nil pass0 (by rfl) N.g (pa_cons (pv 1) pa_nil))))
        pss_nil)
      (pss_one (ps_ret (pe_ifExp (pt_cmpR op_eq (pv 0) pe_str (nomark _)) pe_str pe_str))), ?_⟩
    refine ⟨_, rfl, L, _, rfl, .inl (SqL.of hL), rfl, _, rfl, ?_⟩
    by_cases c1 : xs.length = 1
    · rw [show decide (V.int ((xs.length : Nat) : Int) = V.int 1) = true from decide_eq_true (by rw [c1]; rfl)]
      exact iteT (iteT ⟨_, rfl, (by show 1 ≤ 1000; decide), ntx_raise (E := E) hk same_rfl (kE (.inl c1))⟩)
    · rw [show decide (V.int ((xs.length : Nat) : Int) = V.int 1) = false from decide_eq_false fun z => c1 (by have := V.int.inj z; omega)]
      refine iteF ⟨_, rfl, (by show 2 ≤ sizeLine; decide), fun t ht => ?_⟩
      have s1 := same_upd (o := .tup [V.str (Str.ofString " "), V.str (Str.ofString ")")]) ht
      have e0 : inV (V.str ⟨#[c]⟩) [V.str (Str.ofString " "), V.str (Str.ofString ")")] = decide (c = 32 ∨ c = 41) := by
        rw [show Str.ofString " " = S [32] by decide +kernel, show Str.ofString ")" = S [41] by decide +kernel]
        show ((S [32] == S [c]) || ((S [41] == S [c]) || false)) = _
        rw [S_beq_eq, S_beq_eq, Bool.or_false]
        by_cases a : c = 32
        · subst a
          rfl
        · by_cases b : c = 41
          · subst b
            rfl
          · rw [decide_eq_false (show ¬ [32] = [c] from fun z => a (by simpa using z.symm)), decide_eq_false (show ¬ [41] = [c] from fun z => b (by simpa using z.symm)), decide_eq_false (by omega)]
            rfl
      refine ⟨t, _, rfl, .inr (SqT.of upd_same), rfl, by decide +kernel, _, rfl, ?_⟩
      rw [e0]
      by_cases a : c = 32
      · subst a
        refine iteF ⟨_, rfl, rfl, _, rfl, ?_⟩
        rw [show decide (V.str ⟨#[32]⟩ = V.str (Str.ofString " ")) = true by decide +kernel]
        exact iteT (k1 c1 rfl _ s1)
      · by_cases b : c = 41
        · subst b
          refine iteF ⟨_, rfl, rfl, _, rfl, ?_⟩
          rw [show decide (V.str ⟨#[41]⟩ = V.str (Str.ofString " ")) = false by decide +kernel]
          exact iteF (k2 c1 rfl _ s1)
        · rw [decide_eq_false (show ¬ (c = 32 ∨ c = 41) by omega)]
          exact iteT ⟨_, rfl, (by show 1 ≤ 1000; decide), ntx_raise (E := E) hk s1 (kE (.inr ⟨a, b⟩))⟩
theorem scLo : FnScope ["text"] ["text"] (defScope sLo) := ⟨rfl, rfl, rfl, by decide +kernel, rfl, by decide +kernel, by decide +kernel⟩
theorem smB_digits {ds : List Nat} (h : AllDigits ds) (h2 : ds ≠ []) : smB ds = false := by
  cases ds with
  | nil => exact absurd rfl h2
  | cons c r => exact smB_cons (dg_not_sm (all_dg h c (by simp)))
theorem ok_lo {f fA fM : Addr} {fd fdA fdM : FuncData} (F : Fun K "leaf_of" "leaf_of" sLo f fd) (GA : Cl P w K mg base CX0 1 "are_small" fA fdA ["text"] spAs) (GN : Cl P w K mg base CX0 1 "number_of" fM fdM ["digits"] spNumOf) : FnOk P w K mg base CX0 2 f fd ["text"] spLo := by
  refine F.ok scLo (fun vs H Q E h => ?_) (fun cdv A outer s H vs Q E hr h => ?_)
  · obtain ⟨t, rfl, _⟩ := h
    rfl
  · obtain ⟨t, rfl, ⟨hl, ht⟩, k⟩ := h
    refine ⟨_, pss_cons (ps_if (pt_val (pe_call GA.fn hr (by rfl) GA.g GA.kp GA.b .nil pass0 (pa_cons (pv 0) pa_nil)))
        (pss_one (ps_ret (pv 0)))
        pss_nil)
      (pss_cons (ps_if (pt_val (pe_bm PySem.F.plainAttrs_str PySem.F.slot_str_startswith PySem.F.type_str_startswith mt_startswith (pv 0) (pa_cons pe_str pa_nil)))
        (pss_one (ps_ret (pe_un un_neg (pe_call GN.fn hr (by rfl) GN.g GN.kp GN.b .nil pass0 (pa_cons (pe_slice sl_str (pv 0) (po_some pe_int) po_none) pa_nil)))))
        pss_nil)
      (pss_one (ps_ret (pe_call GN.fn hr (by rfl) GN.g GN.kp GN.b .nil pass0 (pa_cons (pv 0) pa_nil))))), ?_⟩
    have hz : (S t).length ≤ sizeLine := S_le (n := 300) hl
    have key : ∀ (H1 : Hp), Same H H1 → ∀ v : V, lval t = .num 0 ∨ True → At H1 v (lval t) → Q v H1 := fun H1 s1 v _ a => k H1 v s1 a
    refine ⟨_, rfl, t, rfl, by omega, fun H1 s1 => ⟨_, rfl, ?_⟩⟩
    have e45 : (Str.ofString "-") = S [45] := by decide +kernel
    by_cases c : smB t = true
    · rw [c]
      refine iteT ⟨_, rfl, k H1 _ s1 ?_⟩
      unfold lval
      rw [if_pos c]
      unfold At
      rfl
    · obtain ⟨ds, hd, hne, hts⟩ := ht.resolve_left c
      have c : smB t = false := by simpa using c
      rw [c]
      refine iteF ⟨_, rfl, rfl, _, _, rfl, rfl, _, rfl, ?_⟩
      rw [e45, starts_one]
      rcases hts with rfl | rfl
      · obtain ⟨x, r, e⟩ : ∃ x r, t = x :: r := by
          cases t with
          | nil => exact absurd rfl hne
          | cons x r => exact ⟨x, r, rfl⟩
        have hx : t.head? ≠ some 45 := by
          rw [e]
          intro z
          have := hd x (by rw [e]; simp)
          have := Option.some.inj z
          omega
        rw [decide_eq_false hx]
        refine iteF ⟨_, rfl, t, rfl, hd, hne, hl, fun H2 s2 => k H2 _ (s1.trans s2) ?_⟩
        unfold lval
        rw [if_neg (by rw [c]; decide), if_neg hx]
        unfold At
        rfl
      · refine iteT ⟨_, rfl, _, rfl, _, rfl, hz, ?_⟩
        rw [cut_from1]
        refine ⟨ds, rfl, hd, hne, by simp only [List.length_cons] at hl; omega, fun H2 s2 => ⟨_, rfl, k H2 _ (s1.trans s2) ?_⟩⟩
        unfold lval
        rw [if_neg (by rw [c]; decide), if_pos (by rfl)]
        unfold At
        rfl
abbrev nLe : List Str := ["text", "at", "end"]
theorem scLe : FnScope nLe ["text", "at"] (defScope sLe) := ⟨rfl, rfl, rfl, by decide +kernel, rfl, by decide +kernel, by decide +kernel⟩
theorem run_le (p : Nat → Bool) (l : List Nat) : runL p l ≤ l.length := (List.takeWhile_prefix p).length_le
/-- one more sign of a run -/
theorem run_step {p : Nat → Bool} : ∀ {l : List Nat} {i c : Nat}, i ≤ runL p l → l[i]? = some c → (p c = true ↔ i + 1 ≤ runL p l)
  | [], i, c, _, h => by simp at h
  | x :: l, 0, c, _, h => by
    have e : x = c := Option.some.inj h
    subst e
    unfold runL
    by_cases hx : p x = true
    · rw [List.takeWhile_cons_of_pos hx, List.length_cons]
      exact ⟨fun _ => by omega, fun _ => hx⟩
    · rw [List.takeWhile_cons_of_neg hx]
      exact ⟨fun z => absurd z hx, fun z => absurd z (by decide)⟩
  | x :: l, i + 1, c, hi, h => by
    have h : l[i]? = some c := h
    by_cases hx : p x = true
    · have e : runL p (x :: l) = runL p l + 1 := by
        unfold runL
        rw [List.takeWhile_cons_of_pos hx, List.length_cons]
      rw [e] at hi ⊢
      have := run_step (p := p) (i := i) (by omega) h
      rw [this]
      omega
    · have e : runL p (x :: l) = 0 := by
        unfold runL
        rw [List.takeWhile_cons_of_neg hx]
        rfl
      omega
theorem in_dg1 (c : Nat) : decide (c ∈ (Str.ofString "123456789").cps.toList) = dg1 c := by
  rw [show (Str.ofString "123456789").cps.toList = [49, 50, 51, 52, 53, 54, 55, 56, 57] by decide +kernel]
  unfold dg1
  rw [← Bool.decide_and]
  refine decide_eq_decide.mpr ?_
  simp only [List.mem_cons, List.not_mem_nil, or_false]
  omega
theorem in_dg (c : Nat) : decide (c ∈ (Str.ofString "0123456789").cps.toList) = dg c := by
  rw [show (Str.ofString "0123456789").cps.toList = [48, 49, 50, 51, 52, 53, 54, 55, 56, 57] by decide +kernel]
  unfold dg
  rw [← Bool.decide_and]
  refine decide_eq_decide.mpr ?_
  simp only [List.mem_cons, List.not_mem_nil, or_false]
  omega
theorem sm1_split (c : Nat) : sm1 c = (decide (97 ≤ c) && decide (c ≤ 122)) := rfl
end
end Ind

set_option Elab.async false
set_option linter.all false
set_option maxRecDepth 100000
set_option maxHeartbeats 4000000
namespace Ind
open PySem PySem.Spec PyProof.Rows L2 SX NumText TL
open Builtin.Int (intBits)
section
variable {P : Program} {w : World} {K : PySem.W.Frag} {mg : Str → Option Value} {base : Heap} {Nt fN : Addr} {fdN : FuncData}
theorem drop_at {l : List Nat} {k i : Nat} : (l.drop k)[i]? = l[k + i]? := by rw [List.getElem?_drop]
theorem ok_le {f : Addr} {fd : FuncData} (F : Fun K "leaf_end" "leaf_end" sLe f fd) (T : TxL K mg) (D : TxD mg) (N : NtC P w K mg base Nt fN fdN) : FnOk P w K mg base (L2.CX P w) 3 f fd ["text", "at"] (spLe Nt) := by
  refine F.okX scLe (fun vs H Q E h => ?_) (fun cdv A outer s H vs Q E hr h => ?_)
  · obtain ⟨l, k, rfl, _⟩ := h
    rfl
  · obtain ⟨l, k, rfl, hk, hl, kE, kQ⟩ := h
    obtain ⟨vL, gL, rL⟩ := D.let_
    refine ⟨_, pss_cons (ps_set (i := 2) scLe.nd rfl (Or.inl rfl) (pv 1))
      (C8.pss_cut (ps_if (pt_chain op_le_str op_le_str pe_str (pe_ix ix_str (pv 0) (pv 1) fun _ _ => rfl) pe_str)
        (pss_cons (ps_while (passes_of rfl) (PW.pt (pw_and (pt_cmpR op_lt (pv 2) (pe_callB (call_min2 rfl) (by rfl) D.min (by decide +kernel) (pa_cons (pe_callB call_len_str (by rfl) T.len PySem.boot_len (pa_cons (pv 0) pa_nil)) (pa_cons (pe_op op_add (pv 1) (pe_glob rfl gL rL)) pa_nil))) (nomark _)) (pw_and1 (pt_chain op_le_str op_le_str pe_str (pe_ix ix_str (pv 0) (pv 2) fun _ _ => rfl) pe_str))))
        (pss_one (ps_set (i := 2) scLe.nd rfl (Or.inl rfl) (pe_op op_add (pv 2) pe_int))))
      (pss_one (ps_ret (pv 2))))
        pss_nil)
      (pss_cons (ps_if (pt_cmpR op_eq (pe_ix ix_str (pv 0) (pv 1) fun _ _ => rfl) pe_str (nomark _))
        (pss_one (ps_ret (pe_op op_add (pv 1) pe_int)))
        pss_nil)
      (C8.pss_cut (ps_if (pt_cmpR op_eq (pe_ix ix_str (pv 0) (pv 1) fun _ _ => rfl) pe_str (nomark _))
        (pss_one (ps_set (i := 2) scLe.nd rfl (Or.inl rfl) (pe_op op_add (pv 1) pe_int)))
        pss_nil)
      (pss_cons (ps_if (PW.pt (pw_or (pt_cmpR op_eq (pv 2) (pe_callB call_len_str (by rfl) T.len PySem.boot_len (pa_cons (pv 0) pa_nil)) (nomark _)) (pw_or1 (pt_cmpR op_notIn_sign (pe_ix ix_str (pv 0) (pv 2) fun _ _ => rfl) pe_str (by rfl)))))
        (pss_one (ps_raise rfl (takes_of rfl rfl rfl rfl) (pmk_oex N.T N.iC N.tI N.fn hr N.b .nil pass0 (by rfl) N.g (pa_cons (pv 2) pa_nil))))
        pss_nil)
      (pss_cons (ps_while (passes_of rfl) (PW.pt (pw_and (pt_cmpR op_lt (pv 2) (pe_callB call_len_str (by rfl) T.len PySem.boot_len (pa_cons (pv 0) pa_nil)) (nomark _)) (pw_and1 (pt_cmpR op_in_sign (pe_ix ix_str (pv 0) (pv 2) fun _ _ => rfl) pe_str (by rfl)))))
        (pss_one (ps_set (i := 2) scLe.nd rfl (Or.inl rfl) (pe_op op_add (pv 2) pe_int))))
      (pss_one (ps_ret (pv 2)))))))), ?_⟩
    have hz : (S l).length ≤ sizeLine := S_le (n := 200000) hl
    obtain ⟨c, hc⟩ : ∃ c, l[k]? = some c := ⟨_, List.getElem?_eq_getElem hk⟩
    have le : lend l k = (if sm1 c = true then (k + min 12 (runL sm1 (l.drop k)), true) else if c = 48 then (k + 1, true) else nend l (if c = 45 then k + 1 else k)) := by
      unfold lend
      rw [hc]
    have dropl : (l.drop k).length = l.length - k := List.length_drop
    have rest : sm1 c = false → lend l k = (if c = 48 then (k + 1, true) else nend l (if c = 45 then k + 1 else k)) := fun e => by
      rw [le, e, if_neg (by decide)]
    refine ⟨_, rfl, fun σ' Ha => σ' = [some (.str (S l)), some (.int (k : Int)), some (.int (k : Int))] ∧ Ha = H ∧ sm1 c = false, ?_, ?_⟩
    · refine ⟨_, rfl, _, rfl, S l, _, c, rfl, rfl, hz, atI_S hc, Str.ofString "a", ⟨#[c]⟩, rfl, rfl, _, rfl, ?_⟩
      rw [le_a]
      by_cases hs : sm1 c = true
      rotate_left
      · have hs : sm1 c = false := by simpa using hs
        have hs2 := hs
        rw [sm1_split] at hs2
        by_cases h1 : 97 ≤ c
        · rw [decide_eq_true h1] at hs2 ⊢
          rw [Bool.true_and] at hs2
          refine iteT ⟨⟨#[c]⟩, Str.ofString "z", rfl, rfl, _, rfl, ?_⟩
          rw [le_z, hs2]
          exact iteF ⟨rfl, rfl, hs⟩
        · rw [decide_eq_false h1]
          exact iteF ⟨_, rfl, iteF ⟨rfl, rfl, hs⟩⟩
      -- a word
      have hs2 := hs
      rw [sm1_split] at hs2
      obtain ⟨s1, s2⟩ := Bool.and_eq_true_iff.mp hs2
      rw [s1]
      refine iteT ⟨⟨#[c]⟩, Str.ofString "z", rfl, rfl, _, rfl, ?_⟩
      rw [le_z, s2]
      refine iteT ?_
      obtain ⟨m, hm⟩ : ∃ m, m = min 12 (runL sm1 (l.drop k)) := ⟨_, rfl⟩
      rw [if_pos hs, ← hm] at le
      have rl := run_le sm1 (l.drop k)
      refine ⟨fun n σ H' => H' = H ∧ ∃ i : Nat, σ = [some (.str (S l)), some (.int (k : Int)), some (.int ((k + i : Nat) : Int))] ∧ i ≤ m ∧ n = m - i, ⟨m, rfl, 0, rfl, Nat.zero_le _, rfl⟩, ?_⟩
      · rintro n σ H' ⟨rfl, i, rfl, him, rfl⟩
        refine ⟨_, rfl, _, rfl, S l, rfl, hz, _, rfl, _, _, rfl, rfl, _, _, rfl, _, _, rfl, rfl, _, rfl, ?_⟩
        rw [S_len]
        have emin : (if ((k : Int) + 12) < ((l.length : Nat) : Int) then ((k : Int) + 12) else ((l.length : Nat) : Int)) = ((min l.length (k + 12) : Nat) : Int) := by split <;> omega
        rw [emin]
        have stop : i = m → _ := fun e => kQ
        by_cases a : k + i < min l.length (k + 12)
        · rw [show decide ((((k + i : Nat) : Nat) : Int) < ((min l.length (k + 12) : Nat) : Int)) = true from decide_eq_true (by omega)]
          obtain ⟨x, hx⟩ : ∃ x, l[k + i]? = some x := ⟨_, List.getElem?_eq_getElem (by omega)⟩
          have st := run_step (p := sm1) (l := l.drop k) (i := i) (c := x) (by omega) (by rw [drop_at]; exact hx)
          refine iteT ⟨_, rfl, _, rfl, S l, _, x, rfl, rfl, hz, atI_S hx, Str.ofString "a", ⟨#[x]⟩, rfl, rfl, _, rfl, ?_⟩
          rw [le_a]
          by_cases hx1 : sm1 x = true
          · have hx2 := hx1
            rw [sm1_split] at hx2
            obtain ⟨x1, x2⟩ := Bool.and_eq_true_iff.mp hx2
            rw [x1]
            refine iteT ⟨⟨#[x]⟩, Str.ofString "z", rfl, rfl, _, rfl, ?_⟩
            rw [le_z, x2]
            have := st.mp hx1
            exact iteT ⟨fun σ' H2 => H2 = H' ∧ σ' = [some (.str (S l)), some (.int (k : Int)), some (.int ((k + (i + 1) : Nat) : Int))], fun σ' H2 ⟨e1, e2⟩ => ⟨m - (i + 1), by omega, e1, i + 1, e2, by omega, rfl⟩, ⟨_, rfl, _, _, rfl, rfl, rfl, rfl⟩⟩
          · have nx : ¬ i + 1 ≤ runL sm1 (l.drop k) := fun z => hx1 (st.mpr z)
            have im : i = m := by omega
            have fin := kQ (by rw [le])
            rw [le] at fin
            have hx0 : sm1 x = false := by simpa using hx1
            by_cases x1 : 97 ≤ x
            · rw [decide_eq_true x1]
              refine iteT ⟨⟨#[x]⟩, Str.ofString "z", rfl, rfl, _, rfl, ?_⟩
              rw [le_z]
              rw [sm1_split, decide_eq_true x1, Bool.true_and] at hx0
              rw [hx0]
              exact iteF ⟨_, rfl, by rw [im]; exact fin⟩
            · rw [decide_eq_false x1]
              exact iteF ⟨_, rfl, iteF ⟨_, rfl, by rw [im]; exact fin⟩⟩
        · rw [show decide ((((k + i : Nat) : Nat) : Int) < ((min l.length (k + 12) : Nat) : Int)) = false from decide_eq_false (by omega)]
          have im : i = m := by omega
          have fin := kQ (by rw [le])
          rw [le] at fin
          exact iteF ⟨_, rfl, by rw [im]; exact fin⟩
    -- no word
    rintro σ' Ha ⟨rfl, rfl, hs⟩
    have rest := rest hs
    clear le
    have e45 : (Str.ofString "-") = ⟨#[45]⟩ := by decide +kernel
    have e48 : (Str.ofString "0") = ⟨#[48]⟩ := by decide +kernel
    obtain ⟨e, he⟩ : ∃ e, e = if c = 45 then k + 1 else k := ⟨_, rfl⟩
    have he2 : e ≤ k + 1 ∧ k ≤ e := by
      rw [he]
      split <;> omega
    refine ⟨_, rfl, _, rfl, S l, _, c, rfl, rfl, hz, atI_S hc, rfl, _, rfl, ?_⟩
    rw [e48, dec_one]
    by_cases c48 : c = 48
    · rw [decide_eq_true c48]
      rw [if_pos c48] at rest
      have fin := kQ (by rw [rest])
      rw [rest] at fin
      exact iteT ⟨_, rfl, _, _, rfl, rfl, fin⟩
    rw [decide_eq_false c48]
    rw [if_neg c48, ← he] at rest
    refine iteF ⟨fun σ' H' => σ' = [some (.str (S l)), some (.int (k : Int)), some (.int (e : Int))] ∧ H' = Ha, ?_, ?_⟩
    · refine ⟨_, rfl, _, rfl, S l, _, c, rfl, rfl, hz, atI_S hc, rfl, _, rfl, ?_⟩
      rw [e45, dec_one]
      by_cases c45 : c = 45
      · rw [decide_eq_true c45]
        rw [if_pos c45] at he
        exact iteT ⟨_, rfl, _, _, rfl, rfl, by rw [he]; rfl, rfl⟩
      · rw [decide_eq_false c45]
        rw [if_neg c45] at he
        exact iteF ⟨by rw [he], rfl⟩
    rintro σ' H' ⟨rfl, rfl⟩
    have bad : (nend l e).2 = false → NtX Nt e H' E := fun z => by
      have h1 := kE (by rw [rest]; exact z)
      rw [rest] at h1
      have : (nend l e).1 = e := by
        unfold nend at z ⊢
        cases h : l[e]? with
        | none => rfl
        | some d =>
          rw [h] at z
          dsimp only at z ⊢
          by_cases y : dg1 d = true
          · rw [if_pos y] at z
            cases z
          · rw [if_neg y]
      rwa [this] at h1
    refine ⟨_, rfl, _, rfl, S l, rfl, hz, rfl, _, rfl, ?_⟩
    rw [S_len]
    by_cases el : e = l.length
    · rw [show decide (V.int ((e : Nat) : Int) = V.int ((l.length : Nat) : Int)) = true from decide_eq_true (by rw [el])]
      refine iteT (iteT ⟨_, rfl, (by show 1 ≤ 1000; decide), ntx_raise (E := E) (by omega) same_rfl (bad ?_)⟩)
      unfold nend
      rw [List.getElem?_eq_none (by omega)]
    rw [show decide (V.int ((e : Nat) : Int) = V.int ((l.length : Nat) : Int)) = false from decide_eq_false fun z => el (by have := V.int.inj z; omega)]
    obtain ⟨d, hd⟩ : ∃ d, l[e]? = some d := ⟨_, List.getElem?_eq_getElem (by omega)⟩
    have ne : nend l e = if dg1 d = true then (e + runL dg (l.drop e), true) else (e, false) := by
      unfold nend
      rw [hd]
    refine iteF ⟨_, rfl, _, rfl, S l, _, d, rfl, rfl, hz, atI_S hd, d, _, rfl, rfl, _, rfl, ?_⟩
    rw [in_dg1]
    by_cases d1 : dg1 d = true
    rotate_left
    · have d1' : dg1 d = false := by simpa using d1
      rw [d1']
      refine iteT ⟨_, rfl, (by show 1 ≤ 1000; decide), ntx_raise (E := E) (by omega) same_rfl (bad ?_)⟩
      rw [ne, if_neg d1]
    rw [d1]
    rw [if_pos d1] at ne
    obtain ⟨m, hm⟩ : ∃ m, m = runL dg (l.drop e) := ⟨_, rfl⟩
    rw [← hm] at ne
    have fin := kQ (by rw [rest, ne])
    rw [rest, ne] at fin
    have rl := run_le dg (l.drop e)
    have dle : (l.drop e).length = l.length - e := List.length_drop
    refine iteF ⟨fun n σ H2 => H2 = H' ∧ ∃ i : Nat, σ = [some (.str (S l)), some (.int (k : Int)), some (.int ((e + i : Nat) : Int))] ∧ i ≤ m ∧ n = m - i, ⟨m, rfl, 0, rfl, Nat.zero_le _, rfl⟩, ?_⟩
    rintro n σ H2 ⟨rfl, i, rfl, him, rfl⟩
    refine ⟨_, rfl, _, rfl, S l, rfl, hz, _, _, rfl, rfl, _, rfl, ?_⟩
    rw [S_len]
    by_cases a : e + i < l.length
    · rw [show decide (((e + i : Nat) : Int) < ((l.length : Nat) : Int)) = true from decide_eq_true (by omega)]
      obtain ⟨x, hx⟩ : ∃ x, l[e + i]? = some x := ⟨_, List.getElem?_eq_getElem (by omega)⟩
      have st := run_step (p := dg) (l := l.drop e) (i := i) (c := x) (by omega) (by rw [drop_at]; exact hx)
      refine iteT ⟨_, rfl, _, rfl, S l, _, x, rfl, rfl, hz, atI_S hx, x, _, rfl, rfl, _, rfl, ?_⟩
      rw [in_dg]
      by_cases hx1 : dg x = true
      · rw [hx1]
        have := st.mp hx1
        exact iteT ⟨fun σ' H3 => H3 = H2 ∧ σ' = [some (.str (S l)), some (.int (k : Int)), some (.int ((e + (i + 1) : Nat) : Int))], fun σ' H3 ⟨e1, e2⟩ => ⟨m - (i + 1), by omega, e1, i + 1, e2, by omega, rfl⟩, ⟨_, rfl, _, _, rfl, rfl, rfl, rfl⟩⟩
      · have nx : ¬ i + 1 ≤ runL dg (l.drop e) := fun z => hx1 (st.mpr z)
        have im : i = m := by omega
        rw [show dg x = false by simpa using hx1]
        exact iteF ⟨_, rfl, by rw [im]; exact fin⟩
    · rw [show decide (((e + i : Nat) : Int) < ((l.length : Nat) : Int)) = false from decide_eq_false (by omega)]
      have im : i = m := by omega
      exact iteF ⟨_, rfl, by rw [im]; exact fin⟩
end
end Ind

set_option Elab.async false
set_option linter.all false
set_option maxRecDepth 100000
set_option maxHeartbeats 4000000
namespace Ind
open PySem PySem.Spec PyProof.Rows L2 SX NumText TL
open Builtin.Int (intBits)
abbrev sRd : Stmt := top 19
def spRd (Nt : Addr) : Sp := fun vs H Q E =>
  (∃ (l : List Nat) (o : Out), vs = [.str (S l)] ∧ l.length ≤ 200000 ∧ Rn l 0 .item [[]] o ∧ (∀ n, o = .err n → NtX Nt n H E) ∧ ∀ d, o = .ok d → ∀ (H' : Hp) (v : V), Same H H' → At H' v d → Q v H') ∨
  ∃ (v : V) (d : Dt), vs = [v] ∧ At H v d ∧ isSt d = false ∧ NtX Nt 0 H E
def plS : Plc → Str
  | .item => "item"
  | .first => "first"
  | .behind => "behind"
theorem paired_snoc {α β : Type} {F : α → β → Prop} : ∀ {xs : List α} {ys : List β} {x : α} {y : β}, Paired F xs ys → F x y → Paired F (xs ++ [x]) (ys ++ [y])
  | _, _, _, _, .nil, h => .cons h .nil
  | _, _, _, _, .cons a t, h => .cons a (paired_snoc t h)
/-- the stack in the heap -/
structure RS (H : Hp) (P : Addr) (ps : List Addr) (stk : List (List Dt)) (k : Nat) (H5 : Hp) : Prop where
  s : Same H H5
  p : H5 P = some (.lst (ps.reverse.map V.ref))
  q : Paired (fun (p : Addr) (s : List Dt) => ∃ vs, H5 p = some (.lst vs) ∧ Paired (At H5) vs s) ps stk
  nd : ps.Nodup
  np : P ∉ ps
  hP : H P = none
  hn : ∀ p ∈ ps, H p = none
  ln : ps.length ≤ k + 1
  li : ∀ s ∈ stk, s.length ≤ k
theorem RS.up {H H5 : Hp} {P : Addr} {ps : List Addr} {stk : List (List Dt)} {k : Nat} (h : RS H P ps stk k H5) : RS H P ps stk (k + 1) H5 := ⟨h.s, h.p, h.q, h.nd, h.np, h.hP, h.hn, Nat.le_succ_of_le h.ln, fun s hs => Nat.le_succ_of_le (h.li s hs)⟩
theorem RS.upn {H H5 : Hp} {P : Addr} {ps : List Addr} {stk : List (List Dt)} {k m : Nat} (h : RS H P ps stk k H5) (hm : k ≤ m) : RS H P ps stk m H5 := ⟨h.s, h.p, h.q, h.nd, h.np, h.hP, h.hn, Nat.le_trans h.ln (by omega), fun s hs => Nat.le_trans (h.li s hs) hm⟩
theorem RS.same {H H5 H6 : Hp} {P : Addr} {ps : List Addr} {stk : List (List Dt)} {k : Nat} (h : RS H P ps stk k H5) (s : Same H5 H6) : RS H P ps stk k H6 :=
  ⟨h.s.trans s, s _ _ h.p, Paired.imp (fun p t ⟨vs, e, q⟩ => ⟨vs, s _ _ e, Paired.imp (fun v d a => a.same s) q⟩) h.q, h.nd, h.np, h.hP, h.hn, h.ln, h.li⟩
/-- items stay where an unlisted list changes -/
theorem q_up {H5 : Hp} {D : Addr} {xs ys : List V} (e : H5 D = some (.lst xs)) : ∀ {ps : List Addr} {stk : List (List Dt)}, D ∉ ps → Paired (fun (p : Addr) (s : List Dt) => ∃ vs, H5 p = some (.lst vs) ∧ Paired (At H5) vs s) ps stk →
    Paired (fun (p : Addr) (s : List Dt) => ∃ vs, (upd H5 D (.lst ys)) p = some (.lst vs) ∧ Paired (At (upd H5 D (.lst ys))) vs s) ps stk
  | _, _, _, .nil => .nil
  | _, _, n, .cons ⟨vs, e1, q⟩ t => .cons ⟨vs, by rw [upd_ne (fun z => n (by rw [← z]; simp))]; exact e1, Paired.imp (fun v d a => a.kl (Kl.up e)) q⟩ (q_up e (fun z => n (List.mem_cons_of_mem _ z)) t)
theorem RS.push {H H5 : Hp} {P D : Addr} {ps : List Addr} {stk : List (List Dt)} {k : Nat} (h : RS H P ps stk k H5) (hD : H5 D = none) : (upd H5 D (.lst [])) P = some (.lst (ps.reverse.map V.ref)) ∧ RS H P (D :: ps) ([] :: stk) (k + 1) (upd (upd H5 D (.lst [])) P (.lst (ps.reverse.map V.ref ++ [V.ref D]))) := by
  have h1 := h.same (same_upd (o := .lst []) hD)
  have nD : D ∉ ps := fun z => by
    obtain ⟨i, hi, e⟩ := List.getElem_of_mem z
    obtain ⟨s, _, vs, e1, _⟩ := Paired.at h.q (show ps[i]? = some D by rw [List.getElem?_eq_getElem hi, e])
    rw [hD] at e1
    cases e1
  have nP : D ≠ P := fun z => by
    rw [z, h.p] at hD
    cases hD
  refine ⟨h1.p, fun b o e => ?_, ?_, ?_, List.nodup_cons.mpr ⟨nD, h.nd⟩, fun z => ?_, h.hP, fun p hp => ?_, by have := h.ln; simp only [List.length_cons]; omega, fun s hs => ?_⟩
  · rw [upd_ne (ne_of_none e h.hP)]
    exact h1.s _ _ e
  · rw [upd_same, List.reverse_cons, List.map_append]
    rfl
  · refine .cons ⟨[], ?_, .nil⟩ (q_up h1.p h.np h1.q)
    rw [upd_ne nP, upd_same]
  · rcases List.mem_cons.mp z with z | z
    · exact nP z.symm
    · exact h.np z
  · rcases List.mem_cons.mp hp with z | z
    · rw [z]
      cases e : H D with
      | none => rfl
      | some o => rw [h.s _ _ e] at hD; cases hD
    · exact h.hn p z
  · rcases List.mem_cons.mp hs with z | z
    · rw [z]
      exact Nat.zero_le _
    · exact Nat.le_succ_of_le (h.li s z)
theorem RS.add {H H5 : Hp} {P p : Addr} {ps : List Addr} {s : List Dt} {r : List (List Dt)} {k : Nat} {v : V} {d : Dt} (h : RS H P (p :: ps) (s :: r) k H5) (hv : At H5 v d) : ∃ vs, H5 p = some (.lst vs) ∧ vs.length ≤ k ∧ RS H P (p :: ps) ((s ++ [d]) :: r) (k + 1) (upd H5 p (.lst (vs ++ [v]))) := by
  have hq := h.q
  cases hq with
  | cons a t =>
    obtain ⟨vs, e, q⟩ := a
    have nd := List.nodup_cons.mp h.nd
    have nP : P ≠ p := fun z => h.np (by rw [z]; simp)
    have hl := h.li s (by simp)
    refine ⟨vs, e, by rw [q.length]; exact hl, fun b o eb => ?_, ?_, .cons ⟨_, upd_same, ?_⟩ (q_up e nd.1 t), h.nd, h.np, h.hP, h.hn, by have := h.ln; omega, fun s' hs' => ?_⟩
    · rw [upd_ne (ne_of_none eb (h.hn p (by simp)))]
      exact h.s _ _ eb
    · rw [upd_ne nP]
      exact h.p
    · exact paired_snoc (Paired.imp (fun v d a => a.kl (Kl.up e)) q) (hv.kl (Kl.up e))
    · rcases List.mem_cons.mp hs' with z | z
      · rw [z, List.length_append]
        show s.length + 1 ≤ k + 1
        omega
      · exact Nat.le_succ_of_le (h.li s' (List.mem_cons_of_mem _ z))
theorem RS.pop {H H5 : Hp} {P p p2 : Addr} {ps : List Addr} {s t : List Dt} {r : List (List Dt)} {k : Nat} (h : RS H P (p :: p2 :: ps) (s :: t :: r) k H5) : ∃ vs, (upd H5 P (.lst ((p2 :: ps).reverse.map V.ref))) p = some (.lst vs) ∧ Paired (At (upd H5 P (.lst ((p2 :: ps).reverse.map V.ref)))) vs s ∧ RS H P (p2 :: ps) (t :: r) k (upd H5 P (.lst ((p2 :: ps).reverse.map V.ref))) := by
  have hq := h.q
  cases hq with
  | cons a b =>
    obtain ⟨vs, e, q⟩ := a
    have nd := List.nodup_cons.mp h.nd
    have nP : p ≠ P := fun z => h.np (by rw [z]; simp)
    refine ⟨vs, by rw [upd_ne nP]; exact e, Paired.imp (fun v d a => a.kl (Kl.up h.p)) q, fun b o eb => ?_, upd_same, q_up h.p (fun z => h.np (List.mem_cons_of_mem _ z)) b, nd.2, fun z => h.np (List.mem_cons_of_mem _ z), h.hP, fun x hx => h.hn x (List.mem_cons_of_mem _ hx), by have := h.ln; simp only [List.length_cons] at this ⊢; omega, fun x hx => h.li x (List.mem_cons_of_mem _ hx)⟩
    rw [upd_ne (ne_of_none eb h.hP)]
    exact h.s _ _ eb
theorem take_while_len (p : Nat → Bool) (l : List Nat) : l.take (runL p l) = l.takeWhile p := by
  unfold runL
  exact (List.prefix_iff_eq_take.mp (List.takeWhile_prefix p)).symm
theorem tw_all {p : Nat → Bool} : ∀ {l : List Nat}, ∀ c ∈ l.takeWhile p, p c = true
  | [], c, h => by cases h
  | x :: l, c, h => by
    by_cases hx : p x = true
    · rw [List.takeWhile_cons_of_pos hx] at h
      rcases List.mem_cons.mp h with rfl | h
      · exact hx
      · exact tw_all c h
    · rw [List.takeWhile_cons_of_neg hx] at h
      cases h
theorem dg_all {l : List Nat} (h : ∀ c ∈ l, dg c = true) : AllDigits l := fun c hc => by
  have := h c hc
  unfold dg at this
  obtain ⟨a, b⟩ := Bool.and_eq_true_iff.mp this
  exact ⟨of_decide_eq_true a, of_decide_eq_true b⟩
theorem nend_form {l : List Nat} {s : Nat} (h : (nend l s).2 = true) : s < (nend l s).1 ∧ (nend l s).1 ≤ l.length ∧ AllDigits (cutL l s (nend l s).1) ∧ cutL l s (nend l s).1 ≠ [] := by
  unfold nend at h ⊢
  cases e : l[s]? with
  | none => rw [e] at h; cases h
  | some d =>
    rw [e] at h
    dsimp only at h ⊢
    by_cases y : dg1 d = true
    · rw [if_pos y]
      dsimp only
      have hs : s < l.length := (List.getElem?_eq_some_iff.mp e).1
      have hd : dg d = true := by
        unfold dg1 at y
        obtain ⟨a, b⟩ := Bool.and_eq_true_iff.mp y
        have a := of_decide_eq_true a
        unfold dg
        rw [b, decide_eq_true (show 48 ≤ d by omega)]
        rfl
      have r1 := (run_step (p := dg) (l := l.drop s) (i := 0) (c := d) (Nat.zero_le _) (by rw [drop_at, Nat.add_zero]; exact e)).mp hd
      have rl := run_le dg (l.drop s)
      rw [List.length_drop] at rl
      have ec : cutL l s (s + runL dg (l.drop s)) = (l.drop s).takeWhile dg := by
        unfold cutL
        rw [Nat.add_sub_cancel_left, take_while_len]
      refine ⟨by omega, by omega, ?_, ?_⟩
      · rw [ec]
        exact dg_all tw_all
      · rw [ec]
        intro z
        unfold runL at r1
        rw [z] at r1
        exact absurd r1 (by decide)
    · rw [if_neg y] at h
      cases h
theorem lend_form {l : List Nat} {k : Nat} (hk : k < l.length) (h : (lend l k).2 = true) (h3 : (lend l k).1 ≤ k + 300) : k < (lend l k).1 ∧ (lend l k).1 ≤ l.length ∧ LfT (cutL l k (lend l k).1) := by
  obtain ⟨c, hc⟩ : ∃ c, l[k]? = some c := ⟨_, List.getElem?_eq_getElem hk⟩
  have le : lend l k = (if sm1 c = true then (k + min 12 (runL sm1 (l.drop k)), true) else if c = 48 then (k + 1, true) else nend l (if c = 45 then k + 1 else k)) := by
    unfold lend
    rw [hc]
  have ed : l.drop k = c :: l.drop (k + 1) := by
    rw [List.drop_eq_getElem_cons hk]
    rw [List.getElem?_eq_getElem hk] at hc
    rw [Option.some.inj hc]
  have clen : ∀ e, e ≤ k + 300 → (cutL l k e).length ≤ 300 := fun e he => by
    unfold cutL
    rw [List.length_take]
    omega
  by_cases a : sm1 c = true
  · rw [if_pos a] at le
    rw [le] at h3 ⊢
    dsimp only at h3 ⊢
    have rl := run_le sm1 (l.drop k)
    rw [List.length_drop] at rl
    have r1 := (run_step (p := sm1) (l := l.drop k) (i := 0) (c := c) (Nat.zero_le _) (by rw [drop_at, Nat.add_zero]; exact hc)).mp a
    refine ⟨by omega, by omega, clen _ h3, .inl ?_⟩
    unfold cutL
    rw [Nat.add_sub_cancel_left]
    refine List.all_eq_true.mpr fun x hx => ?_
    have : x ∈ (l.drop k).take (runL sm1 (l.drop k)) := List.mem_of_mem_take (i := min 12 (runL sm1 (l.drop k))) (by
      rw [List.take_take, Nat.min_eq_left (Nat.min_le_right _ _)]
      exact hx)
    rw [take_while_len] at this
    exact tw_all x this
  rw [if_neg a] at le
  by_cases b : c = 48
  · rw [if_pos b] at le
    rw [le]
    dsimp only
    refine ⟨by omega, by omega, clen _ (by omega), .inr ⟨[48], fun x hx => ?_, by decide, .inl ?_⟩⟩
    · rw [List.mem_singleton.mp hx]
      exact ⟨by decide, by decide⟩
    · unfold cutL
      rw [Nat.add_sub_cancel_left, ed, b]
      rfl
  rw [if_neg b] at le
  rw [le] at h h3 ⊢
  by_cases m : c = 45
  · rw [if_pos m] at h h3 ⊢
    obtain ⟨x1, x2, x3, x4⟩ := nend_form h
    refine ⟨by omega, x2, clen _ h3, .inr ⟨_, x3, x4, .inr ?_⟩⟩
    unfold cutL
    rw [ed, m, show (nend l (k + 1)).1 - k = ((nend l (k + 1)).1 - (k + 1)) + 1 by omega, List.take_succ_cons]
  · rw [if_neg m] at h h3 ⊢
    obtain ⟨x1, x2, x3, x4⟩ := nend_form h
    exact ⟨x1, x2, clen _ h3, .inr ⟨_, x3, x4, .inl rfl⟩⟩
end Ind

set_option Elab.async false
set_option linter.all false
set_option maxRecDepth 100000
set_option maxHeartbeats 4000000
namespace Ind
open PySem PySem.Spec PyProof.Rows L2 SX NumText TL
open Builtin.Int (intBits)
theorem rev_last (p : Addr) (ps : List Addr) : ((p :: ps).reverse.map V.ref)[((p :: ps).reverse.map V.ref).length - 1]? = some (V.ref p) := by
  rw [List.reverse_cons, List.map_append, List.length_append]
  show _[(ps.reverse.map V.ref).length + 1 - 1]? = _
  rw [Nat.add_sub_cancel, List.getElem?_append_right (Nat.le_refl _), Nat.sub_self]
  rfl
theorem rev_drop (p : Addr) (ps : List Addr) : ((p :: ps).reverse.map V.ref).dropLast = ps.reverse.map V.ref := by
  rw [List.reverse_cons, List.map_append]
  exact List.dropLast_concat
theorem rev_at (p : Addr) (ps : List Addr) : atI ((p :: ps).reverse.map V.ref) (-1) = some (V.ref p) := by
  rw [List.reverse_cons, List.map_append]
  exact atI_last _ _
theorem at0 (x : V) (xs : List V) : atI (x :: xs) 0 = some x := by
  unfold atI ixN
  rw [if_pos (by decide), if_pos (by simp)]
  rfl
theorem big {n : Nat} (h : n ≤ 300000) : n < sizeLine := Nat.lt_of_le_of_lt h (by decide)
theorem pl_b : decide (V.str (plS .behind) = V.str (Str.ofString "behind")) = true := by decide +kernel
theorem pl_nb {p : Plc} (h : p ≠ .behind) : decide (V.str (plS p) = V.str (Str.ofString "behind")) = false := by
  cases p with
  | item => decide +kernel
  | first => decide +kernel
  | behind => exact absurd rfl h
theorem pl_f : decide (V.str (plS .first) = V.str (Str.ofString "first")) = true := by decide +kernel
theorem pl_nf {p : Plc} (h : p ≠ .first) : decide (V.str (plS p) = V.str (Str.ofString "first")) = false := by
  cases p with
  | item => decide +kernel
  | first => exact absurd rfl h
  | behind => decide +kernel
theorem e40 : (Str.ofString "(") = ⟨#[40]⟩ := by decide +kernel
theorem e41 : (Str.ofString ")") = ⟨#[41]⟩ := by decide +kernel
theorem cut_nat2 (l : List Nat) {a b : Nat} (hab : a ≤ b) (hb : b ≤ l.length) : cutS (S l) (some (a : Int)) (some (b : Int)) = S (cutL l a b) := cut_nat l hab hb
section
variable {P0 : Program} {w : World} {K : PySem.W.Frag} {mg : Str → Option Value} {base : Heap} {Nt fN : Addr} {fdN : FuncData}
abbrev nRd : List Str := ["text", "pending", "place", "at", "here", "end", "items"]
theorem scRd : FnScope nRd ["text"] (defScope sRd) := ⟨rfl, rfl, rfl, by decide +kernel, rfl, by decide +kernel, by decide +kernel⟩
theorem ok_rd {f fB fE fL : Addr} {fd fdB fdE fdL : FuncData} (F : Fun K "read_data" "read_data" sRd f fd) (T : TxL K mg) (D : TxD mg) (N : NtC P0 w K mg base Nt fN fdN) (GB : Cl P0 w K mg base (L2.CX P0 w) 3 "place_behind" fB fdB ["here", "at", "pending"] (spPb Nt)) (GE : Cl P0 w K mg base (L2.CX P0 w) 3 "leaf_end" fE fdE ["text", "at"] (spLe Nt)) (GL : Cl P0 w K mg base CX0 2 "leaf_of" fL fdL ["text"] spLo) : FnOk P0 w K mg base (L2.CX P0 w) 4 f fd ["text"] (spRd Nt) := by
  refine F.okX scRd (fun vs H Q E h => ?_) (fun cdv A outer s H vs Q E hr h => ?_)
  · rcases h with ⟨l, o, rfl, _⟩ | ⟨v, d, rfl, _⟩ <;> rfl
  · obtain ⟨vD, gD, rD⟩ := D.dep
    have h2 := hr.mono (show 2 ≤ 3 by decide)
    refine ⟨_, pss_cons (ps_if (pt_not (pt_val (pe_callB call_isi (by rfl) T.isinstance (by decide +kernel) (pa_cons (pv 0) (pa_cons (pe_bltn (v := .ty "str") (by rfl) D.str (by decide +kernel) rfl) pa_nil)))))
        (pss_one (ps_raise rfl (takes_of rfl rfl rfl rfl) (pmk_oex N.T N.iC N.tI N.fn h2 N.b .nil pass0 (by rfl) N.g (pa_cons pe_int pa_nil))))
        pss_nil)
      (pss_cons (ps_set (i := 1) scRd.nd rfl (Or.inl rfl) (pe_lst (pa_cons (pe_lst pa_nil) pa_nil)))
      (pss_cons (ps_set (i := 2) scRd.nd rfl (Or.inl rfl) pe_str)
      (pss_cons (ps_set (i := 3) scRd.nd rfl (Or.inl rfl) pe_int)
      (pss_cons (ps_while (passes_of rfl) (pt_cmpR op_lt (pv 3) (pe_callB call_len_str (by rfl) T.len PySem.boot_len (pa_cons (pv 0) pa_nil)) (nomark _))
        (pss_cons (ps_set (i := 4) scRd.nd rfl (Or.inl rfl) (pe_ix ix_str (pv 0) (pv 3) fun _ _ => rfl))
      (pss_cons (ps_if (pt_cmpR op_eq (pv 2) pe_str (nomark _))
        (pss_one (ps_set (i := 2) scRd.nd rfl (Or.inl rfl) (pe_call (E := E) GB.fn hr (by rfl) GB.g GB.kp GB.b .nil (passes_call (takes_of rfl rfl rfl rfl) fun _ _ _ _ h => h) (pa_cons (pv 4) (pa_cons (pv 3) (pa_cons (pv 1) pa_nil))))))
        (pss_one (ps_if (PW.pt (pw_and (pt_cmpR op_eq (pv 4) pe_str (nomark _)) (pw_and1 (pt_cmpR op_le (pe_callB call_len_seq (by rfl) T.len PySem.boot_len (pa_cons (pv 1) pa_nil)) (pe_glob rfl gD rD) (nomark _)))))
        (pss_cons (ps_expr (pe_bm PySem.F.plainAttrs_list PySem.F.slot_list_append PySem.F.type_list_append mt_append (pv 1) (pa_cons (pe_lst pa_nil) pa_nil)))
      (pss_one (ps_set (i := 2) scRd.nd rfl (Or.inl rfl) pe_str)))
        (pss_one (ps_if (PW.pt (pw_and (pt_cmpR op_eq (pv 4) pe_str (nomark _)) (pw_and1 (pt_cmpR op_eq (pv 2) pe_str (nomark _)))))
        (pss_one (ps_set (i := 2) scRd.nd rfl (Or.inl rfl) pe_str))
        (pss_cons (ps_set (i := 5) scRd.nd rfl (Or.inl rfl) (pe_call (E := E) GE.fn hr (by rfl) GE.g GE.kp GE.b .nil (passes_call (takes_of rfl rfl rfl rfl) fun _ _ _ _ h => h) (pa_cons (pv 0) (pa_cons (pv 3) pa_nil))))
      (pss_cons (ps_expr (pe_bm PySem.F.plainAttrs_list PySem.F.slot_list_append PySem.F.type_list_append mt_append (pe_ix ix_list (pv 1) (pe_un un_neg pe_int) fun _ _ => rfl) (pa_cons (pe_call (E := E0) GL.fn h2 (by rfl) GL.g GL.kp GL.b .nil pass0 (pa_cons (pe_slice sl_str (pv 0) (po_some (pv 3)) (po_some (pv 5))) pa_nil)) pa_nil)))
      (pss_cons (ps_set (i := 2) scRd.nd rfl (Or.inl rfl) pe_str)
      (pss_one (ps_set (i := 3) scRd.nd rfl (Or.inl rfl) (pe_op op_sub (pv 5) pe_int)))))))))))
      (pss_cons (ps_if (pt_cmpR op_eq (pv 4) pe_str (nomark _))
        (pss_cons (ps_set (i := 6) scRd.nd rfl (Or.inl rfl) (pe_bm0 PySem.F.plainAttrs_list PySem.F.slot_list_pop PySem.F.type_list_pop mt_pop (pv 1)))
      (pss_one (ps_expr (pe_bm PySem.F.plainAttrs_list PySem.F.slot_list_append PySem.F.type_list_append mt_append (pe_ix ix_list (pv 1) (pe_un un_neg pe_int) fun _ _ => rfl) (pa_cons (pe_callTy call_tuple_of (by rfl) D.tuple (by decide +kernel) (pa_cons (pv 6) pa_nil)) pa_nil)))))
        pss_nil)
      (pss_one (ps_set (i := 3) scRd.nd rfl (Or.inl rfl) (pe_op op_add (pv 3) pe_int)))))))
      (pss_cons (ps_if (PW.pt (pw_or (pt_cmpR op_ne (pv 2) pe_str (nomark _)) (pw_or1 (pt_cmpR op_gt (pe_callB call_len_seq (by rfl) T.len PySem.boot_len (pa_cons (pv 1) pa_nil)) pe_int (nomark _)))))
        (pss_one (ps_raise rfl (takes_of rfl rfl rfl rfl) (pmk_oex N.T N.iC N.tI N.fn h2 N.b .nil pass0 (by rfl) N.g (pa_cons (pe_callB call_len_str (by rfl) T.len PySem.boot_len (pa_cons (pv 0) pa_nil)) pa_nil))))
        pss_nil)
      (pss_one (ps_ret (pe_ix ix_list (pe_ix ix_list (pv 1) pe_int fun _ _ => rfl) pe_int fun _ _ => rfl)))))))), ?_⟩
    rcases h with ⟨l, o, rfl, hl, hR0, kE, kQ⟩ | ⟨v, d, rfl, hv, hs, kE⟩
    rotate_left
    · have hk : PySem.W.kitOne K (tyD d) (.type "str") = some false := by
        cases d with
        | wrd l => cases hs
        | num n => exact kit_ty (by decide +kernel)
        | tup ds => exact kit_ty (by decide +kernel)
        | bl b => exact kit_ty (by decide +kernel)
        | non => exact kit_ty (by decide +kernel)
        | ls => exact kit_ty (by decide +kernel)
      exact ⟨_, rfl, _, _, _, _, false, rfl, ClsV.ty "str", hv.ty, hk, false, rfl, iteT ⟨(by show 1 ≤ 1000; decide), ntx_raise (E := E) (n := 0) (by decide) same_rfl kE⟩⟩
    have hz : (S l).length ≤ sizeLine := S_le (n := 200000) hl
    refine ⟨_, rfl, _, _, _, _, true, rfl, ClsV.ty "str", .base (.str _), kit_ty (by decide +kernel), true, rfl, iteF ⟨Nat.zero_le _, fun p0 hp0 => ⟨(by show 1 ≤ sizeLine; decide), fun P hP => ?_⟩⟩⟩
    have s1 := same_upd (o := .lst []) hp0
    have s2 := same_upd (o := .lst [V.ref p0]) hP
    have hPH : H P = none := by
      cases e : H P with
      | none => rfl
      | some o => rw [s1 _ _ e] at hP; cases hP
    have ne0 : p0 ≠ P := fun z => by rw [← z, upd_same] at hP; cases hP
    have R0 : RS H P [p0] [[]] 0 (upd (upd H p0 (.lst [])) P (.lst [V.ref p0])) := ⟨s1.trans s2, upd_same, .cons ⟨[], by rw [upd_ne ne0, upd_same], .nil⟩ .nil, List.nodup_cons.mpr ⟨by simp, List.nodup_nil⟩, fun z => ne0 (List.mem_singleton.mp z).symm, hPH, fun p hp => by rw [List.mem_singleton.mp hp]; exact hp0, Nat.le_refl _, fun s hs => by rw [List.mem_singleton.mp hs]; exact Nat.le_refl _⟩
    generalize upd (upd H p0 (.lst [])) P (.lst [V.ref p0]) = H2 at R0 ⊢
    clear s1 s2 hP hPH ne0 hp0
    refine ⟨fun n σ H5 => ∃ (k : Nat) (p : Plc) (stk : List (List Dt)) (ps : List Addr) (v4 v5 v6 : Option V), n = l.length - k ∧ k ≤ l.length ∧ σ = [some (.str (S l)), some (.ref P), some (.str (plS p)), some (.int (k : Int)), v4, v5, v6] ∧ Rn l k p stk o ∧ RS H P ps stk k H5, ⟨_, 0, .item, [[]], [p0], none, none, none, rfl, Nat.zero_le _, rfl, hR0, R0⟩, ?_⟩
    rintro n σ H5 ⟨k, p, stk, ps, v4, v5, v6, rfl, hk, rfl, hR, hS⟩
    have hlen : (ps.reverse.map V.ref).length = stk.length := by rw [List.length_map, List.length_reverse, hS.q.length]
    refine ⟨_, rfl, _, rfl, S l, rfl, hz, _, _, rfl, rfl, _, rfl, ?_⟩
    rw [S_len]
    by_cases hkl : k < l.length
    · rw [show decide (((k : Nat) : Int) < ((l.length : Nat) : Int)) = true from decide_eq_true (by omega)]
      obtain ⟨c, hc⟩ : ∃ c, l[k]? = some c := ⟨_, List.getElem?_eq_getElem hkl⟩
      refine iteT ⟨fun σ' H' => ∃ (k' : Nat) (p : Plc) (stk : List (List Dt)) (ps : List Addr) (v4 v5 v6 : Option V), k < k' ∧ k' ≤ l.length ∧ σ' = [some (.str (S l)), some (.ref P), some (.str (plS p)), some (.int (k' : Int)), v4, v5, v6] ∧ Rn l k' p stk o ∧ RS H P ps stk k' H', fun σ' H' ⟨k', p, stk, ps, v4, v5, v6, h1, h2, e, r, q⟩ => ⟨l.length - k', by omega, k', p, stk, ps, v4, v5, v6, rfl, h2, e, r, q⟩, ?_⟩
      refine ⟨_, rfl, _, rfl, S l, _, c, rfl, rfl, hz, atI_S hc, _, rfl, rfl, _, rfl, ?_⟩
      have kl9 : k < 10 ^ 9 := by omega
      cases hR with
      | stop => exact absurd hkl (Nat.lt_irrefl _)
      | fail h h2 => exact absurd hkl (by omega)
      | bErr h h2 =>
        have ec := Option.some.inj (h.symm.trans hc)
        subst ec
        rw [pl_b]
        refine iteT ⟨_, rfl, _, rfl, _, rfl, _, k, P, _, rfl, hS.p, kl9, fun _ => (kE k rfl).same hS.s, fun n1 e => ?_, fun n1 e => ?_⟩
        · rw [hlen] at n1
          omega
        · rw [hlen] at n1
          omega
      | bSp h h2 n =>
        have ec := Option.some.inj (h.symm.trans hc)
        subst ec
        rw [pl_b]
        refine iteT ⟨_, rfl, _, rfl, _, rfl, _, k, P, _, rfl, hS.p, kl9, fun e => ?_, fun _ _ H6 s6 => ?_, fun _ e => absurd e (by decide)⟩
        · rw [hlen] at e
          omega
        refine ⟨_, rfl, rfl, _, rfl, ?_⟩
        rw [e41, dec_one]
        exact iteF ⟨_, rfl, _, _, rfl, rfl, ⟨k + 1, .item, _, ps, _, _, _, by omega, by omega, rfl, n, (hS.same s6).up⟩⟩
      | bCl h n =>
        rename_i s3 t3 r3
        have ec := Option.some.inj (h.symm.trans hc)
        subst ec
        rw [pl_b]
        refine iteT ⟨_, rfl, _, rfl, _, rfl, _, k, P, _, rfl, hS.p, kl9, fun e => ?_, fun _ e => absurd e (by decide), fun _ _ H6 s6 => ?_⟩
        · rw [hlen] at e
          simp only [List.length_cons] at e
          omega
        refine ⟨_, rfl, rfl, _, rfl, ?_⟩
        rw [e41, dec_one]
        have hS := hS.same s6
        -- a tuple is closed
        obtain ⟨p1, p2, ps2, rfl⟩ : ∃ p1 p2 ps2, ps = p1 :: p2 :: ps2 := by
          have := hS.q.length
          match ps, this with
          | p1 :: p2 :: ps2, _ => exact ⟨p1, p2, ps2, rfl⟩
        refine iteT ⟨_, rfl, .inl ⟨rfl, _, SqL.of hS.p⟩, P, _, V.ref p1, rfl, rfl, hS.p, rev_last _ _, ?_⟩
        rw [rev_drop]
        obtain ⟨vs, e1, q1, hS2⟩ := hS.pop
        obtain ⟨_, _, vs0, e0, _⟩ := Paired.at hS2.q (i := 0) (x := p2) rfl
        refine ⟨_, rfl, _, rfl, P, _, _, V.ref p2, rfl, rfl, SqL.of hS2.p, rev_at _ _, .inl ⟨rfl, _, SqL.of e0⟩, _, rfl, p1, vs, rfl, .inl ⟨SqL.of e1, fun t ht => ?_⟩⟩
        have s7 := same_upd (o := .tup vs) ht
        have hat : At (upd (upd H6 P (.lst ((p2 :: ps2).reverse.map V.ref))) t (.tup vs)) (.ref t) (.tup (Dl.ofL s3)) := by
          unfold At
          exact ⟨t, vs, rfl, upd_same, all_of (Paired.imp (fun v d a => a.same s7) q1)⟩
        obtain ⟨vs2, e2, l2, hS4⟩ := (hS2.same s7).add hat
        refine ⟨p2, vs2, _, rfl, rfl, e2, big (by omega), ⟨_, rfl, _, _, rfl, rfl, ?_⟩⟩
        exact ⟨k + 1, .behind, _, p2 :: ps2, _, _, _, by omega, by omega, rfl, n, hS4⟩
      | opn h hp h2 n =>
        have ec := Option.some.inj (h.symm.trans hc)
        subst ec
        rw [pl_nb hp]
        refine iteF ⟨_, rfl, rfl, _, rfl, ?_⟩
        rw [e40, dec_one]
        refine iteT ⟨_, rfl, P, _, rfl, .inl (SqL.of hS.p), _, _, rfl, rfl, _, rfl, ?_⟩
        rw [hlen, show decide (((stk.length : Nat) : Int) ≤ 60) = true from decide_eq_true (by omega)]
        refine iteT ⟨_, rfl, .inl ⟨rfl, _, SqL.of hS.p⟩, Nat.zero_le _, fun D3 hD3 => ?_⟩
        obtain ⟨e6, hS6⟩ := hS.push hD3
        refine ⟨P, _, _, rfl, rfl, e6, by rw [hlen]; exact big (by omega), ⟨_, rfl, rfl, _, rfl, ?_⟩⟩
        rw [e41, dec_one]
        exact iteF ⟨_, rfl, _, _, rfl, rfl, ⟨k + 1, .first, _, _, _, _, _, by omega, by omega, rfl, n, hS6⟩⟩
      | cls h n =>
        rename_i s3 t3 r3
        have ec := Option.some.inj (h.symm.trans hc)
        subst ec
        rw [pl_nb (by intro z; cases z)]
        refine iteF ⟨_, rfl, rfl, _, rfl, ?_⟩
        rw [e40, dec_one]
        refine iteF ⟨_, rfl, rfl, _, rfl, ?_⟩
        rw [e41, dec_one]
        refine iteT ⟨_, rfl, rfl, _, rfl, ?_⟩
        rw [pl_f]
        refine iteT ⟨_, rfl, rfl, _, rfl, ?_⟩
        rw [dec_one]
        -- a tuple is closed
        obtain ⟨p1, p2, ps2, rfl⟩ : ∃ p1 p2 ps2, ps = p1 :: p2 :: ps2 := by
          have := hS.q.length
          match ps, this with
          | p1 :: p2 :: ps2, _ => exact ⟨p1, p2, ps2, rfl⟩
        refine iteT ⟨_, rfl, .inl ⟨rfl, _, SqL.of hS.p⟩, P, _, V.ref p1, rfl, rfl, hS.p, rev_last _ _, ?_⟩
        rw [rev_drop]
        obtain ⟨vs, e1, q1, hS2⟩ := hS.pop
        obtain ⟨_, _, vs0, e0, _⟩ := Paired.at hS2.q (i := 0) (x := p2) rfl
        refine ⟨_, rfl, _, rfl, P, _, _, V.ref p2, rfl, rfl, SqL.of hS2.p, rev_at _ _, .inl ⟨rfl, _, SqL.of e0⟩, _, rfl, p1, vs, rfl, .inl ⟨SqL.of e1, fun t ht => ?_⟩⟩
        have s7 := same_upd (o := .tup vs) ht
        have hat : At (upd (upd H5 P (.lst ((p2 :: ps2).reverse.map V.ref))) t (.tup vs)) (.ref t) (.tup (Dl.ofL s3)) := by
          unfold At
          exact ⟨t, vs, rfl, upd_same, all_of (Paired.imp (fun v d a => a.same s7) q1)⟩
        obtain ⟨vs2, e2, l2, hS4⟩ := (hS2.same s7).add hat
        refine ⟨p2, vs2, _, rfl, rfl, e2, big (by omega), ⟨_, rfl, _, _, rfl, rfl, ?_⟩⟩
        exact ⟨k + 1, .behind, _, p2 :: ps2, _, _, _, by omega, by omega, rfl, n, hS4⟩
      | lfE h hp h2 h3 h4 =>
        have ec := Option.some.inj (h.symm.trans hc)
        subst ec
        rename_i c0
        rw [pl_nb hp]
        refine iteF ⟨_, rfl, rfl, _, rfl, ?_⟩
        rw [e40, dec_one]
        have s5 := hS.s
        by_cases y40 : c0 = 40
        · rw [decide_eq_true y40]
          refine iteT ⟨_, rfl, P, _, rfl, .inl (SqL.of hS.p), _, _, rfl, rfl, _, rfl, ?_⟩
          rw [hlen, show decide (((stk.length : Nat) : Int) ≤ 60) = false from decide_eq_false (fun z => h2 ⟨y40, by omega⟩)]
          refine iteF ⟨_, rfl, rfl, _, rfl, ?_⟩
          rw [e41, dec_one, decide_eq_false (show ¬ c0 = 41 by omega)]
          exact iteF (iteF ⟨_, rfl, _, rfl, l, k, rfl, hkl, hl, fun _ => (kE _ rfl).same s5, fun e => by rw [h4] at e; cases e⟩)
        · rw [decide_eq_false y40]
          refine iteF (iteF ⟨_, rfl, rfl, _, rfl, ?_⟩)
          rw [e41, dec_one]
          by_cases y41 : c0 = 41
          · rw [decide_eq_true y41]
            refine iteT ⟨_, rfl, rfl, _, rfl, ?_⟩
            rw [pl_nf (fun z => h3 ⟨y41, z⟩)]
            exact iteF ⟨_, rfl, _, rfl, l, k, rfl, hkl, hl, fun _ => (kE _ rfl).same s5, fun e => by rw [h4] at e; cases e⟩
          · rw [decide_eq_false y41]
            exact iteF (iteF ⟨_, rfl, _, rfl, l, k, rfl, hkl, hl, fun _ => (kE _ rfl).same s5, fun e => by rw [h4] at e; cases e⟩)
      | lf h hp h2 h3 h4 h5 n =>
        have ec := Option.some.inj (h.symm.trans hc)
        subst ec
        rename_i c0 s3 r3
        rw [pl_nb hp]
        refine iteF ⟨_, rfl, rfl, _, rfl, ?_⟩
        rw [e40, dec_one, decide_eq_false h2]
        refine iteF (iteF ⟨_, rfl, rfl, _, rfl, ?_⟩)
        rw [e41, dec_one, decide_eq_false h3]
        obtain ⟨p1, ps1, rfl⟩ : ∃ p1 ps1, ps = p1 :: ps1 := by
          have := hS.q.length
          match ps, this with
          | p1 :: ps1, _ => exact ⟨p1, ps1, rfl⟩
        obtain ⟨q1, q2, q3⟩ := lend_form hkl h4 h5
        refine iteF (iteF ⟨_, rfl, _, rfl, l, k, rfl, hkl, hl, fun z => (by rw [h4] at z; cases z), fun _ => ?_⟩)
        generalize (lend l k).1 = e at h5 n q1 q2 q3 ⊢
        refine ⟨_, rfl, _, rfl, P, _, _, V.ref p1, rfl, rfl, SqL.of hS.p, rev_at _ _, ?_⟩
        obtain ⟨_, _, vs0, e0, _⟩ := Paired.at hS.q (i := 0) (x := p1) rfl
        refine ⟨.inl ⟨rfl, _, SqL.of e0⟩, ⟨_, rfl, _, rfl, _, rfl, _, rfl, _, rfl, S l, rfl, hz, ?_⟩⟩
        rw [cut_nat2 l (Nat.le_of_lt q1) q2]
        refine ⟨_, rfl, q3, fun H6 v s6 hv => ?_⟩
        obtain ⟨vs, e1, e2, hS7⟩ := (hS.same s6).add hv
        refine ⟨p1, vs, _, rfl, rfl, e1, big (by omega), ⟨_, rfl, _, _, rfl, rfl, ?_⟩⟩
        refine ⟨_, rfl, rfl, _, rfl, ?_⟩
        rw [dec_one, decide_eq_false h3]
        refine iteF ⟨_, rfl, _, _, rfl, rfl, ⟨e, .behind, _, p1 :: ps1, some (.str ⟨#[c0]⟩), some (.int (e : Int)), v6, q1, q2, ?_, n, hS7.upn q1⟩⟩
        show [_, _, _, some (V.int ((e : Int) - 1 + 1)), _, _, _] = _
        rw [Int.sub_add_cancel]
        rfl
    · have ek : k = l.length := by omega
      subst ek
      rw [decide_eq_false (fun z => hkl (by omega))]
      refine iteF ?_
      have no : ∀ {c : Nat}, l[l.length]? = some c → False := fun {c} z => hkl (List.getElem?_eq_some_iff.mp z).1
      have hkn : l.length < 10 ^ 9 := by omega
      cases hR with
      | bErr h _ => exact (no h).elim
      | bSp h _ _ => exact (no h).elim
      | bCl h _ => exact (no h).elim
      | opn h _ _ _ => exact (no h).elim
      | cls h _ => exact (no h).elim
      | lfE h _ _ _ _ => exact (no h).elim
      | lf h _ _ _ _ _ _ => exact (no h).elim
      | fail h h2 =>
        by_cases hp : p = .behind
        · subst hp
          have h3 : 1 < stk.length := by
            rcases h2 with h2 | h2
            · exact absurd rfl h2
            · exact h2
          refine ⟨_, rfl, rfl, _, rfl, ?_⟩
          rw [pl_b]
          refine iteF ⟨_, rfl, P, _, rfl, .inl (SqL.of hS.p), _, _, rfl, rfl, _, rfl, ?_⟩
          rw [hlen, show decide ((1 : Int) < ((stk.length : Nat) : Int)) = true from decide_eq_true (by omega)]
          exact iteT ⟨_, rfl, S l, rfl, hz, by rw [S_len]; exact ⟨(by show 1 ≤ 1000; decide), ntx_raise (E := E) hkn same_rfl ((kE _ rfl).same hS.s)⟩⟩
        · refine ⟨_, rfl, rfl, _, rfl, ?_⟩
          rw [pl_nb hp]
          exact iteT (iteT ⟨_, rfl, S l, rfl, hz, by rw [S_len]; exact ⟨(by show 1 ≤ 1000; decide), ntx_raise (E := E) hkn same_rfl ((kE _ rfl).same hS.s)⟩⟩)
      | stop =>
        rename_i d0 s0
        refine ⟨_, rfl, rfl, _, rfl, ?_⟩
        rw [pl_b]
        refine iteF ⟨_, rfl, P, _, rfl, .inl (SqL.of hS.p), _, _, rfl, rfl, _, rfl, ?_⟩
        rw [hlen, show decide ((1 : Int) < (([d0 :: s0].length : Nat) : Int)) = false from rfl]
        obtain ⟨p1, rfl⟩ : ∃ p1, ps = [p1] := by
          have := hS.q.length
          match ps, this with
          | [p1], _ => exact ⟨p1, rfl⟩
        obtain ⟨z, ez, vs0, e0, q0⟩ := Paired.at hS.q (i := 0) (x := p1) rfl
        have ez := Option.some.inj ez
        subst ez
        cases q0 with
        | cons a t =>
          exact iteF ⟨_, rfl, P, _, _, _, rfl, rfl, SqL.of hS.p, rfl, p1, _, _, _, rfl, rfl, SqL.of e0, at0 _ _, kQ _ rfl _ _ hS.s a⟩
end
end Ind

set_option Elab.async false
set_option linter.all false
set_option maxRecDepth 100000
set_option maxHeartbeats 4000000
namespace Ind
open PySem PySem.Spec PyProof.Rows L2 SX
open Builtin.Int (intBits)
abbrev sWd : Stmt := top 27
theorem join_S0 (ps : List (List Nat)) : Txt.join (Str.ofString "") (ps.map S) = S ps.flatten := by
  rw [show (Str.ofString "") = S [] by decide +kernel, join_S, joinL_nil]
theorem sum_len {ps : List (List Nat)} {n : Nat} (h : ∀ p ∈ ps, p.length ≤ n) : ((ps.map S).map (·.length)).sum ≤ ps.length * n := by
  induction ps with
  | nil => exact Nat.zero_le _
  | cons p ps ih =>
    rw [List.map_cons, List.map_cons, List.sum_cons, S_len, List.length_cons, Nat.add_mul, Nat.one_mul]
    have := ih fun q hq => h q (List.mem_cons_of_mem _ hq)
    have := h p (List.mem_cons_self ..)
    omega
/-- a word: two to twelve small letters -/
structure Wd (l : List Nat) : Prop where
  a : 2 ≤ l.length
  b : l.length ≤ 12
  s : smB l = true
def spWd : Sp := fun vs H Q _ => ∃ (r : Addr) (ds : List Int) (k : Nat), vs = [.ref r, .int k] ∧ H r = some (.lst (ds.map V.int)) ∧ k + 6 ≤ ds.length ∧ k ≤ 100 ∧ ∀ (H' : Hp) (l : List Nat), Same H H' → Wd l → Q (.str (S l)) H'
def alph : List Nat := (List.range 26).map fun i => 97 + i
theorem alph_at {i : Nat} (h : i < 26) : atI alph (i : Int) = some (97 + i) := atI_of (by
  unfold alph
  rw [List.getElem?_map, List.getElem?_range h]
  rfl)
theorem smB_app (a b : List Nat) : smB (a ++ b) = (smB a && smB b) := by
  unfold smB
  rw [List.all_append]
section
variable {P : Program} {w : World} {K : PySem.W.Frag} {mg : Str → Option Value} {base : Heap} {D cc cda Rf : Addr}
abbrev nWd : List Str := ["row", "at", "marks", "size", "k"]
theorem scWd : FnScope nWd ["row", "at"] (defScope sWd) := ⟨rfl, rfl, rfl, by decide +kernel, rfl, by decide +kernel, by decide +kernel⟩
theorem ok_wd {f : Addr} {fd : FuncData} (F : Fun K "_law_word" "_law_word" sWd f fd) (T : TxL K mg) : FnOk P w K mg base CX0 1 f fd ["row", "at"] spWd := by
  refine F.ok scWd (fun vs H Q E h => ?_) (fun cdv A outer s H vs Q E hr h => ?_)
  · obtain ⟨r, ds, k, rfl, _⟩ := h
    rfl
  · obtain ⟨r, ds, k, rfl, hR, hk, hk1, res⟩ := h
    refine ⟨_, pss_cons (ps_set (i := 2) scWd.nd rfl (Or.inr rfl) pe_str)
      (pss_cons (ps_set (i := 3) scWd.nd rfl (Or.inl rfl) (pe_op op_add (pe_op op_modN (pe_ix ix_list (pv 0) (pv 1) fun _ _ => rfl) pe_int) pe_int))
      (C8.pss_cut (ps_if (pt_cmpR op_eq (pe_op op_modN (pe_ix ix_list (pv 0) (pv 1) fun _ _ => rfl) pe_int) pe_int (nomark _)) (pss_one (ps_set (i := 3) scWd.nd rfl (Or.inl rfl) pe_int)) pss_nil)
      (pss_one (ps_ret (pe_join pe_str (pe_lc (own := [("k", 4)]) (g := gName 4) (tt := tYes) (te := tOp rIxS (tVar 2) (tOp (rI (fun _ j => j ≠ 0) fun i j => .int (i.fmod j)) (tOp (rIxL K) (tVar 0) (tOp (rI0 fun i j => .int (i + j)) (tOp (rI0 fun i j => .int (i + j)) (tVar 1) (tC (.int 1))) (tOp (rI (fun _ j => j ≠ 0) fun i j => .int (i.fmod j)) (tVar 4) (tC (.int 5))))) (tC (.int 26)))) rfl scWd.nd (pi_range1 (by rfl) T.range (pa_cons (pv 3) pa_nil)) (blkOk_by (N := nWd) (sc := defScope sWd) (by decide +kernel))
          (fun _ _ _ _ _ => pg_name (i := 4) scWd.nd rfl (Or.inl rfl)) (fun _ _ _ _ _ => pts_nil) (fun _ _ _ _ _ => pe_ix ix_str (pv 2) (pe_op op_modN (pe_ix ix_list (pv 0) (pe_op op_add (pe_op op_add (pv 1) pe_int) (pe_op op_modN (pv 4) pe_int)) fun _ _ => rfl) pe_int) fun _ _ => rfl))))))), ?_⟩
    have at_r : ∀ {j : Nat}, j < ds.length → ∃ x, atI (ds.map V.int) ((j : Nat) : Int) = some (.int x) := fun {j} hj =>
      ⟨_, atI_of (k := j) (by rw [List.getElem?_map, List.getElem?_eq_getElem hj]; rfl)⟩
    obtain ⟨x, hx⟩ := at_r (j := k) (by omega)
    have f4 := fmod_in (x := x) (b := 4) (by decide)
    refine ⟨_, rfl, _, rfl, r, _, _, _, rfl, rfl, SqL.of hR, hx, _, _, rfl, rfl, (by show (4 : Int) ≠ 0; decide), _, _, rfl, rfl, ?_⟩
    refine ⟨fun σ' H' => H' = H ∧ ∃ n : Nat, σ' = [some (.ref r), some (.int k), some (.str (Str.ofString "abcdefghijklmnopqrstuvwxyz")), some (.int n), none] ∧ 2 ≤ n ∧ n ≤ 12, ?_, ?_⟩
    · refine ⟨_, rfl, _, rfl, r, _, _, _, rfl, rfl, SqL.of hR, hx, _, _, rfl, rfl, (by show (31 : Int) ≠ 0; decide), rfl, _, rfl, ite2 (fun c => ?_) (fun c => ?_)⟩
      · exact ⟨rfl, 12, rfl, by decide, by decide⟩
      · refine ⟨rfl, (x.fmod 4).toNat + 2, ?_, by omega, by omega⟩
        have e : x.fmod 4 + 2 = (((x.fmod 4).toNat + 2 : Nat) : Int) := by omega
        rw [← e]
        rfl
    rintro σ' H' ⟨rfl, n, rfl, n2, n12⟩
    refine ⟨⟨_, rfl⟩, _, rfl, _, rfl, by omega, by omega, fun D hD => ?_⟩
    rw [Int.toNat_natCast]
    refine lc_range (lo := 0) (n := n) (fun i H2 => ∃ l : List Nat, ColV D H' H2 (l.map fun c => V.str (S [c])) ∧ l.length = i ∧ smB l = true) ⟨[], ColV.start hD, rfl, rfl⟩ ?_ ?_
    · rintro i H2 hi ⟨l, z, hl, hs⟩
      obtain ⟨j, hj⟩ : ∃ j : Nat, (0 + (i : Int)).fmod 5 = (j : Int) := ⟨((0 + (i : Int)).fmod 5).toNat, by have := fmod_in (x := 0 + (i : Int)) (b := 5) (by decide); omega⟩
      have j5 := fmod_in (x := 0 + (i : Int)) (b := 5) (by decide)
      rw [hj] at j5
      obtain ⟨y, hy⟩ := at_r (j := k + 1 + j) (by omega)
      have ey : ((k : Nat) : Int) + 1 + (j : Int) = ((k + 1 + j : Nat) : Int) := by omega
      obtain ⟨c, hc⟩ : ∃ c : Nat, y.fmod 26 = (c : Int) := ⟨(y.fmod 26).toNat, by have := fmod_in (x := y) (b := 26) (by decide); omega⟩
      have c26 := fmod_in (x := y) (b := 26) (by decide)
      rw [hc] at c26
      refine ⟨rfl, _, rfl, _, rfl, _, rfl, _, _, rfl, rfl, _, rfl, _, _, rfl, rfl, (by show (5 : Int) ≠ 0; decide), _, _, rfl, rfl, r, _, _, V.int y, rfl, rfl, SqL.of (z.s _ _ hR), (by rw [hj, ey]; exact hy), _, _, rfl, rfl, (by show (26 : Int) ≠ 0; decide), Str.ofString "abcdefghijklmnopqrstuvwxyz", _, 97 + c, rfl, rfl, (by decide +kernel), (by rw [hc]; rw [show (Str.ofString "abcdefghijklmnopqrstuvwxyz").cps.toList = alph by decide +kernel]; exact alph_at (by omega)), ?_⟩
      obtain ⟨acc, g1, g2, g3⟩ := z.push (v := V.str (S [97 + c])) hD same_rfl (by rw [List.length_map]; omega)
      refine ⟨acc, g1, g2, l ++ [97 + c], by rw [List.map_append]; exact g3, by rw [List.length_append, hl]; rfl, ?_⟩
      rw [smB_app, hs, Bool.true_and]
      unfold smB sm1
      simp
      omega
    · rintro H2 ⟨l, z, hl, hs⟩
      have e3 : (l.map fun c => V.str (S [c])) = ((l.map fun c => [c]).map S).map V.str := by
        rw [List.map_map, List.map_map]
        rfl
      rw [e3] at z
      refine ⟨_, D, _, rfl, rfl, .inl (SqL.of z.at_), ?_, ?_⟩
      · have h1 := sum_len (ps := l.map fun c => [c]) (n := 1) fun p hp => by
          obtain ⟨q, hq, rfl⟩ := List.mem_map.mp hp
          exact Nat.le_refl _
        rw [List.length_map] at h1
        rw [show (Str.ofString "").length = 0 by decide +kernel, Nat.mul_zero]
        omega
      · rw [join_S0, show (l.map fun c => [c]).flatten = l by
          clear z e3 hl hs
          induction l with
          | nil => rfl
          | cons a t ih => rw [List.map_cons, List.flatten_cons, ih]; rfl]
        exact res H2 l z.s ⟨by omega, by omega, hs⟩
end
end Ind

set_option Elab.async false
set_option linter.all false
set_option maxRecDepth 100000
set_option maxHeartbeats 4000000
namespace Ind
open PySem PySem.Spec PyProof.Rows L2 SX
open Builtin.Int (intBits)
open TL (numL numL_lt numL_step)
abbrev sLi : Stmt := top 26
abbrev sDg : Stmt := top 28
/-- the digits, none of zero -/
def numZ (m : Nat) : List Nat := if m = 0 then [] else numL m
theorem numZ_step {m : Nat} (h : 0 < m) : numZ m = numZ (m / 10) ++ [48 + m % 10] := by
  unfold numZ
  rw [if_neg (by omega)]
  by_cases h10 : m < 10
  · rw [if_pos (by omega), numL_lt h10, Nat.mod_eq_of_lt h10]
    rfl
  · rw [if_neg (by omega), numL_step (by omega)]
theorem digit_at {i : Nat} (h : i < 10) : atI (Str.ofString "0123456789").cps.toList (i : Int) = some (48 + i) := by
  rw [show (Str.ofString "0123456789").cps.toList = (List.range 10).map fun i => 48 + i by decide +kernel]
  exact atI_of (by rw [List.getElem?_map, List.getElem?_range h]; rfl)
section
variable {P : Program} {w : World} {K : PySem.W.Frag} {mg : Str → Option Value} {base : Heap}
theorem scLi : FnScope ["value"] ["value"] (defScope sLi) := ⟨rfl, rfl, rfl, by decide +kernel, rfl, by decide +kernel, by decide +kernel⟩
theorem ok_li {f : Addr} {fd : FuncData} (F : Fun K "_law_is_integer" "_law_is_integer" sLi f fd) (T : TxL K mg) : FnOk P w K mg base CX0 1 f fd ["value"] spIi := by
  refine F.ok scLi (fun vs H Q E h => ?_) (fun cdv A outer s H vs Q E hr h => ?_)
  · obtain ⟨v, d, rfl, _⟩ := h
    rfl
  · obtain ⟨v, d, rfl, hv, q⟩ := h
    refine ⟨_, pss_one (ps_ret (pe_and (pe_callB call_isi (by rfl) T.isinstance (by decide +kernel) (pa_cons (pv 0) (pa_cons (pe_bltn (v := .ty "int") (by rfl) T.int (by decide +kernel) rfl) pa_nil))) (pe_one (pe_not (pe_callB call_isi (by rfl) T.isinstance (by decide +kernel) (pa_cons (pv 0) (pa_cons (pe_bltn (v := .ty "bool") (by rfl) T.bool (by decide +kernel) rfl) pa_nil))))))), ?_⟩
    have ht := hv.ty (K := K)
    cases d with
    | num n => exact ⟨_, rfl, _, _, _, _, true, rfl, ClsV.ty "int", ht, kit_ty (by decide +kernel), true, rfl, iteT ⟨_, rfl, _, _, _, _, false, rfl, ClsV.ty "bool", ht, kit_ty (by decide +kernel), false, rfl, q⟩⟩
    | wrd l => exact ⟨_, rfl, _, _, _, _, false, rfl, ClsV.ty "int", ht, kit_ty (by decide +kernel), false, rfl, iteF q⟩
    | tup ds => exact ⟨_, rfl, _, _, _, _, false, rfl, ClsV.ty "int", ht, kit_ty (by decide +kernel), false, rfl, iteF q⟩
    | bl b => exact ⟨_, rfl, _, _, _, _, true, rfl, ClsV.ty "int", ht, kit_ty (by decide +kernel), true, rfl, iteT ⟨_, rfl, _, _, _, _, true, rfl, ClsV.ty "bool", ht, kit_ty (by decide +kernel), true, rfl, q⟩⟩
    | non => exact ⟨_, rfl, _, _, _, _, false, rfl, ClsV.ty "int", ht, kit_ty (by decide +kernel), false, rfl, iteF q⟩
    | ls => exact ⟨_, rfl, _, _, _, _, false, rfl, ClsV.ty "int", ht, kit_ty (by decide +kernel), false, rfl, iteF q⟩
abbrev nDg : List Str := ["n", "out", "rest"]
theorem scDg : FnScope nDg ["n"] (defScope sDg) := ⟨rfl, rfl, rfl, by decide +kernel, rfl, by decide +kernel, by decide +kernel⟩
theorem ok_dg {f : Addr} {fd : FuncData} (F : Fun K "_law_digits" "_law_digits" sDg f fd) (T : TxL K mg) : FnOk P w K mg base CX0 1 f fd ["n"] spDec := by
  refine F.ok scDg (fun vs H Q E h => ?_) (fun cdv A outer s H vs Q E hr h => ?_)
  · obtain ⟨n, rfl, _⟩ := h
    rfl
  · obtain ⟨n, rfl, hn, k⟩ := h
    refine ⟨_, pss_cons (ps_if (pt_cmpR op_eq (pv 0) pe_int (nomark _))
        (pss_one (ps_ret pe_str))
        pss_nil)
      (pss_cons (ps_set (i := 1) scDg.nd rfl (Or.inl rfl) (pe_lst pa_nil))
      (pss_cons (ps_set (i := 2) scDg.nd rfl (Or.inl rfl) (pe_callB call_abs (by rfl) T.abs (by decide +kernel) (pa_cons (pv 0) pa_nil)))
      (pss_cons (ps_while PassesOwn.never (pt_cmpR op_gt (pv 2) pe_int (nomark _))
        (pss_cons (ps_expr (pe_bm PySem.F.plainAttrs_list PySem.F.slot_list_append PySem.F.type_list_append mt_append (pv 1) (pa_cons (pe_ix ix_str pe_str (pe_op op_modN (pe_callTy call_int1 (by rfl) T.int (by decide +kernel) (pa_cons (pv 2) pa_nil)) pe_int) fun _ _ => rfl) pa_nil)))
      (pss_one (ps_set (i := 2) scDg.nd rfl (Or.inl rfl) (pe_op op_fdivN (pv 2) pe_int)))))
      (pss_cons (ps_expr (pe_bm0 PySem.F.plainAttrs_list PySem.F.slot_list_reverse PySem.F.type_list_reverse mt_reverse (pv 1)))
      (pss_one (ps_ret (pe_op op_add_str (pe_ifExp (pt_cmpR op_lt (pv 0) pe_int (nomark _)) pe_str pe_str) (pe_join pe_str (pv 1))))))))), ?_⟩
    refine ⟨_, rfl, rfl, _, rfl, ite2 (fun c => ?_) (fun c => ?_)⟩
    · have e : n = 0 := V.int.inj (of_decide_eq_true c)
      subst e
      exact k H same_rfl
    have n0 : n ≠ 0 := fun z => c (by rw [z]; exact decide_eq_true rfl)
    refine ⟨Nat.zero_le _, fun l hl => ?_⟩
    refine ⟨_, rfl, _, rfl, ?_⟩
    rw [abs_nat]
    have hN : n.natAbs ≠ 0 := by omega
    generalize eN : n.natAbs = N at hn hN ⊢
    refine ⟨fun t σ H2 => ∃ (m : Nat) (g : List Nat), t = m ∧ σ = [some (.int n), some (.ref l), some (.int (m : Int))] ∧ ColV l H H2 (g.map fun c => V.str (S [c])) ∧ numZ m ++ g.reverse = numL N, ⟨N, N, [], rfl, rfl, ColV.start hl, ?_⟩, ?_⟩
    · unfold numZ
      rw [if_neg hN]
      simp
    have tl := TL.numL_len (n := N) (k := 200) (by decide) hn
    rintro t σ H2 ⟨m, g, rfl, rfl, z, e⟩
    have hg : g.length ≤ 200 := by
      have := congrArg List.length e
      rw [List.length_append, List.length_reverse] at this
      omega
    refine ⟨_, rfl, _, _, rfl, rfl, _, rfl, ?_⟩
    by_cases hm : 0 < t
    · rw [show decide ((0 : Int) < ((t : Nat) : Int)) = true from decide_eq_true (by omega)]
      refine iteT ⟨fun σ' H' => ∃ g' : List Nat, σ' = [some (.int n), some (.ref l), some (.int ((t / 10 : Nat) : Int))] ∧ ColV l H H' (g'.map fun c => V.str (S [c])) ∧ numZ (t / 10) ++ g'.reverse = numL N, fun σ' H' ⟨g', a, b, c⟩ => ⟨t / 10, by omega, t / 10, g', rfl, a, b, c⟩, ?_⟩
      have em : ((t : Nat) : Int).fmod 10 = ((t % 10 : Nat) : Int) := by
        rw [Int.fmod_eq_emod_of_nonneg _ (by decide)]
        omega
      have ed : ((t : Nat) : Int).fdiv 10 = ((t / 10 : Nat) : Int) := by
        rw [Int.fdiv_eq_ediv_of_nonneg _ (by decide)]
        omega
      refine ⟨_, rfl, .inl ⟨rfl, _, SqL.of z.at_⟩, _, rfl, .inl ⟨_, rfl, _, _, rfl, rfl, (by show (10 : Int) ≠ 0; decide), _, _, 48 + t % 10, rfl, rfl, by decide +kernel, (by rw [em]; exact digit_at (Nat.mod_lt _ (by decide))), ?_⟩⟩
      refine ⟨_, _, _, rfl, rfl, z.at_, Nat.lt_of_le_of_lt (by rw [List.length_map]; exact hg) (show 200 < sizeLine by decide), _, rfl, _, _, rfl, rfl, ⟨by decide, by decide⟩, ?_⟩
      obtain ⟨acc, a1, a2, z2⟩ := z.push (v := V.str (S [48 + t % 10])) hl same_rfl (by rw [List.length_map]; omega)
      refine ⟨g ++ [48 + t % 10], by rw [← ed]; rfl, ?_, ?_⟩
      · rw [List.map_append]
        have ea : acc = g.map fun c => V.str (S [c]) := HO.lst.inj (Option.some.inj (a1.symm.trans z.at_))
        rw [ea] at z2
        exact z2
      · rw [List.reverse_append]
        show numZ (t / 10) ++ ([48 + t % 10] ++ g.reverse) = _
        rw [← List.append_assoc, ← numZ_step hm, e]
    · have t0 : t = 0 := by omega
      subst t0
      have e : g.reverse = numL N := e
      refine iteF ⟨_, rfl, .inl ⟨rfl, _, SqL.of z.at_⟩, l, _, rfl, rfl, z.at_, ?_⟩
      have z3 : Same H (upd H2 l (.lst (g.map fun c => V.str (S [c])).reverse)) := fun b o eb => by
        rw [upd_ne (ne_of_none eb hl)]
        exact z.s _ _ eb
      have e3 : (g.map fun c => V.str (S [c])).reverse = (((numL N).map fun c => [c]).map S).map V.str := by
        rw [← List.map_reverse, e, List.map_map, List.map_map]
        rfl
      rw [e3] at z3 ⊢
      refine ⟨_, rfl, _, _, rfl, rfl, _, rfl, ?_⟩
      have ej : Txt.join (Str.ofString "") (((numL N).map fun c => [c]).map S) = S (numL N) := by
        rw [join_S0]
        congr 1
        induction numL N with
        | nil => rfl
        | cons a t ih => rw [List.map_cons, List.flatten_cons, ih]; rfl
      have hsum := sum_len (ps := (numL N).map fun c => [c]) (n := 1) fun p hp => by
        obtain ⟨q, hq, rfl⟩ := List.mem_map.mp hp
        exact Nat.le_refl _
      rw [List.length_map] at hsum
      have hS : (((((numL N).map fun c => [c]).map S).map (·.length)).sum + (((numL N).map fun c => [c]).map S).length * (Str.ofString "").length ≤ 16777216) := by
        rw [show (Str.ofString "").length = 0 by decide +kernel, Nat.mul_zero]
        omega
      have fin := k _ z3
      by_cases hneg : n < 0
      · rw [show decide (n < 0) = true from decide_eq_true hneg]
        refine iteT ⟨⟨_, rfl⟩, _, rfl, _, l, _, rfl, rfl, .inl (SqL.of upd_same), hS, _, _, rfl, rfl, ?_, ?_⟩
        · rw [ej, show (Str.ofString "-").length = 1 by decide +kernel, S_len]
          exact Nat.le_trans (show 1 + (numL N).length ≤ 300 by omega) (by decide)
        · rw [ej, show Str.ofString "-" = S [45] by decide +kernel, S_cat]
          have ed : dec n = [45] ++ numL N := by
            unfold dec
            rw [if_pos hneg, eN]
          rw [ed] at fin
          exact fin
      · rw [show decide (n < 0) = false from decide_eq_false hneg]
        refine iteF ⟨⟨_, rfl⟩, _, rfl, _, l, _, rfl, rfl, .inl (SqL.of upd_same), hS, _, _, rfl, rfl, ?_, ?_⟩
        · rw [ej, show (Str.ofString "").length = 0 by decide +kernel, S_len]
          exact Nat.le_trans (show 0 + (numL N).length ≤ 300 by omega) (by decide)
        · rw [ej, show Str.ofString "" = S [] by decide +kernel, S_cat]
          have ed : dec n = [] ++ numL N := by
            unfold dec
            rw [if_neg hneg, eN]
          rw [ed] at fin
          exact fin
end
end Ind

set_option Elab.async false
set_option linter.all false
set_option maxRecDepth 100000
set_option maxHeartbeats 4000000
namespace Ind
open PySem PySem.Spec PyProof.Rows L2 SX
open Builtin.Int (intBits)
abbrev sLd : Stmt := top 29
theorem sqL_same {K : PySem.W.Frag} {H H' : Hp} {a : Addr} {xs : List V} (h : SqL K H a xs) (s : Same H H') : SqL K H' a xs :=
  h.elim (fun h => .inl (h.elim (fun h => .inl (s _ _ h)) fun ⟨o, h⟩ => .inr ⟨o, s _ _ h⟩)) fun h => .inr h
/-- small data -/
def bdL : Dt → Prop
  | .num n => n.natAbs < 10 ^ 40
  | .wrd w => isW w = true
  | _ => False
def bd : Nat → Dt → Prop
  | 0, d => bdL d
  | k + 1, d => bdL d ∨ ∃ ds, d = .tup ds ∧ ds.toL.length ≤ 3 ∧ ∀ e ∈ ds.toL, bd k e
theorem bd_leaf {k : Nat} {d : Dt} (h : bdL d) : bd k d := by
  cases k with
  | zero => exact h
  | succ k => exact .inl h
theorem bd_cases {k : Nat} {d : Dt} (h : bd k d) : (∃ n, d = .num n ∧ n.natAbs < 10 ^ 40) ∨ (∃ w, d = .wrd w ∧ isW w = true) ∨ ∃ j ds, k = j + 1 ∧ d = .tup ds ∧ ds.toL.length ≤ 3 ∧ ∀ e ∈ ds.toL, bd j e := by
  have leaf : bdL d → (∃ n, d = .num n ∧ n.natAbs < 10 ^ 40) ∨ (∃ w, d = .wrd w ∧ isW w = true) := fun h => by
    cases d with
    | num n => exact .inl ⟨n, rfl, h⟩
    | wrd w => exact .inr ⟨w, rfl, h⟩
    | tup ds => exact h.elim
    | bl b => exact h.elim
    | non => exact h.elim
    | ls => exact h.elim
  cases k with
  | zero =>
    rcases leaf h with h | h
    · exact .inl h
    · exact .inr (.inl h)
  | succ k =>
    rcases h with h | ⟨ds, e, l, a⟩
    · rcases leaf h with h | h
      · exact .inl h
      · exact .inr (.inl h)
    · exact .inr (.inr ⟨k, ds, rfl, e, l, a⟩)
theorem isW_len {w : List Nat} (h : isW w = true) : w.length ≤ 12 := by
  unfold isW at h
  obtain ⟨h1, h2⟩ := Bool.and_eq_true_iff.mp h
  obtain ⟨h1, h3⟩ := Bool.and_eq_true_iff.mp h1
  exact of_decide_eq_true h3
theorem fews_of : ∀ {ds : Dl}, (∀ e ∈ ds.toL, few e) → fews ds
  | .nil, _ => by unfold fews; trivial
  | .cons d ds, h => by
    unfold fews
    exact ⟨h d (by show d ∈ d :: ds.toL; simp), fews_of fun e he => h e (List.mem_cons_of_mem _ he)⟩
theorem shrts_of : ∀ {ds : Dl}, (∀ e ∈ ds.toL, shrt e) → shrts ds
  | .nil, _ => by unfold shrts; trivial
  | .cons d ds, h => by
    unfold shrts
    exact ⟨h d (by show d ∈ d :: ds.toL; simp), shrts_of fun e he => h e (List.mem_cons_of_mem _ he)⟩
theorem pls_of {r : Nat} {ds : Dl} (h : ∀ e ∈ ds.toL, pl e r = true) : pls ds r = true := by
  rw [pls_all]
  exact List.all_eq_true.mpr h
theorem bd_few : ∀ {k : Nat} {d : Dt}, bd k d → few d
  | k, d, h => by
    rcases bd_cases h with ⟨n, rfl, hx⟩ | ⟨w, rfl, hx⟩ | ⟨j, ds, rfl, rfl, l, a⟩
    · show n.natAbs < 10 ^ 200
      exact Nat.lt_of_lt_of_le hx (by decide)
    · show True
      trivial
    · show fews ds
      exact fews_of fun e he => bd_few (a e he)
theorem bd_shrt : ∀ {k : Nat} {d : Dt}, bd k d → shrt d
  | k, d, h => by
    rcases bd_cases h with ⟨n, rfl, hx⟩ | ⟨w, rfl, hx⟩ | ⟨j, ds, rfl, rfl, l, a⟩
    · show True
      trivial
    · show w.length ≤ 100000
      have := isW_len hx
      omega
    · show ds.toL.length ≤ 10000 ∧ shrts ds
      exact ⟨by omega, shrts_of fun e he => bd_shrt (a e he)⟩
theorem bd_pl : ∀ {k : Nat} {d : Dt}, bd k d → ∀ {r : Nat}, k ≤ r → pl d r = true
  | k, d, h, r, hr => by
    rcases bd_cases h with ⟨n, rfl, hx⟩ | ⟨w, rfl, hx⟩ | ⟨j, ds, rfl, rfl, l, a⟩
    · rfl
    · exact hx
    · cases r with
      | zero => omega
      | succ r =>
        show pls ds r = true
        exact pls_of fun e he => bd_pl (a e he) (by omega)
def szB : Nat → Nat
  | 0 => 42
  | k + 1 => 3 * szB k + 3
theorem szB_ge : ∀ k, 42 ≤ szB k
  | 0 => by decide
  | k + 1 => by
    have := szB_ge k
    show 42 ≤ 3 * szB k + 3
    omega
theorem len40 {n : Int} (h : n.natAbs < 10 ^ 40) : (dec n).length ≤ 41 := by
  have := TL.numL_len (n := n.natAbs) (k := 40) (by decide) h
  unfold dec
  split
  · show (TL.numL _).length + 1 ≤ 41
    omega
  · show (TL.numL _).length ≤ 41
    omega
theorem sum3 : ∀ {ls : List Nat} {b : Nat}, (∀ x ∈ ls, x + 1 ≤ b) → ls.sum + ls.length ≤ ls.length * b
  | [], b, _ => by simp
  | x :: ls, b, h => by
    have h1 := h x (by simp)
    have h2 := sum3 (ls := ls) (b := b) fun y hy => h y (List.mem_cons_of_mem _ hy)
    rw [List.sum_cons, List.length_cons, Nat.add_mul, Nat.one_mul]
    omega
theorem bd_len : ∀ {k : Nat} {d : Dt}, bd k d → (wr d).length + 1 ≤ szB k
  | k, d, h => by
    have hz := szB_ge k
    rcases bd_cases h with ⟨n, rfl, hx⟩ | ⟨w, rfl, hx⟩ | ⟨j, ds, rfl, rfl, l, a⟩
    · have := len40 hx
      show (dec n).length + 1 ≤ _
      omega
    · have := isW_len hx
      show w.length + 1 ≤ _
      omega
    · have hw : (wr (.tup ds)).length = (TL.joinL [32] (wl ds)).length + 2 := by
        show (TL.joinL [32] (wl ds) ++ [41]).length + 1 = _
        rw [List.length_append]
        rfl
      have h1 := joinL_len [32] (wl ds)
      have h2 := sum3 (ls := (wl ds).map List.length) (b := szB j) fun x hx => by
        rw [wl_map, List.map_map] at hx
        obtain ⟨e, he, rfl⟩ := List.mem_map.mp hx
        exact bd_len (a e he)
      have h3 : (wl ds).length = ds.toL.length := by rw [wl_map, List.length_map]
      rw [List.length_map, h3] at h2
      rw [h3] at h1
      have h4 : ds.toL.length * szB j ≤ 3 * szB j := Nat.mul_le_mul_right _ l
      simp only [List.length_cons, List.length_nil] at h1
      rw [hw]
      show _ ≤ 3 * szB j + 3
      omega
theorem szB5 : szB 5 = 10569 := by decide
theorem szB_mono : ∀ {a b : Nat}, a ≤ b → szB a ≤ szB b
  | a, 0, h => by
    have : a = 0 := by omega
    rw [this]
    exact Nat.le_refl _
  | a, b + 1, h => by
    by_cases e : a = b + 1
    · rw [e]
      exact Nat.le_refl _
    · have := szB_mono (show a ≤ b by omega)
      show _ ≤ 3 * szB b + 3
      omega
theorem bd_5 {k : Nat} {d : Dt} (h : bd k d) (hk : k ≤ 5) : (wr d).length ≤ 10568 := by
  have h1 := bd_len h
  have h2 := szB_mono hk
  rw [szB5] at h2
  omega
theorem bd_dep {k : Nat} {d : Dt} (h : bd k d) : dep d ≤ k := dep_pl (bd_pl h (Nat.le_refl _))
/-- data of a depth below m -/
def spLd (K : PySem.W.Frag) (m : Nat) : Sp := fun vs H Q _ => ∃ (s r : Addr) (ns ds : List Int) (a d : Nat), vs = [.ref s, .ref r, .int (a : Int), .int (d : Int)] ∧ SqL K H s (ns.map V.int) ∧ H r = some (.lst (ds.map V.int)) ∧ InR ds 60 95 ∧ d < m ∧ d ≤ 5 ∧ a ≤ 10 ^ (10 - d) ∧
  ∀ (H' : Hp) (v : V) (e : Dt), Same H H' → At H' v e → bd d e → Q v H'
section
variable {P : Program} {w : World} {K : PySem.W.Frag} {mg : Str → Option Value} {base : Heap}
abbrev nLd : List Str := ["script", "row", "at", "deep", "pick", "count", "k"]
theorem scLd : FnScope nLd ["script", "row", "at", "deep"] (defScope sLd) := ⟨rfl, rfl, rfl, by decide +kernel, rfl, by decide +kernel, by decide +kernel⟩
theorem ok_ld {f fC fW : Addr} {fd fdC fdW : FuncData} (F : Fun K "_law_data" "_law_data" sLd f fd) (T : TxL K mg) (D : TxD mg) (GC : Cl P w K mg base CX0 1 "_law_cell" fC fdC ["script", "k"] (spCellI K)) (GW : Cl P w K mg base CX0 1 "_law_word" fW fdW ["row", "at"] spWd)
    (gD : mg "_law_data" = some (.ref f)) (bD : Binds K fd ["script", "row", "at", "deep"] []) : ∀ m, FnOk P w K mg base CX0 (2 + m) f fd ["script", "row", "at", "deep"] (spLd K m)
  | 0 => F.ok scLd (fun vs H Q E h => by obtain ⟨s, r, ns, ds, a, d, _, _, _, _, h, _⟩ := h; exact absurd h (Nat.not_lt_zero _)) (fun cdv A outer s H vs Q E hr h => by obtain ⟨s, r, ns, ds, a, d, _, _, _, _, h, _⟩ := h; exact absurd h (Nat.not_lt_zero _))
  | m + 1 => by
    have GD := ok_ld F T D GC GW gD bD m
    refine F.ok (k := 2 + m) scLd (fun vs H Q E h => ?_) (fun cdv A outer s0 H vs Q E hr h => ?_)
    · obtain ⟨s, r, ns, ds, a, d, rfl, _⟩ := h
      rfl
    · obtain ⟨s, r, ns, ds, a, d, rfl, hS, hR, hds, hdm, hd5, ha, res⟩ := h
      have h1 := hr.mono (show 1 ≤ 2 + m by omega)
      refine ⟨_, pss_cons (ps_set (i := 4) scLd.nd rfl (Or.inl rfl) (pe_ix ix_list (pv 1) (pe_op op_modN (pv 2) pe_int) fun _ _ => rfl))
      (C8.pss_cut (ps_if (PW.pt (pw_and (pt_cmpR op_gt (pv 3) pe_int (nomark _)) (pw_and1 (pt_cmpR op_ne (pe_op op_modN (pv 4) pe_int) pe_int (nomark _)))))
        (pss_cons (ps_set (i := 5) scLd.nd rfl (Or.inl rfl) (pe_op op_modN (pv 4) pe_int))
      (C8.pss_cut (ps_if (pt_cmpR op_eq (pv 5) pe_int (nomark _))
        (pss_one (ps_set (i := 5) scLd.nd rfl (Or.inl rfl) pe_int))
        pss_nil)
      (pss_one (ps_ret (pe_callTy call_tuple_of (by rfl) D.tuple (by decide +kernel) (pa_cons (pe_lc (own := [("k", 6)]) (g := gName 6) (tt := tYes) (te := (tCall (spLd K m) [] E0 (tCons (tVar 0) (tCons (tVar 1) (tCons (tOp (rI0 fun i j => .int (i + j)) (tOp (rI0 fun i j => .int (i + j)) (tOp (rI CMul fun i j => .int (i * j)) (tC (.int 5)) (tVar 2)) (tOp (rI CMul fun i j => .int (i * j)) (tC (.int 3)) (tVar 6))) (tC (.int 1))) (tCons (tOp (rI0 fun i j => .int (i - j)) (tVar 3) (tC (.int 1))) tNil)))))) rfl scLd.nd (pi_range1 (by rfl) T.range (pa_cons (pv 5) pa_nil)) (blkOk_by (N := nLd) (sc := defScope sLd) (by decide +kernel)) (fun _ _ _ _ _ => (pg_name (i := 6) scLd.nd rfl (Or.inl rfl))) (fun _ _ _ _ _ => pts_nil) (fun _ _ _ _ _ => (pe_call GD hr (by rfl) gD F.kp bD .nil pass0 (pa_cons (pv 0) (pa_cons (pv 1) (pa_cons (pe_op op_add (pe_op op_add (pe_op op_mul pe_int (pv 2)) (pe_op op_mul pe_int (pv 6))) pe_int) (pa_cons (pe_op op_sub (pv 3) pe_int) pa_nil))))))) pa_nil))))))
        pss_nil)
      (pss_cons (ps_if (pt_cmpR op_eq (pe_op op_modN (pv 4) pe_int) pe_int (nomark _))
        (pss_one (ps_ret (pe_call GW.fn h1 (by rfl) GW.g GW.kp GW.b .nil pass0 (pa_cons (pv 1) (pa_cons (pe_op op_modN (pv 2) pe_int) pa_nil)))))
        pss_nil)
      (pss_cons (ps_if (pt_cmpR op_eq (pe_op op_modN (pv 4) pe_int) pe_int (nomark _))
        (pss_one (ps_ret (pe_op op_modN (pe_call GC.fn h1 (by rfl) GC.g GC.kp GC.b .nil pass0 (pa_cons (pv 0) (pa_cons (pe_op op_modN (pv 2) pe_int) pa_nil))) (pe_op op_pow pe_int pe_int))))
        pss_nil)
      (pss_one (ps_ret (pe_op op_sub (pv 4) pe_int)))))), ?_⟩
      have at_r : ∀ {j : Nat}, j < 60 → ∃ x : Nat, x < 95 ∧ atI (ds.map V.int) ((j : Nat) : Int) = some (.int (x : Int)) := fun {j} hj => by
        have hl : j < ds.length := by rw [hds.1]; exact hj
        have hb := hds.2 ds[j] (List.getElem_mem hl)
        refine ⟨ds[j].toNat, by omega, ?_⟩
        rw [Int.toNat_of_nonneg hb.1]
        exact atI_of (k := j) (by rw [List.getElem?_map, List.getElem?_eq_getElem hl]; rfl)
      have fm : ∀ (x : Nat) {b : Nat}, 0 < b → ((x : Nat) : Int).fmod (b : Int) = ((x % b : Nat) : Int) := fun x b hb => by
        rw [Int.fmod_eq_emod_of_nonneg _ (by omega)]
        exact (Int.natCast_emod x b).symm
      obtain ⟨p, hp, ep⟩ := at_r (j := a % 40) (by have := Nat.mod_lt a (show 0 < 40 by decide); omega)
      refine ⟨_, rfl, _, rfl, _, _, rfl, rfl, (by show (40 : Int) ≠ 0; decide), r, _, _, _, rfl, rfl, SqL.of hR, (by rw [show ((a : Nat) : Int).fmod 40 = ((a % 40 : Nat) : Int) from fm a (by decide)]; exact ep), ?_⟩
      have m3 : ((p : Nat) : Int).fmod 3 = ((p % 3 : Nat) : Int) := fm p (by decide)
      have m5 : ((p : Nat) : Int).fmod 5 = ((p % 5 : Nat) : Int) := fm p (by decide)
      refine ⟨fun σ' H' => H' = H ∧ σ' = [some (.ref s), some (.ref r), some (.int (a : Int)), some (.int (d : Int)), some (.int (p : Int)), none, none], ?_, ?_⟩
      · refine ⟨_, rfl, _, _, rfl, rfl, _, rfl, ?_⟩
        by_cases hd : 0 < d
        · rw [show decide ((0 : Int) < ((d : Nat) : Int)) = true from decide_eq_true (by omega)]
          refine iteT ⟨_, rfl, _, _, rfl, rfl, (by show (3 : Int) ≠ 0; decide), rfl, _, rfl, ?_⟩
          refine ite2 (fun c => ?_) (fun c => ⟨rfl, rfl⟩)
          refine ⟨_, rfl, _, _, rfl, rfl, (by show (5 : Int) ≠ 0; decide), ?_⟩
          refine ⟨fun σ' H' => H' = H ∧ ∃ n : Nat, n ≤ 3 ∧ σ' = [some (.ref s), some (.ref r), some (.int (a : Int)), some (.int (d : Int)), some (.int (p : Int)), some (.int (n : Int)), none], ?_, ?_⟩
          · refine ⟨_, rfl, rfl, _, rfl, ite2 (fun c4 => ?_) (fun c4 => ?_)⟩
            · exact ⟨rfl, 1, by decide, rfl⟩
            · refine ⟨rfl, p % 5, ?_, by rw [← m5]; rfl⟩
              have : p % 5 ≠ 4 := fun z => c4 (by show decide (V.int (((p : Nat) : Int).fmod 5) = V.int 4) = true; rw [m5, z]; rfl)
              omega
          rintro σ' H' ⟨rfl, n, n3, rfl⟩
          refine ⟨_, rfl, _, rfl, by omega, by omega, fun D hD => ?_⟩
          rw [Int.toNat_natCast]
          refine lc_range (lo := 0) (n := n) (fun i H2 => ∃ (vs : List V) (l : List Dt), ColV D H' H2 vs ∧ Paired (At H2) vs l ∧ l.length = i ∧ ∀ e ∈ l, bd (d - 1) e) ⟨[], [], ColV.start hD, .nil, rfl, fun e h => by cases h⟩ ?_ ?_
          · rintro i H2 hi ⟨vs, l, z, hP, hl, hb⟩
            have hx : 10 ^ (10 - d) ≤ 10 ^ 10 := Nat.pow_le_pow_right (by decide) (by omega)
            have h10 : 10 ^ (10 - (d - 1)) = 10 ^ (10 - d) * 10 := by rw [← Nat.pow_succ]; congr 1; omega
            have h1x : 10 ^ 5 ≤ 10 ^ (10 - d) := Nat.pow_le_pow_right (by decide) (by omega)
            refine ⟨rfl, _, rfl, _, rfl, _, rfl, _, _, rfl, rfl, .inl ⟨by decide, by decide⟩, _, rfl, _, _, rfl, rfl, .inl ⟨by decide, by decide⟩, _, _, rfl, rfl, _, _, rfl, rfl, _, rfl, _, _, rfl, rfl, s, r, ns, ds, 5 * a + 3 * i + 1, d - 1, ?_, sqL_same hS z.s, z.s _ _ hR, hds, by omega, by omega, by omega, fun H3 v e s3 hv he => ?_⟩
            · show [V.ref s, V.ref r, V.int (5 * (a : Int) + 3 * (0 + (i : Int)) + 1), V.int ((d : Int) - 1)] = _
              rw [show 5 * (a : Int) + 3 * (0 + (i : Int)) + 1 = ((5 * a + 3 * i + 1 : Nat) : Int) by omega, show (d : Int) - 1 = ((d - 1 : Nat) : Int) by omega]
            · obtain ⟨acc, a1, a2, z2⟩ := z.push (v := v) hD s3 (by rw [hP.length]; omega)
              have ea : acc = vs := HO.lst.inj (Option.some.inj (a1.symm.trans (s3 _ _ z.at_)))
              subst ea
              refine ⟨acc, a1, a2, acc ++ [v], l ++ [e], z2, paired_snoc (Paired.imp (fun v d h => (At.same s3 h).kl (Kl.up a1)) hP) (hv.kl (Kl.up a1)), by rw [List.length_append, hl]; rfl, fun e' he' => ?_⟩
              rcases List.mem_append.mp he' with h | h
              · exact hb _ h
              · rw [List.mem_singleton.mp h]
                exact he
          · rintro H2 ⟨vs, l, z, hP, hl, hb⟩
            refine ⟨D, _, rfl, .inl ⟨SqL.of z.at_, fun t ht => ?_⟩⟩
            have s7 := same_upd (o := .tup vs) ht
            refine res _ _ (.tup (Dl.ofL l)) (z.s.trans s7) ?_ ?_
            · unfold At
              exact ⟨t, vs, rfl, upd_same, all_of (Paired.imp (fun v d h => h.same s7) hP)⟩
            · obtain ⟨d', rfl⟩ : ∃ d', d = d' + 1 := ⟨d - 1, by omega⟩
              exact .inr ⟨_, rfl, by rw [Dl.to_of]; omega, fun e he => hb e (by rw [Dl.to_of] at he; exact he)⟩
        · rw [show decide ((0 : Int) < ((d : Nat) : Int)) = false from decide_eq_false (by omega)]
          exact iteF (iteF ⟨rfl, rfl⟩)
      rintro σ' H' ⟨rfl, rfl⟩
      refine ⟨_, rfl, _, _, rfl, rfl, (by show (2 : Int) ≠ 0; decide), rfl, _, rfl, ite2 (fun c => ?_) (fun c => ?_)⟩
      · refine ⟨_, rfl, _, rfl, _, _, rfl, rfl, (by show (30 : Int) ≠ 0; decide), r, ds, a % 30, ?_, hR, by rw [hds.1]; omega, by omega, fun H2 w s2 hw => ?_⟩
        · show [V.ref r, V.int (((a : Nat) : Int).fmod 30)] = _
          rw [show ((a : Nat) : Int).fmod 30 = ((a % 30 : Nat) : Int) from fm a (by decide)]
        · refine res H2 _ (.wrd w) s2 (by unfold At; rfl) (bd_leaf ?_)
          show isW w = true
          unfold isW
          rw [decide_eq_true (show 1 ≤ w.length by have := hw.a; omega), decide_eq_true hw.b, hw.s]
          rfl
      refine ⟨_, rfl, _, _, rfl, rfl, (by show (9 : Int) ≠ 0; decide), rfl, _, rfl, ite2 (fun c => ?_) (fun c => ?_)⟩
      · refine ⟨_, rfl, _, rfl, _, _, rfl, rfl, (by show (5 : Int) ≠ 0; decide), s, ns, a % 5, ?_, hS, _, _, rfl, rfl, ⟨by decide, by decide, by decide⟩, _, _, rfl, rfl, (show ((10 : Int) ^ (40 : Int).toNat) ≠ 0 by decide), ?_⟩
        · show [V.ref s, V.int (((a : Nat) : Int).fmod 5)] = _
          rw [show ((a : Nat) : Int).fmod 5 = ((a % 5 : Nat) : Int) from fm a (by decide)]
        · have hm := fmod_in (x := cell ns (a % 5)) (b := 10 ^ 40) (by decide)
          exact res _ _ (.num _) same_rfl (by unfold At; rfl) (bd_leaf (by show ((cell ns (a % 5)).fmod (10 ^ 40)).natAbs < 10 ^ 40; omega))
      · exact ⟨_, rfl, _, _, rfl, rfl, res _ _ (.num _) same_rfl (by unfold At; rfl) (bd_leaf (by show Int.natAbs _ < 10 ^ 40; omega))⟩
end
end Ind

set_option Elab.async false
set_option linter.all false
set_option maxRecDepth 100000
set_option maxHeartbeats 4000000
namespace Ind
open PySem PySem.Spec PyProof.Rows L2 SX
open Builtin.Int (intBits)
abbrev sLw : Stmt := top 30
section
variable {P : Program} {w : World} {K : PySem.W.Frag} {mg : Str → Option Value} {base : Heap}
abbrev nLw : List Str := ["value", "item"]
theorem scLw : FnScope nLw ["value"] (defScope sLw) := ⟨rfl, rfl, rfl, by decide +kernel, rfl, by decide +kernel, by decide +kernel⟩
theorem ok_lw {f fD : Addr} {fd fdD : FuncData} (F : Fun K "_law_written" "_law_written" sLw f fd) (T : TxL K mg) (D : TxD mg) (GD : Cl P w K mg base CX0 1 "_law_digits" fD fdD ["n"] spDec)
    (gP : mg "_law_written" = some (.ref f)) (bP : Binds K fd ["value"] []) : ∀ m, FnOk P w K mg base CX0 (2 + m) f fd ["value"] (spWp m)
  | 0 => F.ok scLw (fun vs H Q E h => by obtain ⟨v, d, _, _, h, _⟩ := h; exact absurd h (Nat.not_lt_zero _)) (fun cdv A outer s H vs Q E hr h => by obtain ⟨v, d, _, _, h, _⟩ := h; exact absurd h (Nat.not_lt_zero _))
  | m + 1 => by
    have GP := ok_lw F T D GD gP bP m
    refine F.ok (k := 2 + m) scLw (fun vs H Q E h => ?_) (fun cdv A outer s H vs Q E hr h => ?_)
    · obtain ⟨v, d, rfl, _⟩ := h
      rfl
    · obtain ⟨v, d, rfl, hv, hdm, hfe, hln, k⟩ := h
      have h1 := hr.mono (show 1 ≤ 2 + m by omega)
      refine ⟨_, pss_cons (ps_if (pt_val (pe_callB call_isi (by rfl) T.isinstance (by decide +kernel) (pa_cons (pv 0) (pa_cons (pe_bltn (v := .ty "str") (by rfl) D.str (by decide +kernel) rfl) pa_nil))))
        (pss_one (ps_ret (pv 0)))
        pss_nil)
      (pss_cons (ps_if (pt_val (pe_callB call_isi (by rfl) T.isinstance (by decide +kernel) (pa_cons (pv 0) (pa_cons (pe_bltn (v := .ty "int") (by rfl) T.int (by decide +kernel) rfl) pa_nil))))
        (pss_one (ps_ret (pe_call GD.fn h1 (by rfl) GD.g GD.kp GD.b .nil pass0 (pa_cons (pv 0) pa_nil))))
        pss_nil)
      (pss_one (ps_ret (pe_op op_add_str (pe_op op_add_str pe_str (pe_join pe_str (pe_lc (own := [("item", 1)]) (g := gName 1) (tt := tYes) (te := (tCall (spWp m) [] E0 (tCons (tVar 1) tNil))) rfl scLw.nd (pi_tup (pv 0)) (blkOk_by (N := nLw) (sc := defScope sLw) (by decide +kernel)) (fun _ _ _ _ _ => (pg_name (i := 1) scLw.nd rfl (Or.inl rfl))) (fun _ _ _ _ _ => pts_nil) (fun _ _ _ _ _ => (pe_call GP hr (by rfl) gP F.kp bP .nil pass0 (pa_cons (pv 1) pa_nil)))))) pe_str)))), ?_⟩
      have ht := hv.ty (K := K)
      cases d with
      | num n =>
        have hv2 := hv
        unfold At at hv2
        subst hv2
        refine ⟨_, rfl, _, _, _, _, false, rfl, ClsV.ty "str", ht, kit_ty (by decide +kernel), false, rfl, iteF ⟨_, rfl, _, _, _, _, true, rfl, ClsV.ty "int", ht, kit_ty (by decide +kernel), true, rfl, iteT ?_⟩⟩
        exact ⟨_, rfl, n, rfl, hfe, fun H' s => k H' s⟩
      | wrd l =>
        have hv2 := hv
        unfold At at hv2
        subst hv2
        refine ⟨_, rfl, _, _, _, _, true, rfl, ClsV.ty "str", ht, kit_ty (by decide +kernel), true, rfl, iteT ?_⟩
        exact ⟨_, rfl, k H same_rfl⟩
      | bl b => exact hfe.elim
      | non => exact hfe.elim
      | ls => exact hfe.elim
      | tup ds =>
        have hv2 := hv
        unfold At at hv2
        obtain ⟨a, vs, rfl, ha, hs⟩ := hv2
        have hP := all_paired hs
        have hlen := hP.length
        have hmany := wr_many ds
        refine ⟨_, rfl, _, _, _, _, false, rfl, ClsV.ty "str", ht, kit_ty (by decide +kernel), false, rfl, iteF ⟨_, rfl, _, _, _, _, false, rfl, ClsV.ty "int", ht, kit_ty (by decide +kernel), false, rfl, iteF ⟨⟨_, rfl⟩, _, rfl, a, rfl, ⟨_, SqT.of ha⟩, fun D2 hD => ?_⟩⟩⟩
        refine lc_tup (K := K) (a := a) (xs := vs) (fun i H2 => ColV D2 H H2 (((ds.toL.take i).map fun d => V.str (S (wr d))))) (ColV.start hD) (fun i H2 _ z => .of (z.s _ _ ha)) ?_ ?_
        · rintro i x H2 hx z
          obtain ⟨d, hd, hxd⟩ := Paired.at hP hx
          have hil := (List.getElem?_eq_some_iff.mp hd).1
          have hm := List.mem_of_getElem? hd
          have hdd : dep d < m := by
            have h1 := deps_mem hm
            have h2 : deps ds + 1 < m + 1 := hdm
            omega
          refine ⟨rfl, _, rfl, x, d, rfl, hxd.same z.s, hdd, fews_mem hfe d hm, Nat.le_trans (wr_item hm) hln, fun H3 s3 => ?_⟩
          rw [take_snoc hd, List.map_append]
          exact z.push hD s3 (by rw [List.length_map, List.length_take]; omega)
        · rintro H2 z
          rw [hlen, List.take_length] at z
          have el : (ds.toL.map fun d => V.str (S (wr d))) = ((wl ds).map S).map V.str := by rw [wl_map, List.map_map, List.map_map]; rfl
          have hw : (wr (.tup ds)).length = (TL.joinL [32] (wl ds)).length + 2 := by
            show (TL.joinL [32] (wl ds) ++ [41]).length + 1 = _
            rw [List.length_append]
            rfl
          have hge := joinL_ge [32] (wl ds)
          have lz : (((wl ds).map S).map (·.length)) = (wl ds).map List.length := by
            rw [List.map_map]
            exact List.map_congr_left fun l _ => S_len l
          refine ⟨Str.ofString " ", D2, (wl ds).map S, rfl, rfl, .inl (SqL.of (by rw [← el]; exact z.at_)), ?_, ?_⟩
          · rw [lz, List.length_map, show (Str.ofString " ").length = 1 by decide +kernel]
            simp only [List.length_cons, List.length_nil] at hge
            omega
          rw [show Str.ofString " " = S [32] by decide +kernel, join_S]
          have e2 : Str.ofString "(" ++ S (TL.joinL [32] (wl ds)) = S (40 :: TL.joinL [32] (wl ds)) := by
            rw [show Str.ofString "(" = S [40] by decide +kernel, S_cat]
            rfl
          have e3 : Str.ofString "(" ++ S (TL.joinL [32] (wl ds)) ++ Str.ofString ")" = S (wr (.tup ds)) := by
            rw [e2, show Str.ofString ")" = S [41] by decide +kernel, S_cat]
            rfl
          have l1 : (Str.ofString "(").length = 1 := by decide +kernel
          have l2 : (Str.ofString ")").length = 1 := by decide +kernel
          refine ⟨_, _, rfl, rfl, ?_, _, _, rfl, rfl, ?_, ?_⟩
          · rw [l1, S_len]
            exact Nat.le_trans (show 1 + (TL.joinL [32] (wl ds)).length ≤ 200000 by omega) (by decide)
          · rw [e2, l2, S_len]
            exact Nat.le_trans (show (40 :: TL.joinL [32] (wl ds)).length + 1 ≤ 200000 by show _ + 1 + 1 ≤ _; omega) (by decide)
          · show Q (.str (Str.ofString "(" ++ S (TL.joinL [32] (wl ds)) ++ Str.ofString ")")) H2
            rw [e3]
            exact k H2 z.s
end
end Ind

set_option Elab.async false
set_option linter.all false
set_option maxRecDepth 100000
set_option maxHeartbeats 4000000
namespace Ind
open PySem PySem.Spec PyProof.Rows L2 SX
open Builtin.Int (intBits)
abbrev sLs : Stmt := top 31
/-- the same data twice -/
def spLs (m : Nat) : Sp := fun vs H Q _ => ∃ (v u : V) (d : Dt), vs = [v, u] ∧ At H v d ∧ At H u d ∧ dep d < m ∧ few d ∧ (wr d).length ≤ 100000 ∧ Q (.bl true) H
section
variable {P : Program} {w : World} {K : PySem.W.Frag} {mg : Str → Option Value} {base : Heap}
abbrev nLs : List Str := ["one", "two", "k"]
theorem scLs : FnScope nLs ["one", "two"] (defScope sLs) := ⟨rfl, rfl, rfl, by decide +kernel, rfl, by decide +kernel, by decide +kernel⟩
theorem ok_ls {f fI : Addr} {fd fdI : FuncData} (F : Fun K "_law_same" "_law_same" sLs f fd) (T : TxL K mg) (D : TxD mg) (GI : Cl P w K mg base CX0 1 "_law_is_integer" fI fdI ["value"] spIi)
    (gP : mg "_law_same" = some (.ref f)) (bP : Binds K fd ["one", "two"] []) : ∀ m, FnOk P w K mg base CX0 (2 + m) f fd ["one", "two"] (spLs m)
  | 0 => F.ok scLs (fun vs H Q E h => by obtain ⟨v, u, d, _, _, _, h, _⟩ := h; exact absurd h (Nat.not_lt_zero _)) (fun cdv A outer s H vs Q E hr h => by obtain ⟨v, u, d, _, _, _, h, _⟩ := h; exact absurd h (Nat.not_lt_zero _))
  | m + 1 => by
    have GP := ok_ls F T D GI gP bP m
    refine F.ok (k := 2 + m) scLs (fun vs H Q E h => ?_) (fun cdv A outer s H vs Q E hr h => ?_)
    · obtain ⟨v, u, d, rfl, _⟩ := h
      rfl
    · obtain ⟨v, u, d, rfl, hv, hu, hdm, hfe, hln, k⟩ := h
      have h1 := hr.mono (show 1 ≤ 2 + m by omega)
      refine ⟨_, pss_cons (ps_if (pt_val (pe_callB call_isi (by rfl) T.isinstance (by decide +kernel) (pa_cons (pv 1) (pa_cons (pe_bltn (v := .ty "tuple") (by rfl) D.tuple (by decide +kernel) rfl) pa_nil))))
        (pss_cons (ps_if (PW.pt (pw_or (pt_not (pt_val (pe_callB call_isi (by rfl) T.isinstance (by decide +kernel) (pa_cons (pv 0) (pa_cons (pe_bltn (v := .ty "tuple") (by rfl) D.tuple (by decide +kernel) rfl) pa_nil))))) (pw_or1 (pt_cmpR op_ne (pe_callB call_len_seq (by rfl) T.len PySem.boot_len (pa_cons (pv 0) pa_nil)) (pe_callB call_len_seq (by rfl) T.len PySem.boot_len (pa_cons (pv 1) pa_nil)) (nomark _)))))
        (pss_one (ps_ret pe_bl))
        pss_nil)
      (pss_cons (ps_for PassesOwn.never rfl (pi_range1 (by rfl) T.range (pa_cons (pe_callB call_len_seq (by rfl) T.len PySem.boot_len (pa_cons (pv 1) pa_nil)) pa_nil)) (pg_name (i := 2) scLs.nd rfl (Or.inl rfl))
        (pss_one (ps_if (pt_not (pt_val (pe_call GP hr (by rfl) gP F.kp bP .nil pass0 (pa_cons (pe_ix ix_tup (pv 0) (pv 2) fun _ _ => rfl) (pa_cons (pe_ix ix_tup (pv 1) (pv 2) fun _ _ => rfl) pa_nil)))))
        (pss_one (ps_ret pe_bl))
        pss_nil)))
      (pss_one (ps_ret pe_bl))))
        pss_nil)
      (pss_cons (ps_if (pt_val (pe_callB call_isi (by rfl) T.isinstance (by decide +kernel) (pa_cons (pv 1) (pa_cons (pe_bltn (v := .ty "str") (by rfl) D.str (by decide +kernel) rfl) pa_nil))))
        (pss_one (ps_ret (pe_and (pe_callB call_isi (by rfl) T.isinstance (by decide +kernel) (pa_cons (pv 0) (pa_cons (pe_bltn (v := .ty "str") (by rfl) D.str (by decide +kernel) rfl) pa_nil))) (pe_one (pe_cmpR op_eq (pv 0) (pv 1) (nomark _))))))
        pss_nil)
      (pss_one (ps_ret (pe_and (pe_call GI.fn h1 (by rfl) GI.g GI.kp GI.b .nil pass0 (pa_cons (pv 0) pa_nil)) (pe_one (pe_cmpR op_eq (pv 0) (pv 1) (nomark _))))))), ?_⟩
      have ht := hv.ty (K := K)
      have hut := hu.ty (K := K)
      cases d with
      | num n =>
        have hv2 := hv
        have hu2 := hu
        unfold At at hv2 hu2
        subst hv2 hu2
        refine ⟨_, rfl, _, _, _, _, false, rfl, ClsV.ty "tuple", hut, kit_ty (by decide +kernel), false, rfl, iteF ⟨_, rfl, _, _, _, _, false, rfl, ClsV.ty "str", hut, kit_ty (by decide +kernel), false, rfl, iteF ?_⟩⟩
        refine ⟨_, rfl, _, _, rfl, hv, _, rfl, iteT ⟨_, rfl, _, rfl, rfl, ?_⟩⟩
        rw [show decide (V.int n = V.int n) = true from decide_eq_true rfl]
        exact k
      | wrd l =>
        have hv2 := hv
        have hu2 := hu
        unfold At at hv2 hu2
        subst hv2 hu2
        refine ⟨_, rfl, _, _, _, _, false, rfl, ClsV.ty "tuple", hut, kit_ty (by decide +kernel), false, rfl, iteF ⟨_, rfl, _, _, _, _, true, rfl, ClsV.ty "str", hut, kit_ty (by decide +kernel), true, rfl, iteT ?_⟩⟩
        refine ⟨_, rfl, _, _, _, _, true, rfl, ClsV.ty "str", ht, kit_ty (by decide +kernel), true, rfl, iteT ⟨_, rfl, _, rfl, rfl, ?_⟩⟩
        rw [show decide (V.str (S l) = V.str (S l)) = true from decide_eq_true rfl]
        exact k
      | bl b => exact hfe.elim
      | non => exact hfe.elim
      | ls => exact hfe.elim
      | tup ds =>
        have hv2 := hv
        have hu2 := hu
        unfold At at hv2 hu2
        obtain ⟨a, vs, rfl, ha, hs⟩ := hv2
        obtain ⟨b, us, rfl, hb, hs'⟩ := hu2
        have hP := all_paired hs
        have hP' := all_paired hs'
        have hlen := hP.length
        have hlen' := hP'.length
        have hmany := wr_many ds
        refine ⟨_, rfl, _, _, _, _, true, rfl, ClsV.ty "tuple", hut, kit_ty (by decide +kernel), true, rfl, iteT ?_⟩
        refine ⟨_, rfl, _, _, _, _, true, rfl, ClsV.ty "tuple", ht, kit_ty (by decide +kernel), true, rfl, iteF ?_⟩
        refine ⟨_, rfl, a, _, rfl, .inr (SqT.of ha), _, rfl, b, _, rfl, .inr (SqT.of hb), rfl, _, rfl, ?_⟩
        rw [hlen, hlen']
        rw [show (!decide (V.int ((ds.toL.length : Nat) : Int) = V.int ((ds.toL.length : Nat) : Int))) = false by simp]
        refine iteF ⟨_, rfl, b, _, rfl, .inr (SqT.of hb), ?_⟩
        rw [hlen']
        refine ⟨(ds.toL.length : Int), rfl, by omega, (by have : ds.toL.length ≤ 100000 := by omega
                                                          omega), ?_⟩
        rw [Int.toNat_natCast]
        refine for_range (lo := 0) (n := ds.toL.length) (fun i σ' H' => H' = H ∧ ∃ kv : Option V, σ' = [some (.ref a), some (.ref b), kv]) ⟨rfl, _, rfl⟩ ?_ ?_
        · rintro i σ' H' hi ⟨rfl, kv, rfl⟩
          obtain ⟨d, hd⟩ : ∃ d, ds.toL[i]? = some d := ⟨_, List.getElem?_eq_getElem hi⟩
          have hx : ∃ x, vs[i]? = some x := ⟨_, List.getElem?_eq_getElem (by rw [hlen]; exact hi)⟩
          have hy : ∃ x, us[i]? = some x := ⟨_, List.getElem?_eq_getElem (by rw [hlen']; exact hi)⟩
          obtain ⟨x, hx⟩ := hx
          obtain ⟨y, hy⟩ := hy
          obtain ⟨d1, hd1, a1⟩ := Paired.at hP hx
          obtain ⟨d2, hd2, a2⟩ := Paired.at hP' hy
          have e1 := Option.some.inj (hd1.symm.trans hd)
          have e2 := Option.some.inj (hd2.symm.trans hd)
          subst e1 e2
          have hm := List.mem_of_getElem? hd
          have hdd : dep d2 < m := by
            have h1 := deps_mem hm
            have h2 : deps ds + 1 < m + 1 := hdm
            omega
          refine ⟨_, rfl, _, rfl, a, _, _, x, rfl, rfl, SqT.of ha, (by rw [Int.zero_add]; exact atI_of hx), _, rfl, _, rfl, b, _, _, y, rfl, rfl, SqT.of hb, (by rw [Int.zero_add]; exact atI_of hy), ?_⟩
          exact ⟨x, y, d2, rfl, a1, a2, hdd, fews_mem hfe d2 hm, Nat.le_trans (wr_item hm) hln, _, rfl, iteF ⟨rfl, _, rfl⟩⟩
        · rintro σ' H' ⟨rfl, kv, rfl⟩
          exact k
end
end Ind

set_option Elab.async false
set_option linter.all false
set_option maxRecDepth 100000
set_option maxHeartbeats 4000000
namespace Ind
open PySem PySem.Spec PyProof.Rows L2 SX
open Builtin.Int (intBits)
abbrev sLa : Stmt := top 32
abbrev sLm : Stmt := top 33
def EW (W : WX) (n : Nat) : XK := fun cls d H => ∀ σ : L2.St, σ.length = n → W cls d σ H
theorem passW {X : Cx} {W : WX} {n : Nat} (tk : Takes X W) (hn : X.N.length = n) : Passes (L2.CX X.prog X.w) X (EW W n) :=
  fun _ σ _ _ e s' I c => tk e s' (XE.of_call I (fun _ _ _ h => h σ (I.len.trans hn)) c)
theorem two {σ : L2.St} (h : σ.length = 2) : ∃ a b, σ = [a, b] := by
  match σ, h with
  | [a, b], _ => exact ⟨a, b, rfl⟩
/-- NoText at the clause -/
structure TxNt (K : PySem.W.Frag) (mg : Str → Option Value) (Nt : Addr) : Prop where
  g : mg "NoText" = some (.ref Nt)
  ex : PySem.W.exmOne K (.ref Nt) (.ref Nt) = some true
  xf : XfC K Nt
  no : PySem.W.findIn K (.ref Nt) "at" = some none
def spLa : Sp := fun vs H Q _ => (∃ (l : List Nat) (n : Nat), vs = [.str (S l)] ∧ l.length ≤ 200000 ∧ Rn l 0 .item [[]] (.err n) ∧ ∀ H' : Hp, Same H H' → Q (.int (n : Int)) H') ∨ (vs = [.non] ∧ ∀ H' : Hp, Same H H' → Q (.int 0) H')
def spLm : Sp := fun vs H Q _ => ∃ (v : V) (d : Dt), vs = [v] ∧ At H v d ∧ shrt d ∧ pl d 60 = false ∧ ∀ H' : Hp, Same H H' → Q (.bl true) H'
section
variable {P : Program} {w : World} {K : PySem.W.Frag} {mg : Str → Option Value} {base : Heap} {Nt Ma : Addr}
theorem scLa : FnScope ["text", "e"] ["text"] (defScope sLa) := ⟨rfl, rfl, rfl, by decide +kernel, rfl, by decide +kernel, by decide +kernel⟩
theorem ok_la {f fR : Addr} {fd fdR : FuncData} (F : Fun K "_law_at" "_law_at" sLa f fd) (N : TxNt K mg Nt) (GR : Cl P w K mg base (L2.CX P w) 4 "read_data" fR fdR ["text"] (spRd Nt)) : FnOk P w K mg base CX0 5 f fd ["text"] spLa := by
  refine F.ok scLa (fun vs H Q E h => ?_) (fun cdv A outer s H vs Q E hr h => ?_)
  · rcases h with ⟨l, n, rfl, _⟩ | ⟨rfl, _⟩ <;> rfl
  · refine ⟨_, pss_cons (ps_try_as (i := 1) (c := .ref Nt) (Wout := fun _ _ _ _ => False) rfl rfl scLa.nd rfl rfl ⟨rfl, by decide, .inl N.g⟩ takes0
        (fun W pn xe tk _ => pss_one (ps_expr (pe_call (E := EW W 2) GR.fn hr (by rfl) GR.g GR.kp GR.b .nil (passW tk rfl) (pa_cons (pv 0) pa_nil))))
        (fun a oe cls d pn hz hf => pss_one (ps_ret (pe_xf N.xf N.no hz hf (pv 1)))))
      (pss_one (ps_ret (pe_un un_neg pe_int))), ?_⟩
    rcases h with ⟨l, n, rfl, hl, hR, k⟩ | ⟨rfl, k⟩
    · refine ⟨_, rfl, .inl ⟨l, _, rfl, hl, hR, fun n' e => ?_, fun d e => by cases e⟩⟩
      cases e
      intro H5 dd s5 hdd σ hσ
      obtain ⟨v0, v1, rfl⟩ := two hσ
      refine ⟨true, N.ex, fun _ ea hea => ?_, fun z => Bool.noConfusion z⟩
      exact ⟨_, rfl, rfl, rfl, dd, _, _, rfl, hdd, rfl, k H5 s5⟩
    · refine ⟨_, rfl, .inr ⟨_, .non, rfl, by unfold At; rfl, rfl, ?_⟩⟩
      intro H5 dd s5 hdd σ hσ
      obtain ⟨v0, v1, rfl⟩ := two hσ
      refine ⟨true, N.ex, fun _ ea hea => ?_, fun z => Bool.noConfusion z⟩
      exact ⟨_, rfl, rfl, rfl, dd, _, _, rfl, hdd, rfl, k H5 s5⟩
theorem scLm : FnScope ["value"] ["value"] (defScope sLm) := ⟨rfl, rfl, rfl, by decide +kernel, rfl, by decide +kernel, by decide +kernel⟩
theorem ok_lm {f fW : Addr} {fd fdW : FuncData} (F : Fun K "_law_malformed" "_law_malformed" sLm f fd) (M : TxMl K mg Ma) (ex : PySem.W.exmOne K (.ref Ma) (.ref Ma) = some true) (GW : Cl P w K mg base (L2.CX P w) 65 "written" fW fdW ["data"] (spWrt Ma)) : FnOk P w K mg base CX0 66 f fd ["value"] spLm := by
  refine F.ok scLm (fun vs H Q E h => ?_) (fun cdv A outer s H vs Q E hr h => ?_)
  · obtain ⟨v, d, rfl, _⟩ := h
    rfl
  · obtain ⟨v, d, rfl, hv, hsh, hpl, k⟩ := h
    refine ⟨_, pss_cons (ps_try_only (c := .ref Ma) (Wout := fun _ _ _ _ => False) rfl rfl ⟨rfl, by decide, .inl M.g⟩ takes0
        (fun W pn xe tk _ => pss_one (ps_expr (pe_call (E := EW W 1) GW.fn hr (by rfl) GW.g GW.kp GW.b .nil (passW tk rfl) (pa_cons (pv 0) pa_nil))))
        (fun a oe cls d pn _ _ => pss_one (ps_ret pe_bl)))
      (pss_one (ps_ret pe_bl)), ?_⟩
    refine ⟨_, rfl, v, d, rfl, hv, hsh, fun _ H5 s5 σ hσ => ?_, fun z => ?_⟩
    · exact ⟨true, ex, fun _ _ _ => k H5 s5, fun z => Bool.noConfusion z⟩
    · rw [hpl] at z
      cases z
end
end Ind

set_option Elab.async false
set_option linter.all false
set_option maxRecDepth 100000
set_option maxHeartbeats 4000000
namespace Ind
open PySem PySem.Spec PyProof.Rows L2 SX NumText TL
/-! ### the law's lines, read -/
theorem at_post (pre mid post : List Nat) (i : Nat) : (pre ++ mid ++ post)[pre.length + mid.length + i]? = post[i]? := by
  rw [List.getElem?_append_right (by rw [List.length_append]; omega), List.length_append, Nat.add_sub_cancel_left]
theorem lend_bad {l : List Nat} {k c : Nat} (h : l[k]? = some c) (h1 : sm1 c = false) (h2 : c ≠ 48) (h3 : c ≠ 45) (h4 : dg1 c = false) : lend l k = (k, false) := by
  unfold lend
  rw [h]
  show (if sm1 c = true then _ else if c = 48 then _ else nend _ (if c = 45 then _ else _)) = _
  rw [h1, if_neg (by decide), if_neg h2, if_neg h3]
  unfold nend
  rw [h]
  show (if dg1 c = true then _ else _) = _
  rw [h4, if_neg (by decide)]
theorem lend_minus {l : List Nat} {k : Nat} (h : l[k]? = some 45) (h2 : ∀ c, l[k + 1]? = some c → dg1 c = false) : lend l k = (k + 1, false) := by
  unfold lend
  rw [h]
  show (if sm1 45 = true then _ else if 45 = 48 then _ else nend _ (if 45 = 45 then _ else _)) = _
  rw [if_neg (by decide), if_neg (by decide), if_pos rfl]
  unfold nend
  cases e : l[k + 1]? with
  | none => rfl
  | some c =>
    show (if dg1 c = true then _ else _) = _
    rw [h2 c e, if_neg (by decide)]
theorem bad_at {l : List Nat} {k c : Nat} {p : Plc} {stk : List (List Dt)} (h : l[k]? = some c) (hp : p ≠ .behind) (h1 : sm1 c = false) (h2 : c ≠ 48) (h3 : c ≠ 45) (h4 : dg1 c = false) (h5 : ¬ (c = 40 ∧ stk.length ≤ 60)) (h6 : ¬ (c = 41 ∧ p = .first)) : Rn l k p stk (.err k) := by
  have e := lend_bad h h1 h2 h3 h4
  have := Rn.lfE (l := l) (stk := stk) h hp h5 h6 (by rw [e])
  rwa [e] at this
theorem minus_at {l : List Nat} {k : Nat} {p : Plc} {stk : List (List Dt)} (h : l[k]? = some 45) (hp : p ≠ .behind) (h2 : ∀ c, l[k + 1]? = some c → dg1 c = false) : Rn l k p stk (.err (k + 1)) := by
  have e := lend_minus h h2
  have := Rn.lfE (l := l) (stk := stk) h hp (by omega) (by omega) (by rw [e])
  rwa [e] at this
theorem ends1 {c : Nat} {r : List Nat} (h : sm1 c = false) (h2 : dg c = false) : Ends (c :: r) := ends_of h h2
/-- data that the law writes -/
structure Gd (d : Dt) : Prop where
  p : pl d 60 = true
  f : few d
  e : dep d ≤ 50
theorem Gd.rd {d : Dt} (g : Gd d) (pre post : List Nat) (p : Plc) (s : List Dt) (rst : List (List Dt)) {o : Out} (hr : rst.length ≤ 5) (he : Ends post) (hp : p ≠ .behind) (k : Rn (pre ++ wr d ++ post) (pre.length + (wr d).length) .behind ((s ++ [d]) :: rst) o) : Rn (pre ++ wr d ++ post) pre.length p (s :: rst) o :=
  rd_wr d pre post p s rst g.p g.f (by have := g.e; omega) he hp k
theorem pF : Plc.first ≠ .behind := by intro z; cases z
theorem pI : Plc.item ≠ .behind := by intro z; cases z
/-- read whole -/
theorem rd_all {d : Dt} (h : pl d 60 = true) (hf : few d) : Rn (wr d) 0 .item [[]] (.ok d) := by
  have k := rd_wr d [] [] .item [] [] (o := .ok d) h hf (by have := dep_pl h; show dep d + (0 + 1) ≤ 61; omega) ends_nil pI
  rw [List.nil_append, List.append_nil] at k
  refine k ?_
  rw [List.length_nil, Nat.zero_add]
  exact .stop
/-- one sign behind -/
theorem line_one {d : Dt} (g : Gd d) {c : Nat} (h : sm1 c = false) (h2 : dg c = false) : Rn (wr d ++ [c]) 0 .item [[]] (.err (wr d).length) := by
  have k := g.rd [] [c] .item [] [] (o := .err (wr d).length) (Nat.zero_le _) (ends1 h h2) pI
  rw [List.nil_append] at k
  refine k ?_
  have a := at_post [] (wr d) [c] 0
  rw [List.nil_append, List.length_nil, Nat.zero_add, Nat.add_zero] at a
  rw [List.length_nil, Nat.zero_add]
  exact .bErr a (.inl rfl)
theorem opn0 {l r : List Nat} {o : Out} (e : l = 40 :: r) (n : Rn l 1 .first [[], []] o) : Rn l 0 .item [[]] o := .opn (by rw [e]; rfl) pI (by decide) n
/-- ( sign .. -/
theorem line_sign {r : List Nat} {c : Nat} (h1 : sm1 c = false) (h2 : c ≠ 48) (h3 : c ≠ 45) (h4 : dg1 c = false) (h5 : c ≠ 40) (h6 : c ≠ 41) : Rn (40 :: c :: r) 0 .item [[]] (.err 1) :=
  opn0 rfl (bad_at rfl pF h1 h2 h3 h4 (fun z => h5 z.1) (fun z => h6 z.1))
/-- (text and then -/
theorem line_in {d : Dt} (g : Gd d) {post : List Nat} {o : Out} (he : Ends post) (n : Rn ([40] ++ wr d ++ post) (1 + (wr d).length) .behind [[d], []] o) : Rn ([40] ++ wr d ++ post) 0 .item [[]] o :=
  opn0 (r := wr d ++ post) rfl (g.rd [40] post .first [] [[]] (by decide) he pF n)
theorem line4 {d : Dt} (g : Gd d) : Rn ([40] ++ wr d ++ [32, 32, 97, 41]) 0 .item [[]] (.err ((wr d).length + 2)) := by
  refine line_in g (ends1 (by decide) (by decide)) ?_
  have a0 := at_post [40] (wr d) [32, 32, 97, 41] 0
  have a1 := at_post [40] (wr d) [32, 32, 97, 41] 1
  refine .bSp a0 (fun z => absurd (show (2 : Nat) = 1 from z) (by decide)) ?_
  have := bad_at (p := .item) (stk := [[d], []]) (k := 1 + (wr d).length + 1) a1 pI (by decide) (by decide) (by decide) (by decide) (fun z => absurd z.1 (by decide)) (fun z => absurd z.1 (by decide))
  rwa [show 1 + (wr d).length + 1 = (wr d).length + 2 by omega] at this ⊢
theorem line5 {d : Dt} (g : Gd d) : Rn ([40] ++ wr d) 0 .item [[]] (.err ((wr d).length + 1)) := by
  have k := line_in g (post := []) (o := .err ((wr d).length + 1)) ends_nil
  rw [List.append_nil] at k
  refine k ?_
  have e : ([40] ++ wr d).length = (wr d).length + 1 := by simp
  have := Rn.fail (l := [40] ++ wr d) (k := 1 + (wr d).length) (p := .behind) (stk := [[d], []]) (by rw [e]; omega) (.inr (show 1 < 2 by decide))
  rwa [e] at this
theorem line6 {d : Dt} (g : Gd d) : Rn ([40] ++ wr d ++ [32]) 0 .item [[]] (.err ((wr d).length + 2)) := by
  refine line_in g (ends1 (by decide) (by decide)) ?_
  have a0 := at_post [40] (wr d) [32] 0
  refine .bSp a0 (fun z => absurd (show (2 : Nat) = 1 from z) (by decide)) ?_
  have e : ([40] ++ wr d ++ [32]).length = (wr d).length + 2 := by simp
  have := Rn.fail (l := [40] ++ wr d ++ [32]) (k := 1 + (wr d).length + 1) (p := .item) (stk := [[d], []]) (by rw [e]; omega) (.inl pI)
  rwa [e] at this
theorem line7 {d : Dt} (g : Gd d) : Rn ([40] ++ wr d ++ [32, 48, 55, 41]) 0 .item [[]] (.err ((wr d).length + 3)) := by
  refine line_in g (ends1 (by decide) (by decide)) ?_
  have a0 := at_post [40] (wr d) [32, 48, 55, 41] 0
  have a1 := at_post [40] (wr d) [32, 48, 55, 41] 1
  have a2 := at_post [40] (wr d) [32, 48, 55, 41] 2
  refine .bSp a0 (fun z => absurd (show (2 : Nat) = 1 from z) (by decide)) ?_
  have el : lend ([40] ++ wr d ++ [32, 48, 55, 41]) (1 + (wr d).length + 1) = (1 + (wr d).length + 1 + 1, true) := by
    unfold lend
    rw [show ([40] ++ wr d ++ [32, 48, 55, 41])[1 + (wr d).length + 1]? = some 48 from a1]
    rfl
  refine .lf (c := 48) a1 pI (by decide) (by decide) (by rw [el]) (by rw [el]; show _ + 1 ≤ _ + 300; omega) ?_
  rw [el]
  have := Rn.bErr (l := [40] ++ wr d ++ [32, 48, 55, 41]) (k := 1 + (wr d).length + 1 + 1) (c := 55) (stk := [[d] ++ [lval (cutL ([40] ++ wr d ++ [32, 48, 55, 41]) (1 + (wr d).length + 1) (1 + (wr d).length + 1 + 1))], []]) a2 (.inr ⟨by decide, by decide⟩)
  rwa [show 1 + (wr d).length + 1 + 1 = (wr d).length + 3 by omega] at this ⊢
theorem line8 {r : List Nat} : Rn (40 :: 45 :: 48 :: r) 0 .item [[]] (.err 2) :=
  opn0 rfl (minus_at rfl pF fun c e => by have := Option.some.inj e; rw [← this]; rfl)
theorem line13 {d : Dt} (g : Gd d) : Rn ([40] ++ wr d ++ [44, 41]) 0 .item [[]] (.err ((wr d).length + 1)) := by
  refine line_in g (ends1 (by decide) (by decide)) ?_
  have a0 := at_post [40] (wr d) [44, 41] 0
  have := Rn.bErr (l := [40] ++ wr d ++ [44, 41]) (k := 1 + (wr d).length) (stk := [[d], []]) a0 (.inr ⟨by decide, by decide⟩)
  rwa [show 1 + (wr d).length = (wr d).length + 1 by omega] at this ⊢
theorem line10 : Rn [] 0 .item [[]] (.err 0) := .fail rfl (.inl pI)
def w13 : List Nat := (List.range 13).map fun i => 97 + i
theorem line11 : Rn (40 :: w13 ++ [41]) 0 .item [[]] (.err 13) := by
  refine opn0 (r := w13 ++ [41]) rfl ?_
  have el : lend (40 :: w13 ++ [41]) 1 = (13, true) := by decide +kernel
  refine .lf (c := 97) (by decide +kernel) pF (by decide) (by decide) (by rw [el]) (by rw [el]; decide) ?_
  rw [el]
  exact .bErr (c := 109) (by decide +kernel) (.inr ⟨by decide, by decide⟩)
theorem line12 : Rn [45] 0 .item [[]] (.err 1) := minus_at rfl pI fun c e => by cases e
theorem line14 : Rn [43, 49] 0 .item [[]] (.err 0) := bad_at rfl pI (by decide) (by decide) (by decide) (by decide) (fun z => absurd z.1 (by decide)) (fun z => absurd z.1 (by decide))
theorem line15 : Rn [41] 0 .item [[]] (.err 0) := bad_at rfl pI (by decide) (by decide) (by decide) (by decide) (by decide) (fun z => by cases z.2)
theorem line16 : Rn [40, 49, 32, 45, 41] 0 .item [[]] (.err 4) := by
  refine opn0 (r := [49, 32, 45, 41]) rfl ?_
  have el : lend [40, 49, 32, 45, 41] 1 = (2, true) := by decide +kernel
  refine .lf (c := 49) rfl pF (by decide) (by decide) (by rw [el]) (by rw [el]; decide) ?_
  rw [el]
  exact .bSp rfl (by decide) (minus_at rfl pI fun c e => by have := Option.some.inj e; rw [← this]; rfl)
/-- parentheses alone -/
def nest : Nat → Dt
  | 0 => .tup .nil
  | n + 1 => .tup (.cons (nest n) .nil)
theorem wr_nest : ∀ n, wr (nest n) = List.replicate (n + 1) 40 ++ List.replicate (n + 1) 41
  | 0 => rfl
  | n + 1 => by
    show 40 :: (wr (nest n) ++ [41]) = _
    rw [wr_nest n, List.replicate_succ (n := n + 1), List.replicate_succ' (n := n + 1) (a := 41)]
    simp
theorem nest_pl : ∀ n r, pl (nest n) r = decide (n < r)
  | n, 0 => by
    cases n <;> rfl
  | 0, r + 1 => by
    rw [decide_eq_true (by omega)]
    rfl
  | n + 1, r + 1 => by
    show (pl (nest n) r && true) = _
    rw [Bool.and_true, nest_pl n r]
    by_cases h : n < r
    · rw [decide_eq_true h, decide_eq_true (by omega)]
    · rw [decide_eq_false h, decide_eq_false (by omega)]
theorem nest_few : ∀ n, few (nest n)
  | 0 => by
    show fews .nil
    unfold fews
    trivial
  | n + 1 => by
    show fews (.cons (nest n) .nil)
    unfold fews
    exact ⟨nest_few n, by unfold fews; trivial⟩
theorem nest_shrt : ∀ n, shrt (nest n)
  | 0 => by
    show _ ≤ 10000 ∧ shrts .nil
    exact ⟨by decide, by unfold shrts; trivial⟩
  | n + 1 => by
    show _ ≤ 10000 ∧ shrts (.cons (nest n) .nil)
    exact ⟨by show 0 + 1 ≤ 10000; decide, by unfold shrts; exact ⟨nest_shrt n, by unfold shrts; trivial⟩⟩
theorem opens {l : List Nat} {o : Out} : ∀ (j k : Nat) (p : Plc) (stk : List (List Dt)), p ≠ .behind → stk.length + j ≤ 61 → (∀ i, i < j → l[k + i]? = some 40) → (∀ p stk', p ≠ .behind → stk'.length = stk.length + j → Rn l (k + j) p stk' o) → Rn l k p stk o
  | 0, k, p, stk, hp, _, _, n => n p stk hp rfl
  | j + 1, k, p, stk, hp, hl, h, n => .opn (h 0 (by omega)) hp (by omega) (opens j (k + 1) .first ([] :: stk) pF (by simp only [List.length_cons]; omega) (fun i hi => by
      have := h (i + 1) (by omega)
      rwa [show k + (i + 1) = k + 1 + i by omega] at this) fun p2 stk2 hp2 h2 => by
      have := n p2 stk2 hp2 (by simp only [List.length_cons] at h2; omega)
      rwa [show k + (j + 1) = k + 1 + j by omega] at this)
theorem line61 : Rn (List.replicate 61 40 ++ List.replicate 61 41) 0 .item [[]] (.err 60) := by
  refine opens 60 0 .item [[]] pI (by decide) (fun i hi => ?_) fun p stk hp hl => ?_
  · rw [Nat.zero_add, List.getElem?_append_left (by rw [List.length_replicate]; omega), List.getElem?_replicate, if_pos (by omega)]
  · refine bad_at (c := 40) (by decide +kernel) hp (by decide) (by decide) (by decide) (by decide) (fun z => ?_) (fun z => absurd z.1 (by decide))
    have hl : stk.length = 1 + 60 := hl
    omega
end Ind

set_option Elab.async false
set_option linter.all false
set_option maxRecDepth 100000
set_option maxHeartbeats 4000000
namespace Ind
open PySem PySem.Spec PyProof.Rows L2 SX
open Builtin.Int (intBits)
abbrev sLaw : Stmt := top 34
def spLaw (K : PySem.W.Frag) : Sp := fun vs H Q _ => ∃ (a : Addr) (ns : List Int), vs = [.ref a] ∧ SqL K H a (ns.map V.int) ∧ ∀ H', Q (.bl true) H'
/-- text * number -/
theorem op_mulS {X : Cx} : OpR X (binaryOp .Mult) (fun x y H Q => ∃ z i, x = .str z ∧ y = .int i ∧ z.length ≤ 16 ∧ 0 ≤ i ∧ i ≤ 1048576 ∧ Q (.str (Txt.mul z i)) H) := by
  intro pins s σ H x y v u Q I rx ry h
  obtain ⟨z, i, rfl, rfl, hz, h0, h1, q⟩ := h
  obtain ⟨t, rfl⟩ := rx
  obtain ⟨t', rfl⟩ := ry
  exact PySem.W.KXi.mul rfl hz (by omega) (by omega) fun t2 k _ _ => ⟨.str (Txt.mul z i), H, I.tok _, ⟨_, rfl⟩, q⟩
theorem lt0 : Str.ofString " " = S [32] := by decide +kernel
theorem lt1 : Str.ofString ")" = S [41] := by decide +kernel
theorem lt2 : Str.ofString "( " = S [40, 32] := by decide +kernel
theorem lt3 : Str.ofString "(" = S [40] := by decide +kernel
theorem lt4 : Str.ofString "  a)" = S [32, 32, 97, 41] := by decide +kernel
theorem lt5 : Str.ofString " 07)" = S [32, 48, 55, 41] := by decide +kernel
theorem lt6 : Str.ofString "(-0 " = S [40, 45, 48, 32] := by decide +kernel
theorem lt7 : Str.ofString "(A " = S [40, 65, 32] := by decide +kernel
theorem lt8 : Str.ofString "" = S [] := by decide +kernel
theorem lt9 : Str.ofString "(abcdefghijklm)" = S [40, 97, 98, 99, 100, 101, 102, 103, 104, 105, 106, 107, 108, 109, 41] := by decide +kernel
theorem lt10 : Str.ofString "-" = S [45] := by decide +kernel
theorem lt11 : Str.ofString ",)" = S [44, 41] := by decide +kernel
theorem lt12 : Str.ofString "+1" = S [43, 49] := by decide +kernel
theorem lt13 : Str.ofString "(1 -)" = S [40, 49, 32, 45, 41] := by decide +kernel
theorem mulA : Txt.mul (Str.ofString "(") 60 = S (List.replicate 60 40) := by decide +kernel
theorem mulB : Txt.mul (Str.ofString ")") 60 = S (List.replicate 60 41) := by decide +kernel
theorem mulC : Txt.mul (Str.ofString "(") 61 = S (List.replicate 61 40) := by decide +kernel
theorem mulD : Txt.mul (Str.ofString ")") 61 = S (List.replicate 61 41) := by decide +kernel
theorem cat_le {a b : Str} {l m : List Nat} (ha : a = S l) (hb : b = S m) (h : l.length + m.length ≤ 100000) : a.length + b.length ≤ sizeLine := by
  rw [ha, hb, S_len, S_len]
  exact Nat.le_trans h (by decide)
/-- a line and its index -/
def Ln (H : Hp) (v : V) (q : List Nat × Nat) : Prop := ∃ t, v = .ref t ∧ H t = some (.tup [.str (S q.1), .int (q.2 : Int)])
theorem Ln.same {H H' : Hp} {v : V} {q : List Nat × Nat} (h : Ln H v q) (s : Same H H') : Ln H' v q := by
  obtain ⟨t, e, h⟩ := h
  exact ⟨t, e, s _ _ h⟩
theorem ln_new {H : Hp} {t : Addr} {x y : V} {q : List Nat × Nat} (hx : x = .str (S q.1)) (hy : y = .int (q.2 : Int)) : Ln (upd H t (.tup [x, y])) (.ref t) q := ⟨t, rfl, by rw [upd_same, hx, hy]⟩
theorem paired_app {α β : Type} {F : α → β → Prop} : ∀ {xs : List α} {ys : List β} {us : List α} {ws : List β}, Paired F xs ys → Paired F us ws → Paired F (xs ++ us) (ys ++ ws)
  | _, _, _, _, .nil, h => h
  | _, _, _, _, .cons a t, h => .cons a (paired_app t h)
def dueQ (t : List Nat) : List (List Nat × Nat) := [(t ++ [32], (t).length), (t ++ [41], (t).length), ([40, 32] ++ t ++ [41], 1), ([40] ++ t ++ [32, 32, 97, 41], ((t).length + 2)), ([40] ++ t, ((t).length + 1)), ([40] ++ t ++ [32], ((t).length + 2)), ([40] ++ t ++ [32, 48, 55, 41], ((t).length + 3)), ([40, 45, 48, 32] ++ t ++ [41], 2), ([40, 65, 32] ++ t ++ [41], 1), ([], 0), ([40, 97, 98, 99, 100, 101, 102, 103, 104, 105, 106, 107, 108, 109, 41], 13), ([45], 1), ([40] ++ t ++ [44, 41], ((t).length + 1)), ([43, 49], 0), ([41], 0), ([40, 49, 32, 45, 41], 4)]
theorem due_ok {d : Dt} (g : Gd d) (hl : (wr d).length ≤ 10568) : ∀ q ∈ dueQ (wr d), q.1.length ≤ 200000 ∧ Rn q.1 0 .item [[]] (.err q.2) := by
  intro q hq
  unfold dueQ at hq
  simp only [List.mem_cons, List.not_mem_nil, or_false] at hq
  rcases hq with rfl | rfl | rfl | rfl | rfl | rfl | rfl | rfl | rfl | rfl | rfl | rfl | rfl | rfl | rfl | rfl
  · exact ⟨by simp; omega, line_one g (by decide) (by decide)⟩
  · exact ⟨by simp; omega, line_one g (by decide) (by decide)⟩
  · exact ⟨by simp; omega, line_sign (by decide) (by decide) (by decide) (by decide) (by decide) (by decide)⟩
  · exact ⟨by simp; omega, line4 g⟩
  · exact ⟨by simp; omega, line5 g⟩
  · exact ⟨by simp; omega, line6 g⟩
  · exact ⟨by simp; omega, line7 g⟩
  · exact ⟨by simp; omega, line8⟩
  · exact ⟨by simp; omega, line_sign (by decide) (by decide) (by decide) (by decide) (by decide) (by decide)⟩
  · exact ⟨by decide, line10⟩
  · exact ⟨by decide, line11⟩
  · exact ⟨by decide, line12⟩
  · exact ⟨by simp; omega, line13 g⟩
  · exact ⟨by decide, line14⟩
  · exact ⟨by decide, line15⟩
  · exact ⟨by decide, line16⟩
theorem ltE : Str.ofString "" = S [] := by decide +kernel
theorem ltA : Str.ofString "A" = S [65] := by decide +kernel
theorem ltW : Str.ofString "abcdefghijklm" = S w13 := by decide +kernel
def badQ (e : Dt) : List Dt := [.ls, .bl true, .non, .tup (.cons e (.cons .ls .nil)), .wrd [], .wrd [65], .wrd w13, nest 60, .tup (.cons (.bl false) .nil)]
theorem bad_ok {d : Dt} (h : shrt d) : ∀ x ∈ badQ d, shrt x ∧ pl x 60 = false := by
  intro x hx
  unfold badQ at hx
  simp only [List.mem_cons, List.not_mem_nil, or_false] at hx
  rcases hx with rfl | rfl | rfl | rfl | rfl | rfl | rfl | rfl | rfl
  · exact ⟨by unfold shrt; trivial, rfl⟩
  · exact ⟨by unfold shrt; trivial, rfl⟩
  · exact ⟨by unfold shrt; trivial, rfl⟩
  · refine ⟨?_, ?_⟩
    · unfold shrt
      refine ⟨by show 2 ≤ 10000; decide, ?_⟩
      unfold shrts
      refine ⟨h, ?_⟩
      unfold shrts
      exact ⟨by unfold shrt; trivial, by unfold shrts; trivial⟩
    · show (pl d 59 && (false && true)) = false
      cases pl d 59 <;> rfl
  · exact ⟨by unfold shrt; decide, by decide +kernel⟩
  · exact ⟨by unfold shrt; decide, by decide +kernel⟩
  · exact ⟨by unfold shrt; decide +kernel, by decide +kernel⟩
  · exact ⟨nest_shrt 60, nest_pl 60 60⟩
  · refine ⟨?_, rfl⟩
    unfold shrt
    refine ⟨by show 1 ≤ 10000; decide, ?_⟩
    unfold shrts
    exact ⟨by unfold shrt; trivial, by unfold shrts; trivial⟩
structure LawF (P : Program) (w : World) (K : PySem.W.Frag) (mg : Str → Option Value) (base : Heap) (Nt Ma : Addr) (fDr fLd fLw fWr fLs fRd fLa fLi fLm : Addr) (dDr dLd dLw dWr dLs dRd dLa dLi dLm : FuncData) : Prop where
  Dr : Cl P w K mg base CX0 2 "_law_draws" fDr dDr ["script", "at", "count", "bound"] (spDraws K)
  Ld : Cl P w K mg base CX0 8 "_law_data" fLd dLd ["script", "row", "at", "deep"] (spLd K 6)
  Lw : Cl P w K mg base CX0 8 "_law_written" fLw dLw ["value"] (spWp 6)
  Wr : Cl P w K mg base (L2.CX P w) 65 "written" fWr dWr ["data"] (spWrt Ma)
  Ls : Cl P w K mg base CX0 8 "_law_same" fLs dLs ["one", "two"] (spLs 6)
  Rd : Cl P w K mg base (L2.CX P w) 4 "read_data" fRd dRd ["text"] (spRd Nt)
  La : Cl P w K mg base CX0 5 "_law_at" fLa dLa ["text"] spLa
  Li : Cl P w K mg base CX0 1 "_law_is_integer" fLi dLi ["value"] spIi
  Lm : Cl P w K mg base CX0 66 "_law_malformed" fLm dLm ["value"] spLm
abbrev nL : List Str := ["script", "row", "value", "text", "told", "size", "due", "line", "at", "found", "deep", "bad"]
section
variable {P : Program} {w : World} {K : PySem.W.Frag} {mg : Str → Option Value} {base : Heap} {Nt Ma : Addr}
theorem scL : FnScope nL ["script"] (defScope sLaw) := ⟨rfl, rfl, rfl, by decide +kernel, rfl, by decide +kernel, by decide +kernel⟩
theorem ok_law {f fDr fLd fLw fWr fLs fRd fLa fLi fLm : Addr} {fd dDr dLd dLw dWr dLs dRd dLa dLi dLm : FuncData} (F : Fun K "law" "law" sLaw f fd) (T : TxL K mg) (D : TxD mg)
    (L : LawF P w K mg base Nt Ma fDr fLd fLw fWr fLs fRd fLa fLi fLm dDr dLd dLw dWr dLs dRd dLa dLi dLm) : FnOk P w K mg base CX0 67 f fd ["script"] (spLaw K) := by
  refine F.ok scL (fun vs H Q E h => ?_) (fun cdv A outer s H vs Q E hr h => ?_)
  · obtain ⟨a, ns, rfl, _⟩ := h
    rfl
  · obtain ⟨a, ns, rfl, hS, kq⟩ := h
    have hDr := hr.mono (show 2 ≤ 66 by decide)
    have hLd := hr.mono (show 8 ≤ 66 by decide)
    have hLw := hr.mono (show 8 ≤ 66 by decide)
    have hWr := hr.mono (show 65 ≤ 66 by decide)
    have hLs := hr.mono (show 8 ≤ 66 by decide)
    have hRd := hr.mono (show 4 ≤ 66 by decide)
    have hLa := hr.mono (show 5 ≤ 66 by decide)
    have hLi := hr.mono (show 1 ≤ 66 by decide)
    have hLm := hr
    refine ⟨_, pss_cons (ps_set (i := 1) scL.nd rfl (Or.inl rfl) (pe_call L.Dr.fn hDr (by rfl) L.Dr.g L.Dr.kp L.Dr.b .nil pass0 (pa_cons (pv 0) (pa_cons pe_int (pa_cons pe_int (pa_cons pe_int pa_nil))))))
      (pss_cons (ps_set (i := 2) scL.nd rfl (Or.inl rfl) (pe_call L.Ld.fn hLd (by rfl) L.Ld.g L.Ld.kp L.Ld.b .nil pass0 (pa_cons (pv 0) (pa_cons (pv 1) (pa_cons pe_int (pa_cons (pe_op op_modN (pe_ix ix_list (pv 1) pe_int fun _ _ => rfl) pe_int) pa_nil))))))
      (pss_cons (ps_set (i := 3) scL.nd rfl (Or.inl rfl) (pe_call L.Lw.fn hLw (by rfl) L.Lw.g L.Lw.kp L.Lw.b .nil pass0 (pa_cons (pv 2) pa_nil)))
      (pss_cons (ps_set (i := 4) scL.nd rfl (Or.inl rfl) (pe_call (E := E0) L.Wr.fn hWr (by rfl) L.Wr.g L.Wr.kp L.Wr.b .nil passL (pa_cons (pv 2) pa_nil)))
      (pss_cons (ps_if (PW.pt (pw_or (pt_not (pt_val (pe_callB call_isi (by rfl) T.isinstance (by decide +kernel) (pa_cons (pv 4) (pa_cons (pe_bltn (v := .ty "str") (by rfl) D.str (by decide +kernel) rfl) pa_nil))))) (pw_or (pt_cmpR op_ne (pv 4) (pv 3) (nomark _)) (pw_or1 (pt_not (pt_val (pe_call L.Ls.fn hLs (by rfl) L.Ls.g L.Ls.kp L.Ls.b .nil pass0 (pa_cons (pe_call (E := E0) L.Rd.fn hRd (by rfl) L.Rd.g L.Rd.kp L.Rd.b .nil passL (pa_cons (pv 3) pa_nil)) (pa_cons (pv 2) pa_nil)))))))))
        (pss_one (ps_ret pe_bl))
        pss_nil)
      (pss_cons (ps_set (i := 5) scL.nd rfl (Or.inl rfl) (pe_callB call_len_str (by rfl) T.len PySem.boot_len (pa_cons (pv 3) pa_nil)))
      (pss_cons (ps_set (i := 6) scL.nd rfl (Or.inl rfl) (pe_lst (pa_cons (pe_tup (pa_cons (pe_op op_add_str (pv 3) pe_str) (pa_cons (pv 5) pa_nil))) (pa_cons (pe_tup (pa_cons (pe_op op_add_str (pv 3) pe_str) (pa_cons (pv 5) pa_nil))) (pa_cons (pe_tup (pa_cons (pe_op op_add_str (pe_op op_add_str pe_str (pv 3)) pe_str) (pa_cons pe_int pa_nil))) (pa_cons (pe_tup (pa_cons (pe_op op_add_str (pe_op op_add_str pe_str (pv 3)) pe_str) (pa_cons (pe_op op_add (pv 5) pe_int) pa_nil))) (pa_cons (pe_tup (pa_cons (pe_op op_add_str pe_str (pv 3)) (pa_cons (pe_op op_add (pv 5) pe_int) pa_nil))) pa_nil)))))))
      (pss_cons (ps_set (i := 6) scL.nd rfl (Or.inl rfl) (pe_op op_cat (pv 6) (pe_lst (pa_cons (pe_tup (pa_cons (pe_op op_add_str (pe_op op_add_str pe_str (pv 3)) pe_str) (pa_cons (pe_op op_add (pv 5) pe_int) pa_nil))) (pa_cons (pe_tup (pa_cons (pe_op op_add_str (pe_op op_add_str pe_str (pv 3)) pe_str) (pa_cons (pe_op op_add (pv 5) pe_int) pa_nil))) (pa_cons (pe_tup (pa_cons (pe_op op_add_str (pe_op op_add_str pe_str (pv 3)) pe_str) (pa_cons pe_int pa_nil))) (pa_cons (pe_tup (pa_cons (pe_op op_add_str (pe_op op_add_str pe_str (pv 3)) pe_str) (pa_cons pe_int pa_nil))) pa_nil)))))))
      (pss_cons (ps_set (i := 6) scL.nd rfl (Or.inl rfl) (pe_op op_cat (pv 6) (pe_lst (pa_cons (pe_tup (pa_cons pe_str (pa_cons pe_int pa_nil))) (pa_cons (pe_tup (pa_cons pe_str (pa_cons pe_int pa_nil))) (pa_cons (pe_tup (pa_cons pe_str (pa_cons pe_int pa_nil))) (pa_cons (pe_tup (pa_cons (pe_op op_add_str (pe_op op_add_str pe_str (pv 3)) pe_str) (pa_cons (pe_op op_add (pv 5) pe_int) pa_nil))) (pa_cons (pe_tup (pa_cons pe_str (pa_cons pe_int pa_nil))) (pa_cons (pe_tup (pa_cons pe_str (pa_cons pe_int pa_nil))) (pa_cons (pe_tup (pa_cons pe_str (pa_cons pe_int pa_nil))) pa_nil))))))))))
      (pss_cons (ps_for PassesOwn.never rfl (pi_list (pv 6)) (pg_tup (by rfl) (pgs_cons (pg_name (i := 7) scL.nd rfl (Or.inl rfl)) (pgs_cons (pg_name (i := 8) scL.nd rfl (Or.inl rfl)) pgs_nil)))
        (pss_cons (ps_set (i := 9) scL.nd rfl (Or.inl rfl) (pe_call L.La.fn hLa (by rfl) L.La.g L.La.kp L.La.b .nil pass0 (pa_cons (pv 7) pa_nil)))
      (pss_one (ps_if (PW.pt (pw_or (pt_not (pt_val (pe_call L.Li.fn hLi (by rfl) L.Li.g L.Li.kp L.Li.b .nil pass0 (pa_cons (pv 9) pa_nil)))) (pw_or1 (pt_cmpR op_ne (pv 9) (pv 8) (nomark _)))))
        (pss_one (ps_ret pe_bl))
        pss_nil))))
      (pss_cons (ps_set (i := 10) scL.nd rfl (Or.inl rfl) (pe_op op_add_str (pe_op op_mulS pe_str pe_int) (pe_op op_mulS pe_str pe_int)))
      (pss_cons (ps_if (PW.pt (pw_or (pt_cmpR op_ne (pe_call (E := E0) L.Wr.fn hWr (by rfl) L.Wr.g L.Wr.kp L.Wr.b .nil passL (pa_cons (pe_call (E := E0) L.Rd.fn hRd (by rfl) L.Rd.g L.Rd.kp L.Rd.b .nil passL (pa_cons (pv 10) pa_nil)) pa_nil)) (pv 10) (nomark _)) (pw_or (pt_cmpR op_ne (pe_call L.La.fn hLa (by rfl) L.La.g L.La.kp L.La.b .nil pass0 (pa_cons (pe_op op_add_str (pe_op op_mulS pe_str pe_int) (pe_op op_mulS pe_str pe_int)) pa_nil)) pe_int (nomark _)) (pw_or1 (pt_cmpR op_ne (pe_call L.La.fn hLa (by rfl) L.La.g L.La.kp L.La.b .nil pass0 (pa_cons pe_non pa_nil)) pe_int (nomark _))))))
        (pss_one (ps_ret pe_bl))
        pss_nil)
      (pss_cons (ps_for PassesOwn.never rfl (pi_list (pe_lst (pa_cons (pe_lst (pa_cons (pv 2) pa_nil)) (pa_cons pe_bl (pa_cons pe_non (pa_cons (pe_tup (pa_cons (pv 2) (pa_cons (pe_lst (pa_cons pe_int pa_nil)) pa_nil))) (pa_cons pe_str (pa_cons pe_str (pa_cons pe_str (pa_cons (pe_tup (pa_cons (pe_call (E := E0) L.Rd.fn hRd (by rfl) L.Rd.g L.Rd.kp L.Rd.b .nil passL (pa_cons (pv 10) pa_nil)) pa_nil)) (pa_cons (pe_tup (pa_cons pe_bl pa_nil)) pa_nil))))))))))) (pg_name (i := 11) scL.nd rfl (Or.inl rfl))
        (pss_one (ps_if (pt_not (pt_val (pe_call L.Lm.fn hLm (by rfl) L.Lm.g L.Lm.kp L.Lm.b .nil pass0 (pa_cons (pv 11) pa_nil))))
        (pss_one (ps_ret pe_bl))
        pss_nil)))
      (pss_one (ps_ret pe_bl)))))))))))))), ?_⟩
    refine ⟨_, rfl, a, ns, 6, 60, 95, rfl, hS, by decide, by decide, by decide, by decide, fun ds H1 p hds s1 n1 e1 => ?_⟩
    have h0 : 0 < ds.length := by rw [hds.1]; decide
    have ex : (ds.map V.int)[0]? = some (.int ds[0]) := by rw [List.getElem?_map, List.getElem?_eq_getElem h0]; rfl
    have hm := fmod_in (x := ds[0]) (b := 6) (by decide)
    obtain ⟨dd, hdd⟩ : ∃ n : Nat, (ds[0]).fmod 6 = (n : Int) := ⟨((ds[0]).fmod 6).toNat, by omega⟩
    rw [hdd] at hm
    refine ⟨_, rfl, _, rfl, _, rfl, p, _, _, _, rfl, rfl, SqL.of e1, atI_of ex, _, _, rfl, rfl, (by show (6 : Int) ≠ 0; decide), a, p, ns, ds, 1, dd, ?_, sqL_same hS s1, e1, hds, by omega, by omega, Nat.pow_pos (by decide), fun H2 v e s2 hv hb => ?_⟩
    · show [V.ref a, V.ref p, V.int 1, V.int ((ds[0]).fmod 6)] = _
      rw [hdd]
      rfl
    have g : Gd e := ⟨bd_pl hb (by omega), bd_few hb, by have := bd_dep hb; omega⟩
    have hlen := bd_5 hb (by omega)
    have hdep : dep e < 6 := by have := bd_dep hb; omega
    refine ⟨_, rfl, v, e, rfl, hv, hdep, g.f, by omega, fun H3 s3 => ?_⟩
    refine ⟨_, rfl, v, e, rfl, hv.same s3, bd_shrt hb, (fun z => by rw [g.p] at z; cases z), fun _ => ⟨g.f, by omega, fun H4 s4 => ?_⟩⟩
    have hv4 := (hv.same s3).same s4
    refine ⟨_, rfl, _, _, _, _, true, rfl, ClsV.ty "str", .base (.str _), kit_ty (by decide +kernel), true, rfl, iteF ⟨_, rfl, _, rfl, rfl, _, rfl, ?_⟩⟩
    rw [show (!decide (V.str (S (wr e)) = V.str (S (wr e)))) = false by simp]
    refine iteF ⟨_, rfl, .inl ⟨wr e, .ok e, rfl, by omega, rd_all g.p g.f, (fun n z => by cases z), fun d' z H5 u s5 hu => ?_⟩⟩
    cases z
    refine ⟨_, rfl, u, v, e, rfl, hu, hv4.same s5, hdep, g.f, by omega, _, rfl, iteF ?_⟩
    refine ⟨_, rfl, S (wr e), rfl, S_le (n := 200000) (by omega), ?_⟩
    rw [S_len]
    have hv0 := hv4.same s5
    clear hv hv4 s1 s2 s3 s4 s5 hu
    generalize eG : H5 = G0 at hv0 ⊢
    refine ⟨_, rfl, _, _, rfl, rfl, cat_le rfl lt0 (by show _ + 1 ≤ _; omega), _, rfl, (by show 2 ≤ sizeLine; decide), fun t1 h1 => ?_⟩
    obtain ⟨G1, s1, g1, a1⟩ : ∃ G, Same G0 G ∧ Ln G (.ref t1) (wr e ++ [32], (wr e).length) ∧ upd G0 t1 (.tup [V.str (S (wr e) ++ Str.ofString " "), V.int ((wr e).length : Int)]) = G := ⟨_, same_upd h1, ln_new (by show V.str (S (wr e) ++ Str.ofString " ") = V.str (S _); rw [lt0, S_cat]) rfl, rfl⟩
    rw [show upd G0 t1 (.tup [V.str (S (wr e) ++ Str.ofString " "), V.int ((wr e).length : Int)]) = G1 from a1]
    clear a1
    refine ⟨_, rfl, _, _, rfl, rfl, cat_le rfl lt1 (by show _ + 1 ≤ _; omega), _, rfl, (by show 2 ≤ sizeLine; decide), fun t2 h2 => ?_⟩
    obtain ⟨G2, s2, g2, a2⟩ : ∃ G, Same G1 G ∧ Ln G (.ref t2) (wr e ++ [41], (wr e).length) ∧ upd G1 t2 (.tup [V.str (S (wr e) ++ Str.ofString ")"), V.int ((wr e).length : Int)]) = G := ⟨_, same_upd h2, ln_new (by show V.str (S (wr e) ++ Str.ofString ")") = V.str (S _); rw [lt1, S_cat]) rfl, rfl⟩
    rw [show upd G1 t2 (.tup [V.str (S (wr e) ++ Str.ofString ")"), V.int ((wr e).length : Int)]) = G2 from a2]
    clear a2
    refine ⟨_, rfl, _, _, rfl, rfl, cat_le lt2 rfl (by show 2 + _ ≤ _; omega), _, _, rfl, rfl, cat_le (by rw [lt2, S_cat]) lt1 (by rw [List.length_append]; show 2 + _ + 1 ≤ _; omega), (by show 2 ≤ sizeLine; decide), fun t3 h3 => ?_⟩
    obtain ⟨G3, s3, g3, a3⟩ : ∃ G, Same G2 G ∧ Ln G (.ref t3) ([40, 32] ++ wr e ++ [41], 1) ∧ upd G2 t3 (.tup [V.str (Str.ofString "( " ++ S (wr e) ++ Str.ofString ")"), V.int 1]) = G := ⟨_, same_upd h3, ln_new (by show V.str (Str.ofString "( " ++ S (wr e) ++ Str.ofString ")") = V.str (S _); rw [lt2, S_cat, lt1, S_cat]) rfl, rfl⟩
    rw [show upd G2 t3 (.tup [V.str (Str.ofString "( " ++ S (wr e) ++ Str.ofString ")"), V.int 1]) = G3 from a3]
    clear a3
    refine ⟨_, rfl, _, _, rfl, rfl, cat_le lt3 rfl (by show 1 + _ ≤ _; omega), _, _, rfl, rfl, cat_le (by rw [lt3, S_cat]) lt4 (by rw [List.length_append]; show 1 + _ + 4 ≤ _; omega), _, rfl, _, _, rfl, rfl, (by show 2 ≤ sizeLine; decide), fun t4 h4 => ?_⟩
    obtain ⟨G4, s4, g4, a4⟩ : ∃ G, Same G3 G ∧ Ln G (.ref t4) ([40] ++ wr e ++ [32, 32, 97, 41], ((wr e).length + 2)) ∧ upd G3 t4 (.tup [V.str (Str.ofString "(" ++ S (wr e) ++ Str.ofString "  a)"), V.int (((wr e).length : Int) + 2)]) = G := ⟨_, same_upd h4, ln_new (by show V.str (Str.ofString "(" ++ S (wr e) ++ Str.ofString "  a)") = V.str (S _); rw [lt3, S_cat, lt4, S_cat]) rfl, rfl⟩
    rw [show upd G3 t4 (.tup [V.str (Str.ofString "(" ++ S (wr e) ++ Str.ofString "  a)"), V.int (((wr e).length : Int) + 2)]) = G4 from a4]
    clear a4
    refine ⟨_, rfl, _, _, rfl, rfl, cat_le lt3 rfl (by show 1 + _ ≤ _; omega), _, rfl, _, _, rfl, rfl, (by show 2 ≤ sizeLine; decide), fun t5 h5 => ?_⟩
    obtain ⟨G5, s5, g5, a5⟩ : ∃ G, Same G4 G ∧ Ln G (.ref t5) ([40] ++ wr e, ((wr e).length + 1)) ∧ upd G4 t5 (.tup [V.str (Str.ofString "(" ++ S (wr e)), V.int (((wr e).length : Int) + 1)]) = G := ⟨_, same_upd h5, ln_new (by show V.str (Str.ofString "(" ++ S (wr e)) = V.str (S _); rw [lt3, S_cat]) rfl, rfl⟩
    rw [show upd G4 t5 (.tup [V.str (Str.ofString "(" ++ S (wr e)), V.int (((wr e).length : Int) + 1)]) = G5 from a5]
    clear a5
    have p6 : Paired (Ln G5) [V.ref t1, V.ref t2, V.ref t3, V.ref t4, V.ref t5] [(wr e ++ [32], (wr e).length), (wr e ++ [41], (wr e).length), ([40, 32] ++ wr e ++ [41], 1), ([40] ++ wr e ++ [32, 32, 97, 41], ((wr e).length + 2)), ([40] ++ wr e, ((wr e).length + 1))] := .cons (g1.same (((s2.trans s3).trans s4).trans s5)) (.cons (g2.same ((s3.trans s4).trans s5)) (.cons (g3.same (s4.trans s5)) (.cons (g4.same s5) (.cons g5 .nil))))
    refine ⟨(by show 5 ≤ sizeLine; decide), fun t6 h6 => ?_⟩
    obtain ⟨G6, s6, a6, b6⟩ : ∃ G, Same G5 G ∧ G t6 = some (.lst [V.ref t1, V.ref t2, V.ref t3, V.ref t4, V.ref t5]) ∧ upd G5 t6 (.lst [V.ref t1, V.ref t2, V.ref t3, V.ref t4, V.ref t5]) = G := ⟨_, same_upd h6, upd_same, rfl⟩
    rw [show upd G5 t6 (.lst [V.ref t1, V.ref t2, V.ref t3, V.ref t4, V.ref t5]) = G6 from b6]
    clear b6
    replace p6 := Paired.imp (fun _ _ z => Ln.same z s6) p6
    refine ⟨_, rfl, ?_⟩
    refine ⟨_, rfl, _, _, rfl, rfl, cat_le lt3 rfl (by show 1 + _ ≤ _; omega), _, _, rfl, rfl, cat_le (by rw [lt3, S_cat]) lt0 (by rw [List.length_append]; show 1 + _ + 1 ≤ _; omega), _, rfl, _, _, rfl, rfl, (by show 2 ≤ sizeLine; decide), fun t7 h7 => ?_⟩
    obtain ⟨G7, s7, g7, a7⟩ : ∃ G, Same G6 G ∧ Ln G (.ref t7) ([40] ++ wr e ++ [32], ((wr e).length + 2)) ∧ upd G6 t7 (.tup [V.str (Str.ofString "(" ++ S (wr e) ++ Str.ofString " "), V.int (((wr e).length : Int) + 2)]) = G := ⟨_, same_upd h7, ln_new (by show V.str (Str.ofString "(" ++ S (wr e) ++ Str.ofString " ") = V.str (S _); rw [lt3, S_cat, lt0, S_cat]) rfl, rfl⟩
    rw [show upd G6 t7 (.tup [V.str (Str.ofString "(" ++ S (wr e) ++ Str.ofString " "), V.int (((wr e).length : Int) + 2)]) = G7 from a7]
    clear a7
    refine ⟨_, rfl, _, _, rfl, rfl, cat_le lt3 rfl (by show 1 + _ ≤ _; omega), _, _, rfl, rfl, cat_le (by rw [lt3, S_cat]) lt5 (by rw [List.length_append]; show 1 + _ + 4 ≤ _; omega), _, rfl, _, _, rfl, rfl, (by show 2 ≤ sizeLine; decide), fun t8 h8 => ?_⟩
    obtain ⟨G8, s8, g8, a8⟩ : ∃ G, Same G7 G ∧ Ln G (.ref t8) ([40] ++ wr e ++ [32, 48, 55, 41], ((wr e).length + 3)) ∧ upd G7 t8 (.tup [V.str (Str.ofString "(" ++ S (wr e) ++ Str.ofString " 07)"), V.int (((wr e).length : Int) + 3)]) = G := ⟨_, same_upd h8, ln_new (by show V.str (Str.ofString "(" ++ S (wr e) ++ Str.ofString " 07)") = V.str (S _); rw [lt3, S_cat, lt5, S_cat]) rfl, rfl⟩
    rw [show upd G7 t8 (.tup [V.str (Str.ofString "(" ++ S (wr e) ++ Str.ofString " 07)"), V.int (((wr e).length : Int) + 3)]) = G8 from a8]
    clear a8
    refine ⟨_, rfl, _, _, rfl, rfl, cat_le lt6 rfl (by show 4 + _ ≤ _; omega), _, _, rfl, rfl, cat_le (by rw [lt6, S_cat]) lt1 (by rw [List.length_append]; show 4 + _ + 1 ≤ _; omega), (by show 2 ≤ sizeLine; decide), fun t9 h9 => ?_⟩
    obtain ⟨G9, s9, g9, a9⟩ : ∃ G, Same G8 G ∧ Ln G (.ref t9) ([40, 45, 48, 32] ++ wr e ++ [41], 2) ∧ upd G8 t9 (.tup [V.str (Str.ofString "(-0 " ++ S (wr e) ++ Str.ofString ")"), V.int 2]) = G := ⟨_, same_upd h9, ln_new (by show V.str (Str.ofString "(-0 " ++ S (wr e) ++ Str.ofString ")") = V.str (S _); rw [lt6, S_cat, lt1, S_cat]) rfl, rfl⟩
    rw [show upd G8 t9 (.tup [V.str (Str.ofString "(-0 " ++ S (wr e) ++ Str.ofString ")"), V.int 2]) = G9 from a9]
    clear a9
    refine ⟨_, rfl, _, _, rfl, rfl, cat_le lt7 rfl (by show 3 + _ ≤ _; omega), _, _, rfl, rfl, cat_le (by rw [lt7, S_cat]) lt1 (by rw [List.length_append]; show 3 + _ + 1 ≤ _; omega), (by show 2 ≤ sizeLine; decide), fun t10 h10 => ?_⟩
    obtain ⟨G10, s10, g10, a10⟩ : ∃ G, Same G9 G ∧ Ln G (.ref t10) ([40, 65, 32] ++ wr e ++ [41], 1) ∧ upd G9 t10 (.tup [V.str (Str.ofString "(A " ++ S (wr e) ++ Str.ofString ")"), V.int 1]) = G := ⟨_, same_upd h10, ln_new (by show V.str (Str.ofString "(A " ++ S (wr e) ++ Str.ofString ")") = V.str (S _); rw [lt7, S_cat, lt1, S_cat]) rfl, rfl⟩
    rw [show upd G9 t10 (.tup [V.str (Str.ofString "(A " ++ S (wr e) ++ Str.ofString ")"), V.int 1]) = G10 from a10]
    clear a10
    have p11 : Paired (Ln G10) [V.ref t7, V.ref t8, V.ref t9, V.ref t10] [([40] ++ wr e ++ [32], ((wr e).length + 2)), ([40] ++ wr e ++ [32, 48, 55, 41], ((wr e).length + 3)), ([40, 45, 48, 32] ++ wr e ++ [41], 2), ([40, 65, 32] ++ wr e ++ [41], 1)] := .cons (g7.same ((s8.trans s9).trans s10)) (.cons (g8.same (s9.trans s10)) (.cons (g9.same s10) (.cons g10 .nil)))
    refine ⟨(by show 4 ≤ sizeLine; decide), fun t11 h11 => ?_⟩
    obtain ⟨G11, s11, a11, b11⟩ : ∃ G, Same G10 G ∧ G t11 = some (.lst [V.ref t7, V.ref t8, V.ref t9, V.ref t10]) ∧ upd G10 t11 (.lst [V.ref t7, V.ref t8, V.ref t9, V.ref t10]) = G := ⟨_, same_upd h11, upd_same, rfl⟩
    rw [show upd G10 t11 (.lst [V.ref t7, V.ref t8, V.ref t9, V.ref t10]) = G11 from b11]
    clear b11
    replace p11 := Paired.imp (fun _ _ z => Ln.same z s11) p11
    refine ⟨_, _, _, _, rfl, rfl, ((((s7.trans s8).trans s9).trans s10).trans s11) _ _ a6, a11, (by show 5 + 4 ≤ sizeLine; decide), fun t12 h12 => ?_⟩
    obtain ⟨G12, s12, a12, b12⟩ : ∃ G, Same G11 G ∧ G t12 = some (.lst ([V.ref t1, V.ref t2, V.ref t3, V.ref t4, V.ref t5] ++ [V.ref t7, V.ref t8, V.ref t9, V.ref t10])) ∧ upd G11 t12 (.lst ([V.ref t1, V.ref t2, V.ref t3, V.ref t4, V.ref t5] ++ [V.ref t7, V.ref t8, V.ref t9, V.ref t10])) = G := ⟨_, same_upd h12, upd_same, rfl⟩
    rw [show upd G11 t12 (.lst ([V.ref t1, V.ref t2, V.ref t3, V.ref t4, V.ref t5] ++ [V.ref t7, V.ref t8, V.ref t9, V.ref t10])) = G12 from b12]
    clear b12
    have p12 : Paired (Ln G12) ([V.ref t1, V.ref t2, V.ref t3, V.ref t4, V.ref t5] ++ [V.ref t7, V.ref t8, V.ref t9, V.ref t10]) ([(wr e ++ [32], (wr e).length), (wr e ++ [41], (wr e).length), ([40, 32] ++ wr e ++ [41], 1), ([40] ++ wr e ++ [32, 32, 97, 41], ((wr e).length + 2)), ([40] ++ wr e, ((wr e).length + 1))] ++ [([40] ++ wr e ++ [32], ((wr e).length + 2)), ([40] ++ wr e ++ [32, 48, 55, 41], ((wr e).length + 3)), ([40, 45, 48, 32] ++ wr e ++ [41], 2), ([40, 65, 32] ++ wr e ++ [41], 1)]) := Paired.imp (fun _ _ z => Ln.same z s12) (paired_app (Paired.imp (fun _ _ z => Ln.same z ((((s7.trans s8).trans s9).trans s10).trans s11)) p6) p11)
    refine ⟨_, rfl, ?_⟩
    refine ⟨(by show 2 ≤ sizeLine; decide), fun t13 h13 => ?_⟩
    obtain ⟨G13, s13, g13, a13⟩ : ∃ G, Same G12 G ∧ Ln G (.ref t13) ([], 0) ∧ upd G12 t13 (.tup [V.str (Str.ofString ""), V.int 0]) = G := ⟨_, same_upd h13, ln_new (by show V.str (Str.ofString "") = V.str (S []); rw [lt8]) rfl, rfl⟩
    rw [show upd G12 t13 (.tup [V.str (Str.ofString ""), V.int 0]) = G13 from a13]
    clear a13
    refine ⟨(by show 2 ≤ sizeLine; decide), fun t14 h14 => ?_⟩
    obtain ⟨G14, s14, g14, a14⟩ : ∃ G, Same G13 G ∧ Ln G (.ref t14) ([40, 97, 98, 99, 100, 101, 102, 103, 104, 105, 106, 107, 108, 109, 41], 13) ∧ upd G13 t14 (.tup [V.str (Str.ofString "(abcdefghijklm)"), V.int 13]) = G := ⟨_, same_upd h14, ln_new (by show V.str (Str.ofString "(abcdefghijklm)") = V.str (S [40, 97, 98, 99, 100, 101, 102, 103, 104, 105, 106, 107, 108, 109, 41]); rw [lt9]) rfl, rfl⟩
    rw [show upd G13 t14 (.tup [V.str (Str.ofString "(abcdefghijklm)"), V.int 13]) = G14 from a14]
    clear a14
    refine ⟨(by show 2 ≤ sizeLine; decide), fun t15 h15 => ?_⟩
    obtain ⟨G15, s15, g15, a15⟩ : ∃ G, Same G14 G ∧ Ln G (.ref t15) ([45], 1) ∧ upd G14 t15 (.tup [V.str (Str.ofString "-"), V.int 1]) = G := ⟨_, same_upd h15, ln_new (by show V.str (Str.ofString "-") = V.str (S [45]); rw [lt10]) rfl, rfl⟩
    rw [show upd G14 t15 (.tup [V.str (Str.ofString "-"), V.int 1]) = G15 from a15]
    clear a15
    refine ⟨_, rfl, _, _, rfl, rfl, cat_le lt3 rfl (by show 1 + _ ≤ _; omega), _, _, rfl, rfl, cat_le (by rw [lt3, S_cat]) lt11 (by rw [List.length_append]; show 1 + _ + 2 ≤ _; omega), _, rfl, _, _, rfl, rfl, (by show 2 ≤ sizeLine; decide), fun t16 h16 => ?_⟩
    obtain ⟨G16, s16, g16, a16⟩ : ∃ G, Same G15 G ∧ Ln G (.ref t16) ([40] ++ wr e ++ [44, 41], ((wr e).length + 1)) ∧ upd G15 t16 (.tup [V.str (Str.ofString "(" ++ S (wr e) ++ Str.ofString ",)"), V.int (((wr e).length : Int) + 1)]) = G := ⟨_, same_upd h16, ln_new (by show V.str (Str.ofString "(" ++ S (wr e) ++ Str.ofString ",)") = V.str (S _); rw [lt3, S_cat, lt11, S_cat]) rfl, rfl⟩
    rw [show upd G15 t16 (.tup [V.str (Str.ofString "(" ++ S (wr e) ++ Str.ofString ",)"), V.int (((wr e).length : Int) + 1)]) = G16 from a16]
    clear a16
    refine ⟨(by show 2 ≤ sizeLine; decide), fun t17 h17 => ?_⟩
    obtain ⟨G17, s17, g17, a17⟩ : ∃ G, Same G16 G ∧ Ln G (.ref t17) ([43, 49], 0) ∧ upd G16 t17 (.tup [V.str (Str.ofString "+1"), V.int 0]) = G := ⟨_, same_upd h17, ln_new (by show V.str (Str.ofString "+1") = V.str (S [43, 49]); rw [lt12]) rfl, rfl⟩
    rw [show upd G16 t17 (.tup [V.str (Str.ofString "+1"), V.int 0]) = G17 from a17]
    clear a17
    refine ⟨(by show 2 ≤ sizeLine; decide), fun t18 h18 => ?_⟩
    obtain ⟨G18, s18, g18, a18⟩ : ∃ G, Same G17 G ∧ Ln G (.ref t18) ([41], 0) ∧ upd G17 t18 (.tup [V.str (Str.ofString ")"), V.int 0]) = G := ⟨_, same_upd h18, ln_new (by show V.str (Str.ofString ")") = V.str (S [41]); rw [lt1]) rfl, rfl⟩
    rw [show upd G17 t18 (.tup [V.str (Str.ofString ")"), V.int 0]) = G18 from a18]
    clear a18
    refine ⟨(by show 2 ≤ sizeLine; decide), fun t19 h19 => ?_⟩
    obtain ⟨G19, s19, g19, a19⟩ : ∃ G, Same G18 G ∧ Ln G (.ref t19) ([40, 49, 32, 45, 41], 4) ∧ upd G18 t19 (.tup [V.str (Str.ofString "(1 -)"), V.int 4]) = G := ⟨_, same_upd h19, ln_new (by show V.str (Str.ofString "(1 -)") = V.str (S [40, 49, 32, 45, 41]); rw [lt13]) rfl, rfl⟩
    rw [show upd G18 t19 (.tup [V.str (Str.ofString "(1 -)"), V.int 4]) = G19 from a19]
    clear a19
    have p20 : Paired (Ln G19) [V.ref t13, V.ref t14, V.ref t15, V.ref t16, V.ref t17, V.ref t18, V.ref t19] [([], 0), ([40, 97, 98, 99, 100, 101, 102, 103, 104, 105, 106, 107, 108, 109, 41], 13), ([45], 1), ([40] ++ wr e ++ [44, 41], ((wr e).length + 1)), ([43, 49], 0), ([41], 0), ([40, 49, 32, 45, 41], 4)] := .cons (g13.same (((((s14.trans s15).trans s16).trans s17).trans s18).trans s19)) (.cons (g14.same ((((s15.trans s16).trans s17).trans s18).trans s19)) (.cons (g15.same (((s16.trans s17).trans s18).trans s19)) (.cons (g16.same ((s17.trans s18).trans s19)) (.cons (g17.same (s18.trans s19)) (.cons (g18.same s19) (.cons g19 .nil))))))
    refine ⟨(by show 7 ≤ sizeLine; decide), fun t20 h20 => ?_⟩
    obtain ⟨G20, s20, a20, b20⟩ : ∃ G, Same G19 G ∧ G t20 = some (.lst [V.ref t13, V.ref t14, V.ref t15, V.ref t16, V.ref t17, V.ref t18, V.ref t19]) ∧ upd G19 t20 (.lst [V.ref t13, V.ref t14, V.ref t15, V.ref t16, V.ref t17, V.ref t18, V.ref t19]) = G := ⟨_, same_upd h20, upd_same, rfl⟩
    rw [show upd G19 t20 (.lst [V.ref t13, V.ref t14, V.ref t15, V.ref t16, V.ref t17, V.ref t18, V.ref t19]) = G20 from b20]
    clear b20
    replace p20 := Paired.imp (fun _ _ z => Ln.same z s20) p20
    refine ⟨_, _, _, _, rfl, rfl, (((((((s13.trans s14).trans s15).trans s16).trans s17).trans s18).trans s19).trans s20) _ _ a12, a20, (by show 9 + 7 ≤ sizeLine; decide), fun t21 h21 => ?_⟩
    obtain ⟨G21, s21, a21, b21⟩ : ∃ G, Same G20 G ∧ G t21 = some (.lst ([V.ref t1, V.ref t2, V.ref t3, V.ref t4, V.ref t5] ++ [V.ref t7, V.ref t8, V.ref t9, V.ref t10] ++ [V.ref t13, V.ref t14, V.ref t15, V.ref t16, V.ref t17, V.ref t18, V.ref t19])) ∧ upd G20 t21 (.lst ([V.ref t1, V.ref t2, V.ref t3, V.ref t4, V.ref t5] ++ [V.ref t7, V.ref t8, V.ref t9, V.ref t10] ++ [V.ref t13, V.ref t14, V.ref t15, V.ref t16, V.ref t17, V.ref t18, V.ref t19])) = G := ⟨_, same_upd h21, upd_same, rfl⟩
    rw [show upd G20 t21 (.lst ([V.ref t1, V.ref t2, V.ref t3, V.ref t4, V.ref t5] ++ [V.ref t7, V.ref t8, V.ref t9, V.ref t10] ++ [V.ref t13, V.ref t14, V.ref t15, V.ref t16, V.ref t17, V.ref t18, V.ref t19])) = G21 from b21]
    clear b21
    have p21 : Paired (Ln G21) ([V.ref t1, V.ref t2, V.ref t3, V.ref t4, V.ref t5] ++ [V.ref t7, V.ref t8, V.ref t9, V.ref t10] ++ [V.ref t13, V.ref t14, V.ref t15, V.ref t16, V.ref t17, V.ref t18, V.ref t19]) ([(wr e ++ [32], (wr e).length), (wr e ++ [41], (wr e).length), ([40, 32] ++ wr e ++ [41], 1), ([40] ++ wr e ++ [32, 32, 97, 41], ((wr e).length + 2)), ([40] ++ wr e, ((wr e).length + 1))] ++ [([40] ++ wr e ++ [32], ((wr e).length + 2)), ([40] ++ wr e ++ [32, 48, 55, 41], ((wr e).length + 3)), ([40, 45, 48, 32] ++ wr e ++ [41], 2), ([40, 65, 32] ++ wr e ++ [41], 1)] ++ [([], 0), ([40, 97, 98, 99, 100, 101, 102, 103, 104, 105, 106, 107, 108, 109, 41], 13), ([45], 1), ([40] ++ wr e ++ [44, 41], ((wr e).length + 1)), ([43, 49], 0), ([41], 0), ([40, 49, 32, 45, 41], 4)]) := Paired.imp (fun _ _ z => Ln.same z s21) (paired_app (Paired.imp (fun _ _ z => Ln.same z (((((((s13.trans s14).trans s15).trans s16).trans s17).trans s18).trans s19).trans s20)) p12) p20)

    have sAll : Same G0 G21 := ((((((((((((((((((((s1.trans s2).trans s3).trans s4).trans s5).trans s6).trans s7).trans s8).trans s9).trans s10).trans s11).trans s12).trans s13).trans s14).trans s15).trans s16).trans s17).trans s18).trans s19).trans s20).trans s21)
    have hvG := hv0.same sAll
    have hq := due_ok g hlen
    refine ⟨_, rfl, t21, rfl, ⟨_, SqL.of a21⟩, for_it (walk_list (K := K) (a := t21) (xs := [V.ref t1, V.ref t2, V.ref t3, V.ref t4, V.ref t5] ++ [V.ref t7, V.ref t8, V.ref t9, V.ref t10] ++ [V.ref t13, V.ref t14, V.ref t15, V.ref t16, V.ref t17, V.ref t18, V.ref t19])) (fun i σ' Ha => ∃ v7 v8 v9 : Option V, σ' = [some (.ref a), some (.ref p), some v, some (.str (S (wr e))), some (.str (S (wr e))), some (.int ((wr e).length : Int)), some (.ref t21), v7, v8, v9, none, none] ∧ Same G21 Ha) ⟨_, _, _, rfl, same_rfl⟩ (fun i σ' Ha _ ⟨_, _, _, _, z⟩ => SqL.of (z _ _ a21)) ?_ ?_⟩
    · rintro i x σ' Ha Hb hi ⟨v7, v8, v9, rfl, z⟩ ⟨rfl, hx⟩
      obtain ⟨q, hqi, t, rfl, ht⟩ := Paired.at p21 hx
      obtain ⟨hl, hR⟩ := hq q (List.mem_of_getElem? hqi)
      have ht := z _ _ ht
      refine ⟨t, _, rfl, SqT.of ht, rfl, _, _, rfl, _, _, rfl, rfl, ?_⟩
      refine ⟨_, rfl, .inl ⟨q.1, q.2, rfl, hl, hR, fun H5 s5 => ?_⟩⟩
      refine ⟨_, rfl, _, .num (q.2 : Int), rfl, by unfold At; rfl, _, rfl, iteF ⟨_, rfl, _, rfl, rfl, _, rfl, ?_⟩⟩
      rw [show (!decide (V.int (q.2 : Int) = V.int (q.2 : Int))) = false by simp]
      exact iteF ⟨_, _, _, rfl, z.trans s5⟩
    rintro σ' Ha ⟨v7, v8, v9, rfl, z⟩
    have hv := hvG.same z
    clear hv0 hvG sAll z p21 a21
    refine ⟨Str.ofString "(", 60, rfl, rfl, by decide +kernel, by decide, by decide, Str.ofString ")", 60, rfl, rfl, by decide +kernel, by decide, by decide, _, _, rfl, rfl, cat_le mulA mulB (by rw [List.length_replicate, List.length_replicate]; decide), ?_⟩
    rw [mulA, mulB, S_cat, ← wr_nest 59]
    have l59 : (wr (nest 59)).length = 120 := by rw [wr_nest, List.length_append, List.length_replicate, List.length_replicate]
    have p59 : pl (nest 59) 60 = true := nest_pl 59 60
    have r59 := rd_all p59 (nest_few 59)
    refine ⟨_, rfl, .inl ⟨wr (nest 59), .ok (nest 59), rfl, by omega, r59, (fun n z => by cases z), fun d' z H5 u s5 hu => ?_⟩⟩
    cases z
    refine ⟨u, nest 59, rfl, hu, nest_shrt 59, (fun z => by rw [p59] at z; cases z), fun _ => ⟨nest_few 59, by omega, fun H6 s6 => ⟨_, rfl, rfl, _, rfl, ?_⟩⟩⟩
    rw [show (!decide (V.str (S (wr (nest 59))) = V.str (S (wr (nest 59))))) = false by simp]
    refine iteF ⟨Str.ofString "(", 61, rfl, rfl, by decide +kernel, by decide, by decide, Str.ofString ")", 61, rfl, rfl, by decide +kernel, by decide, by decide, _, _, rfl, rfl, cat_le mulC mulD (by rw [List.length_replicate, List.length_replicate]; decide), .inl ⟨List.replicate 61 40 ++ List.replicate 61 41, 60, (by show [V.str (Txt.mul (Str.ofString "(") 61 ++ Txt.mul (Str.ofString ")") 61)] = _; rw [mulC, mulD, S_cat]), by rw [List.length_append, List.length_replicate, List.length_replicate]; decide, line61, fun H7 s7 => ⟨rfl, _, rfl, ?_⟩⟩⟩
    rw [show (!decide (V.int ((60 : Nat) : Int) = V.int 60)) = false by decide]
    refine iteF (.inr ⟨rfl, fun H8 s8 => ⟨rfl, _, rfl, ?_⟩⟩)
    rw [show (!decide (V.int 0 = V.int 0)) = false by decide]
    have hv := (((hv.same s5).same s6).same s7).same s8
    clear s5 s6 s7 hu
    generalize eG : H8 = G at hv ⊢
    refine iteF ?_
    refine ⟨_, rfl, (by show 1 ≤ sizeLine; decide), fun b1 c1 => ?_⟩
    obtain ⟨M1, m1, d1, q1⟩ : ∃ M, Same G M ∧ At M (.ref b1) .ls ∧ upd G b1 (.lst [v]) = M := ⟨_, same_upd c1, by unfold At; exact ⟨b1, _, rfl, upd_same⟩, rfl⟩
    rw [q1]
    clear q1
    refine ⟨_, rfl, (by show 1 ≤ sizeLine; decide), fun b2 c2 => ?_⟩
    obtain ⟨M2, m2, d2, q2⟩ : ∃ M, Same M1 M ∧ At M (.ref b2) .ls ∧ upd M1 b2 (.lst [V.int 1]) = M := ⟨_, same_upd c2, by unfold At; exact ⟨b2, _, rfl, upd_same⟩, rfl⟩
    rw [q2]
    clear q2
    have e2 := (hv.same m1).same m2
    refine ⟨(by show 2 ≤ sizeLine; decide), fun b3 c3 => ?_⟩
    obtain ⟨M3, m3, d3, q3⟩ : ∃ M, Same M2 M ∧ At M (.ref b3) (.tup (.cons e (.cons .ls .nil))) ∧ upd M2 b3 (.tup [v, .ref b2]) = M := by
      have sm := same_upd (o := .tup [v, V.ref b2]) c3
      refine ⟨_, sm, ?_, rfl⟩
      unfold At AllA
      refine ⟨b3, _, rfl, upd_same, v, _, rfl, e2.same sm, ?_⟩
      unfold AllA
      refine ⟨.ref b2, _, rfl, d2.same sm, ?_⟩
      unfold AllA
      rfl
    rw [q3]
    clear q3
    refine ⟨_, rfl, .inl ⟨wr (nest 59), .ok (nest 59), rfl, by omega, r59, (fun n z => by cases z), fun d' z M4 u4 m4 d4 => ?_⟩⟩
    cases z
    refine ⟨(by show 1 ≤ sizeLine; decide), fun b5 c5 => ?_⟩
    obtain ⟨M5, m5, d5, q5⟩ : ∃ M, Same M4 M ∧ At M (.ref b5) (nest 60) ∧ upd M4 b5 (.tup [u4]) = M := by
      have sm := same_upd (o := .tup [u4]) c5
      refine ⟨_, sm, ?_, rfl⟩
      show At _ _ (.tup (.cons (nest 59) .nil))
      unfold At AllA
      refine ⟨b5, _, rfl, upd_same, u4, _, rfl, d4.same sm, ?_⟩
      unfold AllA
      rfl
    rw [q5]
    clear q5
    refine ⟨(by show 1 ≤ sizeLine; decide), fun b6 c6 => ?_⟩
    obtain ⟨M6, m6, d6, q6⟩ : ∃ M, Same M5 M ∧ At M (.ref b6) (.tup (.cons (.bl false) .nil)) ∧ upd M5 b6 (.tup [.bl false]) = M := by
      have sm := same_upd (o := .tup [V.bl false]) c6
      refine ⟨_, sm, ?_, rfl⟩
      unfold At AllA
      refine ⟨b6, _, rfl, upd_same, _, _, rfl, by unfold At; rfl, ?_⟩
      unfold AllA
      rfl
    rw [q6]
    clear q6
    refine ⟨(by show 9 ≤ sizeLine; decide), fun b7 c7 => ?_⟩
    have m7 := same_upd (o := .lst [.ref b1, .bl true, .non, .ref b3, .str (Str.ofString ""), .str (Str.ofString "A"), .str (Str.ofString "abcdefghijklm"), .ref b5, .ref b6]) c7
    have hP : Paired (At M6) [V.ref b1, .bl true, .non, .ref b3, .str (Str.ofString ""), .str (Str.ofString "A"), .str (Str.ofString "abcdefghijklm"), .ref b5, .ref b6] (badQ e) := by
      have m36 : Same M3 M6 := (m4.trans m5).trans m6
      have m16 : Same M1 M6 := (m2.trans m3).trans m36
      exact .cons (d1.same m16) (.cons (by unfold At; rfl) (.cons (by unfold At; rfl) (.cons (d3.same m36) (.cons (by unfold At; rw [ltE]) (.cons (by unfold At; rw [ltA]) (.cons (by unfold At; rw [ltW]) (.cons (d5.same m6) (.cons d6 .nil))))))))
    have hbad := bad_ok (d := e) (bd_shrt hb)
    refine ⟨b7, rfl, ⟨_, SqL.of upd_same⟩, for_it (walk_list (K := K) (a := b7) (xs := [V.ref b1, .bl true, .non, .ref b3, .str (Str.ofString ""), .str (Str.ofString "A"), .str (Str.ofString "abcdefghijklm"), .ref b5, .ref b6])) (fun i σ' Ha => ∃ v11 : Option V, σ' = [some (.ref a), some (.ref p), some v, some (.str (S (wr e))), some (.str (S (wr e))), some (.int ((wr e).length : Int)), some (.ref t21), v7, v8, v9, some (.str (S (wr (nest 59)))), v11] ∧ Same (upd M6 b7 (.lst [V.ref b1, .bl true, .non, .ref b3, .str (Str.ofString ""), .str (Str.ofString "A"), .str (Str.ofString "abcdefghijklm"), .ref b5, .ref b6])) Ha) ⟨_, rfl, same_rfl⟩ (fun i σ' Ha _ ⟨_, _, z⟩ => SqL.of (z _ _ upd_same)) ?_ ?_⟩
    · rintro i x σ' Ha Hb hi ⟨v11, rfl, z⟩ ⟨rfl, hx⟩
      obtain ⟨d, hd, hxd⟩ := Paired.at hP hx
      obtain ⟨k1, k2⟩ := hbad d (List.mem_of_getElem? hd)
      refine ⟨_, rfl, x, d, rfl, (hxd.same m7).same z, k1, k2, fun H5 s5 => ⟨_, rfl, iteF ⟨_, rfl, z.trans s5⟩⟩⟩
    · rintro σ' Ha ⟨v11, rfl, z⟩
      exact kq _
end
end Ind

set_option Elab.async false
set_option linter.all false
set_option maxRecDepth 100000
set_option maxHeartbeats 4000000
set_option exponentiation.threshold 20000
namespace Ind
open PySem PySem.Spec PyProof.Rows L2 SX
open Builtin.Int (intBits)
theorem all_mk {P : Program} {w : World} {K : PySem.W.Frag} {h : Heap} {mg : Str → Option Value} {fa Ma Nt fN fDc fNo fIi fIw fAs fPl fWr fWp fRd fPb fLe fLo fC fD fLi fWd fDg fLd fLw fLs fLa fLm fL : Addr} (hT : P.given.tree = none) (X : K.In h) (G : h.Ns mainGlobals mg) (hfa : mg "law" = some (.ref fa))
    {ocDc kVDc dcDc pmDc cdDc ctDc : Value} {odDc anDc : Option Addr} {slDc : Array (Option Value)}
    {ocNo kVNo dcNo pmNo cdNo ctNo : Value} {odNo anNo : Option Addr} {slNo : Array (Option Value)}
    {ocIi kVIi dcIi pmIi cdIi ctIi : Value} {odIi anIi : Option Addr} {slIi : Array (Option Value)}
    {ocIw kVIw dcIw pmIw cdIw ctIw : Value} {odIw anIw : Option Addr} {slIw : Array (Option Value)}
    {ocAs kVAs dcAs pmAs cdAs ctAs : Value} {odAs anAs : Option Addr} {slAs : Array (Option Value)}
    {ocPl kVPl dcPl pmPl cdPl ctPl : Value} {odPl anPl : Option Addr} {slPl : Array (Option Value)}
    {ocWr kVWr dcWr pmWr cdWr ctWr : Value} {odWr anWr : Option Addr} {slWr : Array (Option Value)}
    {ocWp kVWp dcWp pmWp cdWp ctWp : Value} {odWp anWp : Option Addr} {slWp : Array (Option Value)}
    {ocRd kVRd dcRd pmRd cdRd ctRd : Value} {odRd anRd : Option Addr} {slRd : Array (Option Value)}
    {ocPb kVPb dcPb pmPb cdPb ctPb : Value} {odPb anPb : Option Addr} {slPb : Array (Option Value)}
    {ocLe kVLe dcLe pmLe cdLe ctLe : Value} {odLe anLe : Option Addr} {slLe : Array (Option Value)}
    {ocLo kVLo dcLo pmLo cdLo ctLo : Value} {odLo anLo : Option Addr} {slLo : Array (Option Value)}
    {ocC kVC dcC pmC cdC ctC : Value} {odC anC : Option Addr} {slC : Array (Option Value)}
    {ocD kVD dcD pmD cdD ctD : Value} {odD anD : Option Addr} {slD : Array (Option Value)}
    {ocLi kVLi dcLi pmLi cdLi ctLi : Value} {odLi anLi : Option Addr} {slLi : Array (Option Value)}
    {ocWd kVWd dcWd pmWd cdWd ctWd : Value} {odWd anWd : Option Addr} {slWd : Array (Option Value)}
    {ocDg kVDg dcDg pmDg cdDg ctDg : Value} {odDg anDg : Option Addr} {slDg : Array (Option Value)}
    {ocLd kVLd dcLd pmLd cdLd ctLd : Value} {odLd anLd : Option Addr} {slLd : Array (Option Value)}
    {ocLw kVLw dcLw pmLw cdLw ctLw : Value} {odLw anLw : Option Addr} {slLw : Array (Option Value)}
    {ocLs kVLs dcLs pmLs cdLs ctLs : Value} {odLs anLs : Option Addr} {slLs : Array (Option Value)}
    {ocLa kVLa dcLa pmLa cdLa ctLa : Value} {odLa anLa : Option Addr} {slLa : Array (Option Value)}
    {ocLm kVLm dcLm pmLm cdLm ctLm : Value} {odLm anLm : Option Addr} {slLm : Array (Option Value)}
    {ocL kVL dcL pmL cdL ctL : Value} {odL anL : Option Addr} {slL : Array (Option Value)}
    {nmN qN : Str} {NN : Addr} {bsN bmN subN : List Value} {snN : List Str} {abN : Bool} {colN : Option Bool} {ddN : Option Addr} {k0N k1N k2N k3N k5N : Option Value}
    {ocN kVN dcN pmN ctN cclN clN : Value} {odN anN cddN cldN : Option Addr} {slN ccsN cslN : Array (Option Value)} {vsN : Array Value} {flN : Str} {tfN : Tok} {ccN cdaN : Addr}
    {vPa : Value}
    {vDi : Value}
    {vDe : Value}
    {vLt : Value}
    (aDc : PySem.W.nsIn K mainGlobals "decimal" = some (some (.ref fDc)))
    (lDc : K.lookup fDc = some ⟨ocDc, odDc, .func (PySem.W.fnOf "decimal" "decimal" (defArgs sDec) (defBody sDec) (defScope sDec) .none kVDc dcDc pmDc anDc cdDc ctDc), slDc⟩)
    (cDc : PySem.W.codeIn K cdDc "decimal" = true)
    (kpDc : PySem.W.keepIn K (.ref fDc) = true)
    (aNo : PySem.W.nsIn K mainGlobals "number_of" = some (some (.ref fNo)))
    (lNo : K.lookup fNo = some ⟨ocNo, odNo, .func (PySem.W.fnOf "number_of" "number_of" (defArgs sNum) (defBody sNum) (defScope sNum) .none kVNo dcNo pmNo anNo cdNo ctNo), slNo⟩)
    (cNo : PySem.W.codeIn K cdNo "number_of" = true)
    (kpNo : PySem.W.keepIn K (.ref fNo) = true)
    (aIi : PySem.W.nsIn K mainGlobals "is_integer" = some (some (.ref fIi)))
    (lIi : K.lookup fIi = some ⟨ocIi, odIi, .func (PySem.W.fnOf "is_integer" "is_integer" (defArgs sIi) (defBody sIi) (defScope sIi) .none kVIi dcIi pmIi anIi cdIi ctIi), slIi⟩)
    (cIi : PySem.W.codeIn K cdIi "is_integer" = true)
    (kpIi : PySem.W.keepIn K (.ref fIi) = true)
    (aIw : PySem.W.nsIn K mainGlobals "is_word" = some (some (.ref fIw)))
    (lIw : K.lookup fIw = some ⟨ocIw, odIw, .func (PySem.W.fnOf "is_word" "is_word" (defArgs sIsW) (defBody sIsW) (defScope sIsW) .none kVIw dcIw pmIw anIw cdIw ctIw), slIw⟩)
    (cIw : PySem.W.codeIn K cdIw "is_word" = true)
    (kpIw : PySem.W.keepIn K (.ref fIw) = true)
    (aAs : PySem.W.nsIn K mainGlobals "are_small" = some (some (.ref fAs)))
    (lAs : K.lookup fAs = some ⟨ocAs, odAs, .func (PySem.W.fnOf "are_small" "are_small" (defArgs sAs) (defBody sAs) (defScope sAs) .none kVAs dcAs pmAs anAs cdAs ctAs), slAs⟩)
    (cAs : PySem.W.codeIn K cdAs "are_small" = true)
    (kpAs : PySem.W.keepIn K (.ref fAs) = true)
    (aPl : PySem.W.nsIn K mainGlobals "is_plain" = some (some (.ref fPl)))
    (lPl : K.lookup fPl = some ⟨ocPl, odPl, .func (PySem.W.fnOf "is_plain" "is_plain" (defArgs sPl) (defBody sPl) (defScope sPl) .none kVPl dcPl pmPl anPl cdPl ctPl), slPl⟩)
    (cPl : PySem.W.codeIn K cdPl "is_plain" = true)
    (kpPl : PySem.W.keepIn K (.ref fPl) = true)
    (aWr : PySem.W.nsIn K mainGlobals "written" = some (some (.ref fWr)))
    (lWr : K.lookup fWr = some ⟨ocWr, odWr, .func (PySem.W.fnOf "written" "written" (defArgs sWrt) (defBody sWrt) (defScope sWrt) .none kVWr dcWr pmWr anWr cdWr ctWr), slWr⟩)
    (cWr : PySem.W.codeIn K cdWr "written" = true)
    (kpWr : PySem.W.keepIn K (.ref fWr) = true)
    (aWp : PySem.W.nsIn K mainGlobals "written_parts" = some (some (.ref fWp)))
    (lWp : K.lookup fWp = some ⟨ocWp, odWp, .func (PySem.W.fnOf "written_parts" "written_parts" (defArgs sWp) (defBody sWp) (defScope sWp) .none kVWp dcWp pmWp anWp cdWp ctWp), slWp⟩)
    (cWp : PySem.W.codeIn K cdWp "written_parts" = true)
    (kpWp : PySem.W.keepIn K (.ref fWp) = true)
    (aRd : PySem.W.nsIn K mainGlobals "read_data" = some (some (.ref fRd)))
    (lRd : K.lookup fRd = some ⟨ocRd, odRd, .func (PySem.W.fnOf "read_data" "read_data" (defArgs sRd) (defBody sRd) (defScope sRd) .none kVRd dcRd pmRd anRd cdRd ctRd), slRd⟩)
    (cRd : PySem.W.codeIn K cdRd "read_data" = true)
    (kpRd : PySem.W.keepIn K (.ref fRd) = true)
    (aPb : PySem.W.nsIn K mainGlobals "place_behind" = some (some (.ref fPb)))
    (lPb : K.lookup fPb = some ⟨ocPb, odPb, .func (PySem.W.fnOf "place_behind" "place_behind" (defArgs sPb) (defBody sPb) (defScope sPb) .none kVPb dcPb pmPb anPb cdPb ctPb), slPb⟩)
    (cPb : PySem.W.codeIn K cdPb "place_behind" = true)
    (kpPb : PySem.W.keepIn K (.ref fPb) = true)
    (aLe : PySem.W.nsIn K mainGlobals "leaf_end" = some (some (.ref fLe)))
    (lLe : K.lookup fLe = some ⟨ocLe, odLe, .func (PySem.W.fnOf "leaf_end" "leaf_end" (defArgs sLe) (defBody sLe) (defScope sLe) .none kVLe dcLe pmLe anLe cdLe ctLe), slLe⟩)
    (cLe : PySem.W.codeIn K cdLe "leaf_end" = true)
    (kpLe : PySem.W.keepIn K (.ref fLe) = true)
    (aLo : PySem.W.nsIn K mainGlobals "leaf_of" = some (some (.ref fLo)))
    (lLo : K.lookup fLo = some ⟨ocLo, odLo, .func (PySem.W.fnOf "leaf_of" "leaf_of" (defArgs sLo) (defBody sLo) (defScope sLo) .none kVLo dcLo pmLo anLo cdLo ctLo), slLo⟩)
    (cLo : PySem.W.codeIn K cdLo "leaf_of" = true)
    (kpLo : PySem.W.keepIn K (.ref fLo) = true)
    (aC : PySem.W.nsIn K mainGlobals "_law_cell" = some (some (.ref fC)))
    (lC : K.lookup fC = some ⟨ocC, odC, .func (PySem.W.fnOf "_law_cell" "_law_cell" (defArgs sCell) (defBody sCell) (defScope sCell) .none kVC dcC pmC anC cdC ctC), slC⟩)
    (cC : PySem.W.codeIn K cdC "_law_cell" = true)
    (kpC : PySem.W.keepIn K (.ref fC) = true)
    (aD : PySem.W.nsIn K mainGlobals "_law_draws" = some (some (.ref fD)))
    (lD : K.lookup fD = some ⟨ocD, odD, .func (PySem.W.fnOf "_law_draws" "_law_draws" (defArgs sDraws) (defBody sDraws) (defScope sDraws) .none kVD dcD pmD anD cdD ctD), slD⟩)
    (cD : PySem.W.codeIn K cdD "_law_draws" = true)
    (kpD : PySem.W.keepIn K (.ref fD) = true)
    (aLi : PySem.W.nsIn K mainGlobals "_law_is_integer" = some (some (.ref fLi)))
    (lLi : K.lookup fLi = some ⟨ocLi, odLi, .func (PySem.W.fnOf "_law_is_integer" "_law_is_integer" (defArgs sLi) (defBody sLi) (defScope sLi) .none kVLi dcLi pmLi anLi cdLi ctLi), slLi⟩)
    (cLi : PySem.W.codeIn K cdLi "_law_is_integer" = true)
    (kpLi : PySem.W.keepIn K (.ref fLi) = true)
    (aWd : PySem.W.nsIn K mainGlobals "_law_word" = some (some (.ref fWd)))
    (lWd : K.lookup fWd = some ⟨ocWd, odWd, .func (PySem.W.fnOf "_law_word" "_law_word" (defArgs sWd) (defBody sWd) (defScope sWd) .none kVWd dcWd pmWd anWd cdWd ctWd), slWd⟩)
    (cWd : PySem.W.codeIn K cdWd "_law_word" = true)
    (kpWd : PySem.W.keepIn K (.ref fWd) = true)
    (aDg : PySem.W.nsIn K mainGlobals "_law_digits" = some (some (.ref fDg)))
    (lDg : K.lookup fDg = some ⟨ocDg, odDg, .func (PySem.W.fnOf "_law_digits" "_law_digits" (defArgs sDg) (defBody sDg) (defScope sDg) .none kVDg dcDg pmDg anDg cdDg ctDg), slDg⟩)
    (cDg : PySem.W.codeIn K cdDg "_law_digits" = true)
    (kpDg : PySem.W.keepIn K (.ref fDg) = true)
    (aLd : PySem.W.nsIn K mainGlobals "_law_data" = some (some (.ref fLd)))
    (lLd : K.lookup fLd = some ⟨ocLd, odLd, .func (PySem.W.fnOf "_law_data" "_law_data" (defArgs sLd) (defBody sLd) (defScope sLd) .none kVLd dcLd pmLd anLd cdLd ctLd), slLd⟩)
    (cLd : PySem.W.codeIn K cdLd "_law_data" = true)
    (kpLd : PySem.W.keepIn K (.ref fLd) = true)
    (aLw : PySem.W.nsIn K mainGlobals "_law_written" = some (some (.ref fLw)))
    (lLw : K.lookup fLw = some ⟨ocLw, odLw, .func (PySem.W.fnOf "_law_written" "_law_written" (defArgs sLw) (defBody sLw) (defScope sLw) .none kVLw dcLw pmLw anLw cdLw ctLw), slLw⟩)
    (cLw : PySem.W.codeIn K cdLw "_law_written" = true)
    (kpLw : PySem.W.keepIn K (.ref fLw) = true)
    (aLs : PySem.W.nsIn K mainGlobals "_law_same" = some (some (.ref fLs)))
    (lLs : K.lookup fLs = some ⟨ocLs, odLs, .func (PySem.W.fnOf "_law_same" "_law_same" (defArgs sLs) (defBody sLs) (defScope sLs) .none kVLs dcLs pmLs anLs cdLs ctLs), slLs⟩)
    (cLs : PySem.W.codeIn K cdLs "_law_same" = true)
    (kpLs : PySem.W.keepIn K (.ref fLs) = true)
    (aLa : PySem.W.nsIn K mainGlobals "_law_at" = some (some (.ref fLa)))
    (lLa : K.lookup fLa = some ⟨ocLa, odLa, .func (PySem.W.fnOf "_law_at" "_law_at" (defArgs sLa) (defBody sLa) (defScope sLa) .none kVLa dcLa pmLa anLa cdLa ctLa), slLa⟩)
    (cLa : PySem.W.codeIn K cdLa "_law_at" = true)
    (kpLa : PySem.W.keepIn K (.ref fLa) = true)
    (aLm : PySem.W.nsIn K mainGlobals "_law_malformed" = some (some (.ref fLm)))
    (lLm : K.lookup fLm = some ⟨ocLm, odLm, .func (PySem.W.fnOf "_law_malformed" "_law_malformed" (defArgs sLm) (defBody sLm) (defScope sLm) .none kVLm dcLm pmLm anLm cdLm ctLm), slLm⟩)
    (cLm : PySem.W.codeIn K cdLm "_law_malformed" = true)
    (kpLm : PySem.W.keepIn K (.ref fLm) = true)
    (aL : PySem.W.nsIn K mainGlobals "law" = some (some (.ref fL)))
    (lL : K.lookup fL = some ⟨ocL, odL, .func (PySem.W.fnOf "law" "law" (defArgs sLaw) (defBody sLaw) (defScope sLaw) .none kVL dcL pmL anL cdL ctL), slL⟩)
    (cL : PySem.W.codeIn K cdL "law" = true)
    (kpL : PySem.W.keepIn K (.ref fL) = true)
    (xM : PySem.W.excIn K Ma [.type "ValueError", .type "Exception", .type "BaseException", .type "object"] "ValueError.__new__" = true)
    (gM : PySem.W.nsIn K mainGlobals "Malformed" = some (some (.ref Ma)))
    (kpM : PySem.W.keepIn K (.ref Ma) = true)
    (bM : PySem.W.subIn K (.ref Ma) (.type "BaseException") = some true)
    (tM : PySem.W.typeIn K (.ref Ma) = some (.type "type"))
    (hdM : PySem.W.hasDictIn K Ma = true)
    (ssM : PySem.W.subIn K (.ref Ma) (.ref Ma) = some true)
    (gN : PySem.W.nsIn K mainGlobals "NoText" = some (some (.ref Nt)))
    (lN : K.lookup Nt = some (excClassObj nmN qN Nt NN bsN bmN true snN subN abN colN ddN k0N k1N k2N k3N k5N "ValueError.__new__"))
    (vN : PySem.HandSPX.refsVE bmN = true)
    (sN : PySem.W.findIn K (.ref Nt) "__setattr__" = some (some (.builtin "object.__setattr__")))
    (bN : PySem.W.subIn K (.ref Nt) (.type "BaseException") = some true)
    (tN : PySem.W.typeIn K (.ref Nt) = some (.type "type"))
    (kpN : PySem.W.keepIn K (.ref Nt) = true)
    (iN : PySem.W.findIn K (.ref Nt) "__init__" = some (some (.ref fN)))
    (tfN' : PySem.W.typeIn K (.ref fN) = some (.type "function"))
    (fnN : K.lookup fN = some ⟨ocN, odN, .func (PySem.W.fnX "__init__" "NoText.__init__" (defArgs sNt) (defBody sNt) (defScope sNt) [("__class__", ccN)] .none kVN dcN pmN anN (.ref cdaN) ctN), slN⟩)
    (cdN : PySem.W.codeIn K (.ref cdaN) "NoText.__init__" = true)
    (cfN : K.lookup cdaN = some ⟨cclN, cddN, .fields vsN, ccsN⟩)
    (h2N : vsN[2]? = some (.str flN tfN))
    (hfN : ((P.main.file : Str) == flN) = true)
    (ceN : K.lookup ccN = some ⟨clN, cldN, .cell (some (.ref Nt)), cslN⟩)
    (mN : PySem.W.mroIn K Nt (.ref Nt) = some true)
    (suN : PySem.W.ks_superIn K Nt Nt "__init__" = some (some (.builtin "ValueError.__init__")))
    (sbN : PySem.W.subIn K (.ref Nt) (.type "ValueError") = some true)
    (stN : PySem.W.nsIn K cStatics "thirdparty.any" = some none)
    (topN : (P.main.scope.names.lookup ("super" : Str)).isSome = false)
    (hdN : PySem.W.hasDictIn K Nt = true)
    (ssN : PySem.W.subIn K (.ref Nt) (.ref Nt) = some true)
    (gaN : PySem.W.findIn K (.ref Nt) "__getattribute__" = some (some (.builtin "BaseException.__getattribute__")))
    (ggN : PySem.W.findIn K (.ref Nt) "__getattr__" = some none)
    (atN : PySem.W.findIn K (.ref Nt) "at" = some none)
    (caN : PySem.W.findIn K (.ref Nt) "__class__" = some (some (.builtin "object.__class__")))
    (cmN : PySem.W.mroIn K Nt (.type "object") = some true)
    (ckN : PySem.W.kitOne K (.ref Nt) (.ref Nt) = some true)
    (cn : PySem.W.specialIn K (.builtin "object.__class__") "__get__" = some (some (.builtin "getset_descriptor.__get__")))
    (ct : PySem.W.takesIn K (.builtin "object.__class__") = some true)
    (gPa : PySem.W.nsIn K mainGlobals "PART" = some (some vPa))
    (rPa : RelV (.int (10 ^ 64)) vPa)
    (gDi : PySem.W.nsIn K mainGlobals "DIGITS" = some (some vDi))
    (rDi : RelV (.int (64)) vDi)
    (gDe : PySem.W.nsIn K mainGlobals "DEPTH" = some (some vDe))
    (rDe : RelV (.int (60)) vDe)
    (gLt : PySem.W.nsIn K mainGlobals "LETTERS" = some (some vLt))
    (rLt : RelV (.int (12)) vLt)
    (zsuper : PySem.W.nsIn K mainGlobals "super" = some none)
    (zlen : PySem.W.nsIn K mainGlobals "len" = some none)
    (zrange : PySem.W.nsIn K mainGlobals "range" = some none)
    (zint : PySem.W.nsIn K mainGlobals "int" = some none)
    (zabs : PySem.W.nsIn K mainGlobals "abs" = some none)
    (zisinstance : PySem.W.nsIn K mainGlobals "isinstance" = some none)
    (zbool : PySem.W.nsIn K mainGlobals "bool" = some none)
    (zdivmod : PySem.W.nsIn K mainGlobals "divmod" = some none)
    (zstr : PySem.W.nsIn K mainGlobals "str" = some none)
    (zmax : PySem.W.nsIn K mainGlobals "max" = some none)
    (ztuple : PySem.W.nsIn K mainGlobals "tuple" = some none)
    (zall : PySem.W.nsIn K mainGlobals "all" = some none)
    (zmin : PySem.W.nsIn K mainGlobals "min" = some none) :
    ∃ fd : FuncData, (∀ (s : Shared) (v : Value), BindsTo s fd ⟨[v], []⟩ [("script", v)]) ∧ ∀ base : Heap, K.In base → base.Ns mainGlobals mg → base.NoSeer → FnOk P w K mg base CX0 67 fa fd ["script"] (spLaw K) := by
  have e := hfa.symm.trans (PySem.W.mg_of X G aL)
  cases e
  have FDc := fun_mk (st := sDec) lDc cDc kpDc
  have bDc := FDc.binds (ps := ["n"]) fun _ _ _ _ _ _ us hl => match us, hl with | [_], _ => rfl
  have mDc := PySem.W.mg_of X G aDc
  have FNo := fun_mk (st := sNum) lNo cNo kpNo
  have bNo := FNo.binds (ps := ["digits"]) fun _ _ _ _ _ _ us hl => match us, hl with | [_], _ => rfl
  have mNo := PySem.W.mg_of X G aNo
  have FIi := fun_mk (st := sIi) lIi cIi kpIi
  have bIi := FIi.binds (ps := ["value"]) fun _ _ _ _ _ _ us hl => match us, hl with | [_], _ => rfl
  have mIi := PySem.W.mg_of X G aIi
  have FIw := fun_mk (st := sIsW) lIw cIw kpIw
  have bIw := FIw.binds (ps := ["value"]) fun _ _ _ _ _ _ us hl => match us, hl with | [_], _ => rfl
  have mIw := PySem.W.mg_of X G aIw
  have FAs := fun_mk (st := sAs) lAs cAs kpAs
  have bAs := FAs.binds (ps := ["text"]) fun _ _ _ _ _ _ us hl => match us, hl with | [_], _ => rfl
  have mAs := PySem.W.mg_of X G aAs
  have FPl := fun_mk (st := sPl) lPl cPl kpPl
  have bPl := FPl.binds (ps := ["value", "room"]) fun _ _ _ _ _ _ us hl => match us, hl with | [_, _], _ => rfl
  have mPl := PySem.W.mg_of X G aPl
  have FWr := fun_mk (st := sWrt) lWr cWr kpWr
  have bWr := FWr.binds (ps := ["data"]) fun _ _ _ _ _ _ us hl => match us, hl with | [_], _ => rfl
  have mWr := PySem.W.mg_of X G aWr
  have FWp := fun_mk (st := sWp) lWp cWp kpWp
  have bWp := FWp.binds (ps := ["data"]) fun _ _ _ _ _ _ us hl => match us, hl with | [_], _ => rfl
  have mWp := PySem.W.mg_of X G aWp
  have FRd := fun_mk (st := sRd) lRd cRd kpRd
  have bRd := FRd.binds (ps := ["text"]) fun _ _ _ _ _ _ us hl => match us, hl with | [_], _ => rfl
  have mRd := PySem.W.mg_of X G aRd
  have FPb := fun_mk (st := sPb) lPb cPb kpPb
  have bPb := FPb.binds (ps := ["here", "at", "pending"]) fun _ _ _ _ _ _ us hl => match us, hl with | [_, _, _], _ => rfl
  have mPb := PySem.W.mg_of X G aPb
  have FLe := fun_mk (st := sLe) lLe cLe kpLe
  have bLe := FLe.binds (ps := ["text", "at"]) fun _ _ _ _ _ _ us hl => match us, hl with | [_, _], _ => rfl
  have mLe := PySem.W.mg_of X G aLe
  have FLo := fun_mk (st := sLo) lLo cLo kpLo
  have bLo := FLo.binds (ps := ["text"]) fun _ _ _ _ _ _ us hl => match us, hl with | [_], _ => rfl
  have mLo := PySem.W.mg_of X G aLo
  have FC := fun_mk (st := sCell) lC cC kpC
  have bC := FC.binds (ps := ["script", "k"]) fun _ _ _ _ _ _ us hl => match us, hl with | [_, _], _ => rfl
  have mC := PySem.W.mg_of X G aC
  have FD := fun_mk (st := sDraws) lD cD kpD
  have bD := FD.binds (ps := ["script", "at", "count", "bound"]) fun _ _ _ _ _ _ us hl => match us, hl with | [_, _, _, _], _ => rfl
  have mD := PySem.W.mg_of X G aD
  have FLi := fun_mk (st := sLi) lLi cLi kpLi
  have bLi := FLi.binds (ps := ["value"]) fun _ _ _ _ _ _ us hl => match us, hl with | [_], _ => rfl
  have mLi := PySem.W.mg_of X G aLi
  have FWd := fun_mk (st := sWd) lWd cWd kpWd
  have bWd := FWd.binds (ps := ["row", "at"]) fun _ _ _ _ _ _ us hl => match us, hl with | [_, _], _ => rfl
  have mWd := PySem.W.mg_of X G aWd
  have FDg := fun_mk (st := sDg) lDg cDg kpDg
  have bDg := FDg.binds (ps := ["n"]) fun _ _ _ _ _ _ us hl => match us, hl with | [_], _ => rfl
  have mDg := PySem.W.mg_of X G aDg
  have FLd := fun_mk (st := sLd) lLd cLd kpLd
  have bLd := FLd.binds (ps := ["script", "row", "at", "deep"]) fun _ _ _ _ _ _ us hl => match us, hl with | [_, _, _, _], _ => rfl
  have mLd := PySem.W.mg_of X G aLd
  have FLw := fun_mk (st := sLw) lLw cLw kpLw
  have bLw := FLw.binds (ps := ["value"]) fun _ _ _ _ _ _ us hl => match us, hl with | [_], _ => rfl
  have mLw := PySem.W.mg_of X G aLw
  have FLs := fun_mk (st := sLs) lLs cLs kpLs
  have bLs := FLs.binds (ps := ["one", "two"]) fun _ _ _ _ _ _ us hl => match us, hl with | [_, _], _ => rfl
  have mLs := PySem.W.mg_of X G aLs
  have FLa := fun_mk (st := sLa) lLa cLa kpLa
  have bLa := FLa.binds (ps := ["text"]) fun _ _ _ _ _ _ us hl => match us, hl with | [_], _ => rfl
  have mLa := PySem.W.mg_of X G aLa
  have FLm := fun_mk (st := sLm) lLm cLm kpLm
  have bLm := FLm.binds (ps := ["value"]) fun _ _ _ _ _ _ us hl => match us, hl with | [_], _ => rfl
  have mLm := PySem.W.mg_of X G aLm
  have FL := fun_mk (st := sLaw) lL cL kpL
  have mL := PySem.W.mg_of X G aL
  have TON : OexC K Nt := ⟨⟨_, _, _, _, _, _, _, _, _, _, _, _, _, _, _, lN, vN⟩, sN, bN, tN, kpN⟩
  have FN : SupD P K mg "__init__" "NoText.__init__" (defArgs sNt) (defBody sNt) (defScope sNt) Nt ccN cdaN fN (PySem.W.fnX "__init__" "NoText.__init__" (defArgs sNt) (defBody sNt) (defScope sNt) [("__class__", ccN)] .none kVN dcN pmN anN (.ref cdaN) ctN) "self" :=
    ⟨⟨_, _, _, _, _, _, _, _, _, rfl, fnN⟩, cdN, ⟨_, _, _, _, _, _, cfN, h2N, hfN⟩, ⟨_, _, _, ceN⟩, ⟨_, rfl, rfl⟩, TON, mN, suN, sbN, stN, topN, PySem.W.mg_none_of X G zsuper⟩
  have bNt : Binds K (PySem.W.fnX "__init__" "NoText.__init__" (defArgs sNt) (defBody sNt) (defScope sNt) [("__class__", ccN)] .none kVN dcN pmN anN (.ref cdaN) ctN) ["self", "at"] [] := .all fun us hl => match us, hl with | [_, _], _ => rfl
  have XFN : XfC K Nt := ⟨gaN, ggN, bN, hdN⟩
  have XCN : ExcC K Nt := ⟨gaN, ggN, bN, hdN, caN, cn, ct, cmN⟩
  have T : TxL K mg := ⟨PySem.W.mg_none_of X G zlen, PySem.W.mg_none_of X G zrange, PySem.W.mg_none_of X G zint, PySem.W.mg_none_of X G zabs, PySem.W.mg_none_of X G zisinstance, PySem.W.mg_none_of X G zbool⟩
  have gPa' := PySem.W.mg_of X G gPa
  have gDi' := PySem.W.mg_of X G gDi
  have gDe' := PySem.W.mg_of X G gDe
  have gLt' := PySem.W.mg_of X G gLt
  have mNt := PySem.W.mg_of X G gN
  have mMa := PySem.W.mg_of X G gM
  have TP : TxP mg := ⟨⟨_, gPa', rPa⟩, ⟨_, gDi', rDi⟩, PySem.W.mg_none_of X G zdivmod, PySem.W.mg_none_of X G zstr, PySem.W.mg_none_of X G zmax⟩
  have TD : TxD mg := ⟨PySem.W.mg_none_of X G zstr, PySem.W.mg_none_of X G ztuple, PySem.W.mg_none_of X G zall, PySem.W.mg_none_of X G zmin, ⟨_, gDe', rDe⟩, ⟨_, gLt', rLt⟩⟩
  have TM : TxMl K mg Ma := ⟨xM, mMa, kpM, bM, tM⟩
  have exM := PySem.W.exm_ref bM hdM tM ssM
  have NX : TxNt K mg Nt := ⟨mNt, PySem.W.exm_ref bN hdN tN ssN, XFN, atN⟩
  refine ⟨(PySem.W.fnOf "law" "law" (defArgs sLaw) (defBody sLaw) (defScope sLaw) .none kVL dcL pmL anL cdL ctL), fun s v => .of_eq rfl, fun base _ _ hN => ?_⟩
  have NC : NtC P w K mg base Nt fN _ := ⟨TON, iN, tfN', ok_nt FN atN, bNt, mNt⟩
  have GAs := ok_as (P := P) (w := w) (base := base) FAs (PySem.W.mg_none_of X G zall)
  have GIw := ok_isw (P := P) (w := w) (base := base) FIw T (PySem.W.mg_none_of X G zstr) gLt' rLt GAs kpAs bAs mAs
  have GIi := ok_ii (P := P) (w := w) (base := base) (q := "") (st := sIi) rfl FIi T
  have GPl := ok_pl (P := P) (w := w) (base := base) FPl T TD ⟨mIi, kpIi, bIi, GIi⟩ ⟨mIw, kpIw, bIw, GIw⟩ mPl bPl 61
  have GDc := ok_dec (P := P) (w := w) (base := base) FDc T TP
  have GNo := ok_num (P := P) (w := w) (base := base) FNo T TP
  have GWp := ok_wp (P := P) (w := w) (base := base) FWp T TD ⟨mDc, kpDc, bDc, GDc⟩ mWp bWp 61
  have GWr := ok_wrt (P := P) (w := w) (base := base) FWr TD TM ⟨mPl, kpPl, bPl, GPl⟩ ⟨mWp, kpWp, bWp, GWp⟩
  have GPb := ok_pb (P := P) (w := w) (base := base) FPb T NC
  have GLe := ok_le (P := P) (w := w) (base := base) FLe T TD NC
  have GLo := ok_lo (P := P) (w := w) (base := base) FLo ⟨mAs, kpAs, bAs, GAs⟩ ⟨mNo, kpNo, bNo, GNo⟩
  have GRd := ok_rd (P0 := P) (w := w) (base := base) FRd T TD NC ⟨mPb, kpPb, bPb, GPb⟩ ⟨mLe, kpLe, bLe, GLe⟩ ⟨mLo, kpLo, bLo, GLo⟩
  have GC := ok_cell (P := P) (w := w) (base := base) FC T
  have GD := ok_draws (P := P) (w := w) (base := base) FD T FC bC mC
  have GLi := ok_li (P := P) (w := w) (base := base) FLi T
  have GWd := ok_wd (P := P) (w := w) (base := base) FWd T
  have GDg := ok_dg (P := P) (w := w) (base := base) FDg T
  have GLd := ok_ld (P := P) (w := w) (base := base) FLd T TD ⟨mC, kpC, bC, GC⟩ ⟨mWd, kpWd, bWd, GWd⟩ mLd bLd 6
  have GLw := ok_lw (P := P) (w := w) (base := base) FLw T TD ⟨mDg, kpDg, bDg, GDg⟩ mLw bLw 6
  have GLs := ok_ls (P := P) (w := w) (base := base) FLs T TD ⟨mLi, kpLi, bLi, GLi⟩ mLs bLs 6
  have GLa := ok_la (P := P) (w := w) (base := base) FLa NX ⟨mRd, kpRd, bRd, GRd⟩
  have GLm := ok_lm (P := P) (w := w) (base := base) FLm TM exM ⟨mWr, kpWr, bWr, GWr⟩
  exact ok_law FL T TD ⟨⟨mD, kpD, bD, GD⟩, ⟨mLd, kpLd, bLd, GLd⟩, ⟨mLw, kpLw, bLw, GLw⟩, ⟨mWr, kpWr, bWr, GWr⟩, ⟨mLs, kpLs, bLs, GLs⟩, ⟨mRd, kpRd, bRd, GRd⟩, ⟨mLa, kpLa, bLa, GLa⟩, ⟨mLi, kpLi, bLi, GLi⟩, ⟨mLm, kpLm, bLm, GLm⟩⟩
theorem walk {l : PySem.W.OpenLaw} {q : Program} {loose : List Str} {XP : (Str → Option Value) → Heap → Prop} {YP : World → Heap → Prop} {d : DefRec} {K : Params → PySem.W.Frag} (hn : l.most = some 63) (hdf : d.params.defaults = []) (hi : importsNone q = true)
    (hY : ∀ (w : World) (h : Heap), YP w h → (K w.params).In h)
    (F : ∀ (w : World) (mg : Str → Option Value) (fa : Addr) (h : Heap), (K w.params).In h → h.Ns mainGlobals mg → mg d.name = some (.ref fa) →
      ∃ fd : FuncData, (∀ (s : Shared) (u : Value), BindsTo s fd ⟨[u], []⟩ [("script", u)]) ∧ ∀ base : Heap, (K w.params).In base → base.Ns mainGlobals mg → base.NoSeer → FnOk l.prog w (K w.params) mg base CX0 67 fa fd ["script"] (spLaw (K w.params))) :
    PySem.W.WalkO q loose XP YP l.row.toRowW d [] (fun f vs => PySem.call f vs) :=
  walk_far (n := 63) (k := 67) (x := "script") (sp := fun w => spLaw (K w.params)) hn (by decide) hdf ⟨rfl, by decide, by decide⟩ hi hY F fun _ _ a ns _ hb hS => ⟨a, ns, rfl, hS, fun _ => rfl⟩
end Ind

set_option Elab.async false
set_option linter.all false
set_option exponentiation.threshold 20000
open PySem PySem.W PyProof.Rows in
set_option maxRecDepth 100000 in
set_option maxHeartbeats 0 in
theorem PySem.Challenge.cw_indicial_k69_data_read_back_holds : PySem.Challenge.rw_indicial_k69_data_read_back.Holds := by
  w_on; o_law; k_head; (case hw => w_witness2)
  k_fill
  refine Ind.walk (l := PySem.Challenge.rw_indicial_k69_data_read_back) rfl rfl (by decide +kernel) (fun w h Y => PySem.W.kIn_of Y) ?F
  case F =>
    intro w mg fa h KX G hmg
    refine' Ind.all_mk rfl KX G hmg ?aDc ?lDc ?cDc ?kpDc ?aNo ?lNo ?cNo ?kpNo ?aIi ?lIi ?cIi ?kpIi ?aIw ?lIw ?cIw ?kpIw ?aAs ?lAs ?cAs ?kpAs ?aPl ?lPl ?cPl ?kpPl ?aWr ?lWr ?cWr ?kpWr ?aWp ?lWp ?cWp ?kpWp ?aRd ?lRd ?cRd ?kpRd ?aPb ?lPb ?cPb ?kpPb ?aLe ?lLe ?cLe ?kpLe ?aLo ?lLo ?cLo ?kpLo ?aC ?lC ?cC ?kpC ?aD ?lD ?cD ?kpD ?aLi ?lLi ?cLi ?kpLi ?aWd ?lWd ?cWd ?kpWd ?aDg ?lDg ?cDg ?kpDg ?aLd ?lLd ?cLd ?kpLd ?aLw ?lLw ?cLw ?kpLw ?aLs ?lLs ?cLs ?kpLs ?aLa ?lLa ?cLa ?kpLa ?aLm ?lLm ?cLm ?kpLm ?aL ?lL ?cL ?kpL ?xM ?gM ?kpM ?bM ?tM ?hdM ?ssM ?gN ?lN ?vN ?sN ?bN ?tN ?kpN ?iN ?tfN' ?fnN ?cdN ?cfN ?h2N ?hfN ?ceN ?mN ?suN ?sbN ?stN ?topN ?hdN ?ssN ?gaN ?ggN ?atN ?caN ?cmN ?ckN ?cn ?ct ?gPa ?rPa ?gDi ?rDi ?gDe ?rDe ?gLt ?rLt ?zsuper ?zlen ?zrange ?zint ?zabs ?zisinstance ?zbool ?zdivmod ?zstr ?zmax ?ztuple ?zall ?zmin
    (case gM => k_is)
    (case gN => k_is)
    (case iN => k_is)
    (case lN => k_is)
    (case fnN => k_is)
    (case ceN => k_is)
    (case cfN => k_is)
    (case gPa => k_is)
    (case gDi => k_is)
    (case gDe => k_is)
    (case gLt => k_is)
    (case aDc => k_is)
    (case lDc => k_is)
    (case cDc => k_is)
    (case kpDc => k_is)
    (case aNo => k_is)
    (case lNo => k_is)
    (case cNo => k_is)
    (case kpNo => k_is)
    (case aIi => k_is)
    (case lIi => k_is)
    (case cIi => k_is)
    (case kpIi => k_is)
    (case aIw => k_is)
    (case lIw => k_is)
    (case cIw => k_is)
    (case kpIw => k_is)
    (case aAs => k_is)
    (case lAs => k_is)
    (case cAs => k_is)
    (case kpAs => k_is)
    (case aPl => k_is)
    (case lPl => k_is)
    (case cPl => k_is)
    (case kpPl => k_is)
    (case aWr => k_is)
    (case lWr => k_is)
    (case cWr => k_is)
    (case kpWr => k_is)
    (case aWp => k_is)
    (case lWp => k_is)
    (case cWp => k_is)
    (case kpWp => k_is)
    (case aRd => k_is)
    (case lRd => k_is)
    (case cRd => k_is)
    (case kpRd => k_is)
    (case aPb => k_is)
    (case lPb => k_is)
    (case cPb => k_is)
    (case kpPb => k_is)
    (case aLe => k_is)
    (case lLe => k_is)
    (case cLe => k_is)
    (case kpLe => k_is)
    (case aLo => k_is)
    (case lLo => k_is)
    (case cLo => k_is)
    (case kpLo => k_is)
    (case aC => k_is)
    (case lC => k_is)
    (case cC => k_is)
    (case kpC => k_is)
    (case aD => k_is)
    (case lD => k_is)
    (case cD => k_is)
    (case kpD => k_is)
    (case aLi => k_is)
    (case lLi => k_is)
    (case cLi => k_is)
    (case kpLi => k_is)
    (case aWd => k_is)
    (case lWd => k_is)
    (case cWd => k_is)
    (case kpWd => k_is)
    (case aDg => k_is)
    (case lDg => k_is)
    (case cDg => k_is)
    (case kpDg => k_is)
    (case aLd => k_is)
    (case lLd => k_is)
    (case cLd => k_is)
    (case kpLd => k_is)
    (case aLw => k_is)
    (case lLw => k_is)
    (case cLw => k_is)
    (case kpLw => k_is)
    (case aLs => k_is)
    (case lLs => k_is)
    (case cLs => k_is)
    (case kpLs => k_is)
    (case aLa => k_is)
    (case lLa => k_is)
    (case cLa => k_is)
    (case kpLa => k_is)
    (case aLm => k_is)
    (case lLm => k_is)
    (case cLm => k_is)
    (case kpLm => k_is)
    (case aL => k_is)
    (case lL => k_is)
    (case cL => k_is)
    (case kpL => k_is)
    (case xM => k_exc)
    (case kpM => k_is)
    (case bM => k_is)
    (case tM => k_is)
    (case hdM => k_is)
    (case ssM => k_is)
    (case vN => decide +kernel)
    (case sN => k_is)
    (case bN => k_is)
    (case tN => k_is)
    (case kpN => k_is)
    (case tfN' => k_is)
    (case cdN => k_is)
    (case h2N => rfl)
    (case hfN => first | rfl | decide +kernel)
    (case mN => k_is)
    (case suN => ks_is)
    (case sbN => k_is)
    (case stN => k_is)
    (case topN => rfl)
    (case hdN => k_is)
    (case ssN => k_is)
    (case gaN => k_is)
    (case ggN => k_is)
    (case atN => k_is)
    (case caN => k_is)
    (case cmN => k_is)
    (case ckN => kit_is)
    (case cn => k_is)
    (case ct => k_is)
    (case rPa => exact ⟨_, rfl⟩)
    (case rDi => exact ⟨_, rfl⟩)
    (case rDe => exact ⟨_, rfl⟩)
    (case rLt => exact ⟨_, rfl⟩)
    (case zsuper => k_is)
    (case zlen => k_is)
    (case zrange => k_is)
    (case zint => k_is)
    (case zabs => k_is)
    (case zisinstance => k_is)
    (case zbool => k_is)
    (case zdivmod => k_is)
    (case zstr => k_is)
    (case zmax => k_is)
    (case ztuple => k_is)
    (case zall => k_is)
    (case zmin => k_is)
#print axioms PySem.Challenge.cw_indicial_k69_data_read_back_holds
