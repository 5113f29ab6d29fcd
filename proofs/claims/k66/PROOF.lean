import PyProof.Rows.All
import Wide.All
import OpenK.AllK
import Wide.FinOn
import HandS.ForMost
import HandS.ForExc
import HandS.EndBits
import HandS.Gcd
import HandS.IsInst
import HandS.ExcIs
import HandS.OwnEq
import HandS.Defaults
import HandS.Wide
import HandS.Property
import KE.IntBitsLaws
import HandS.ExcInit
import HandS.ExcField
import HandS.FStr
import HandS.Nested
import KE.KExcSuper
import KE.KSuper
import HandS.Iter
import HandS.Walk
import HandS.Codes
import HandS.Style
import HandS.Conv
import HandS.Dict
import HandS.Text
import HandS.More
import HandS.TryOnly
import KE.KxIndex
import HandS.Deep
import KE.RegKIsAll
import PySem.Challenge.RW_indicial_k66_full_texts
set_option Elab.async false
set_option linter.all false
set_option maxRecDepth 100000
set_option maxHeartbeats 4000000
namespace Ind
open PySem PySem.Spec PyProof.Rows L2
open Builtin.Int (intBits)

/-! ### operators over ints of any size -/
/-- what a body must show for // of any size -/
structure Far (X : Cx) : Prop where
  seer : X.base.NoSeer
  tree : X.prog.given.tree = none
  stk : X.stack = X.env :: X.outer
  gen : X.env.scope.isGenerator = false
  co : X.env.scope.isCoroutine = false
  room : Room 40 X.A
theorem op_fdivB {X : Cx} (f : Far X) : OpR X (binaryOp .FloorDiv) (rI (fun _ j => j ≠ 0) fun i j => .int (i.fdiv j)) := by
  intro pins s σ H x y v u Q I rx ry h
  obtain ⟨i, j, rfl, rfl, hc, q⟩ := h
  obtain ⟨t, rfl⟩ := rx
  obtain ⟨t', rfl⟩ := ry
  refine floordiv_int hc ⟨.int (i.fdiv j), H, I.tok _, ⟨_, rfl⟩, q⟩ (.inr (PylongRoom.of I.nolimit ?_ (SeerAt.of (env := X.env) (l := X.outer) (f.seer.keeps I.bk) f.tree ?_ f.gen f.co I.ok.blt I.ok.glob)))
  · have h1 := f.room.dp
    have h2 : Builtin.pylongFrames = 100 := rfl
    omega
  · rw [I.ok.frames, f.stk]
theorem op_mulB {X : Cx} : OpR X (binaryOp .Mult) (rI (fun i j => intBits i + intBits j ≤ 134217728) fun i j => .int (i * j)) :=
  opI fun i j _ _ _ _ _ hc q => mul_int q (IntMulOk.of_le (Nat.le_refl _) (Nat.le_refl _) hc)

/-- tracked objects stay -/
theorem same_rfl {H : Hp} : Same H H := fun _ _ e => e
end Ind

set_option Elab.async false
set_option linter.all false
set_option maxRecDepth 100000
set_option maxHeartbeats 4000000
namespace Ind
open PySem PySem.Spec PyProof.Rows L2
open Builtin.Int (intBits)
def top (i : Nat) : Stmt := PySem.Challenge.pw_indicial_k66_full_texts.main.body.getD i (.Pass ⟨0, 0, 0, 0⟩)
end Ind

set_option Elab.async false
set_option linter.all false
set_option maxRecDepth 100000
set_option maxHeartbeats 4000000
namespace Ind
open PySem PySem.Spec PyProof.Rows L2
open Builtin.Int (intBits)
abbrev sCell : Stmt := top 16
abbrev sDraws : Stmt := top 17
/-! ### the law's helpers: what each promises -/
def cell (ns : List Int) (k : Nat) : Int := ns.getD k 0
theorem atI_of {α : Type} {xs : List α} {k : Nat} {x : α} (h : xs[k]? = some x) : atI xs ((k : Nat) : Int) = some x := by
  have hk : k < xs.length := (List.getElem?_eq_some_iff.mp h).1
  have h1 : ixN xs.length ((k : Nat) : Int) = some k := by
    unfold ixN
    rw [if_pos (by omega), if_pos (by omega)]
    all_goals rfl
  unfold atI
  rw [h1]
  exact h
def spCellI (K : PySem.W.Frag) : Sp := fun vs H Q _ => ∃ (a : Addr) (ns : List Int) (k : Nat), vs = [.ref a, .int k] ∧ SqL K H a (ns.map V.int) ∧ Q (.int (cell ns k)) H
/-- draws in their range -/
def InR (ds : List Int) (n : Nat) (b : Int) : Prop := ds.length = n ∧ ∀ d ∈ ds, 0 ≤ d ∧ d < b
def spDraws (K : PySem.W.Frag) : Sp := fun vs H Q _ => ∃ (a : Addr) (ns : List Int) (k n : Nat) (b : Int), vs = [.ref a, .int k, .int n, .int b] ∧ SqL K H a (ns.map V.int) ∧ k ≤ 1000 ∧ n ≤ 1000 ∧ 0 < b ∧ b < 1000000 ∧
  ∀ (ds : List Int) (H' : Hp) (p : Addr), InR ds n b → Same H H' → H p = none → H' p = some (.lst (ds.map V.int)) → Q (.ref p) H'
def spGcdI : Sp := fun vs H Q _ => ∃ a b : Int, vs = [.int a, .int b] ∧ Q (.int ((Nat.gcd a.natAbs b.natAbs : Nat) : Int)) H
def spIsI : Sp := fun vs H Q _ => ∃ a : Int, vs = [.int a] ∧ Q (.bl true) H
/-- what the top says of built-ins that the helpers name -/
structure TxL (K : PySem.W.Frag) (mg : Str → Option Value) : Prop where
  len : mg "len" = none
  range : mg "range" = none
  int : mg "int" = none
  abs : mg "abs" = none
  isinstance : mg "isinstance" = none
  bool : mg "bool" = none
theorem same_upd {H : Hp} {p : Addr} {o : HO} (h : H p = none) : Same H (upd H p o) := fun b u e => by
  rw [upd_ne (ne_of_none e h)]
  exact e
section
variable {P : Program} {w : World} {K : PySem.W.Frag} {mg : Str → Option Value} {base : Heap} {C Z : Addr}
theorem scCell : FnScope ["script", "k"] ["script", "k"] (defScope sCell) := ⟨rfl, rfl, rfl, by decide +kernel, rfl, by decide +kernel, by decide +kernel⟩
theorem ok_cell {f : Addr} {fd : FuncData} (F : Fun K "_law_cell" "_law_cell" sCell f fd) (T : TxL K mg) : FnOk P w K mg base CX0 1 f fd ["script", "k"] (spCellI K) := by
  refine F.ok scCell (fun vs H Q E h => ?_) (fun cdv A outer s H vs Q E hr h => ?_)
  · obtain ⟨a, ns, k, rfl, _⟩ := h
    rfl
  · obtain ⟨a, ns, k, rfl, hS, q⟩ := h
    refine ⟨_, pss_cons (ps_if (pt_cmpR op_lt (pv 1) (pe_callB call_len_seq (by rfl) T.len PySem.boot_len (pa_cons (pv 0) pa_nil)) (nomark _)) (pss_one (ps_ret (pe_ix ix_list (pv 0) (pv 1) fun _ _ => rfl))) pss_nil)
      (pss_one (ps_ret pe_int)), ?_⟩
    refine ⟨_, rfl, _, rfl, a, _, rfl, .inl hS, _, _, rfl, rfl, _, rfl, ite2 (fun c => ?_) (fun c => ?_)⟩
    · have hk : k < ns.length := by simpa using c
      refine ⟨_, rfl, _, rfl, a, _, _, _, rfl, rfl, hS, atI_of (x := V.int (cell ns k)) ?_, q⟩
      rw [List.getElem?_map, List.getElem?_eq_getElem hk]
      simp [cell, hk]
    · have hk : ¬ k < ns.length := by simpa using c
      have e : cell ns k = 0 := by
        unfold cell
        rw [List.getD_eq_getElem?_getD, List.getElem?_eq_none (by omega)]
        rfl
      show Q (.int 0) H
      rw [← e]
      exact q
theorem abs_nat (i : Int) : (if i < 0 then -i else i) = ((i.natAbs : Nat) : Int) := by split <;> omega
end
end Ind

set_option Elab.async false
set_option linter.all false
set_option maxRecDepth 100000
set_option maxHeartbeats 4000000
namespace Ind
open PySem PySem.Spec PyProof.Rows L2
open Builtin.Int (intBits)
structure DrSt (H H' : Hp) (l : Addr) (ds : List Int) (i : Nat) (b : Int) : Prop where
  s : Same H H'
  n : H l = none
  at_ : H' l = some (.lst (ds.map V.int))
  r : InR ds i b
theorem DrSt.push {H H' : Hp} {l : Addr} {ds : List Int} {i : Nat} {b z : Int} (x : DrSt H H' l ds i b) (h0 : 0 ≤ z) (h1 : z < b) : DrSt H (upd H' l (.lst (ds.map V.int ++ [.int z]))) l (ds ++ [z]) (i + 1) b where
  s := fun c o e => by
    have hc : c ≠ l := ne_of_none e x.n
    rw [upd_ne hc]
    exact x.s c o e
  n := x.n
  at_ := by
    rw [upd_same, List.map_append]
    rfl
  r := by
    refine ⟨by rw [List.length_append, x.r.1]; rfl, fun d hd => ?_⟩
    rcases List.mem_append.mp hd with h | h
    · exact x.r.2 d h
    · have e : d = z := by simpa using h
      subst e
      exact ⟨h0, h1⟩
theorem fmod_in {x b : Int} (h : 0 < b) : 0 ≤ x.fmod b ∧ x.fmod b < b := ⟨Int.fmod_nonneg_of_pos x h, Int.fmod_lt_of_pos x h⟩
section
variable {P : Program} {w : World} {K : PySem.W.Frag} {mg : Str → Option Value} {base : Heap} {C Z : Addr}
theorem scDr : FnScope ["script", "at", "count", "bound", "cell", "out", "k", "number", "mixed"] ["script", "at", "count", "bound"] (defScope sDraws) := ⟨rfl, rfl, rfl, by decide +kernel, rfl, by decide +kernel, by decide +kernel⟩
theorem ok_draws {f fC : Addr} {fd fdC : FuncData} (F : Fun K "_law_draws" "_law_draws" sDraws f fd) (T : TxL K mg) (FC : Fun K "_law_cell" "_law_cell" sCell fC fdC) (bC : Binds K fdC ["script", "k"] []) (gC : mg "_law_cell" = some (.ref fC)) :
    FnOk P w K mg base CX0 2 f fd ["script", "at", "count", "bound"] (spDraws K) := by
  have GC : FnOk P w K mg base CX0 1 fC fdC ["script", "k"] (spCellI K) := ok_cell FC T
  refine F.ok scDr (fun vs H Q E h => ?_) (fun cdv A outer s H vs Q E hr h => ?_)
  · obtain ⟨a, ns, k, n, b, rfl, _⟩ := h
    rfl
  · obtain ⟨a, ns, k, n, b, rfl, hS, hk, hn, hb, hb2, q⟩ := h
    refine ⟨_, pss_cons (ps_set (i := 4) scDr.nd rfl (Or.inl rfl) (pe_call GC hr (by rfl) gC FC.kp bC .nil pass0 (pa_cons (pv 0) (pa_cons (pv 1) pa_nil))))
      (pss_cons (ps_set (i := 5) scDr.nd rfl (Or.inl rfl) (pe_lst pa_nil))
      (pss_cons (ps_if (pt_cmpR op_ge (pv 4) (pe_op op_pow pe_int pe_int) (nomark _))
        (pss_cons (ps_for PassesOwn.never rfl (pi_range1 (by rfl) T.range (pa_cons (pv 2) pa_nil)) (pg_name (i := 6) scDr.nd rfl (Or.inl rfl))
          (pss_cons (ps_expr (pe_bm PySem.F.plainAttrs_list PySem.F.slot_list_append PySem.F.type_list_append mt_append (pv 5) (pa_cons (pe_op op_modN (pe_callTy call_int1 (by rfl) T.int (by decide +kernel) (pa_cons (pv 4) pa_nil)) (pv 3)) pa_nil)))
          (pss_one (ps_set (i := 4) scDr.nd rfl (Or.inl rfl) (pe_op op_fdivN (pe_callTy call_int1 (by rfl) T.int (by decide +kernel) (pa_cons (pv 4) pa_nil)) (pv 3))))))
        (pss_one (ps_ret (pv 5)))) pss_nil)
      (pss_cons (ps_set (i := 7) scDr.nd rfl (Or.inl rfl) (pe_op op_add (pe_op op_add (pe_op op_modN (pe_callTy call_int1 (by rfl) T.int (by decide +kernel) (pa_cons (pv 4) pa_nil)) pe_int) (pe_op op_mul pe_int (pv 1))) pe_int))
      (pss_cons (ps_for PassesOwn.never rfl (pi_range1 (by rfl) T.range (pa_cons (pv 2) pa_nil)) (pg_name (i := 6) scDr.nd rfl (Or.inl rfl))
          (pss_cons (ps_set (i := 7) scDr.nd rfl (Or.inl rfl) (pe_op op_modN (pe_callTy call_int1 (by rfl) T.int (by decide +kernel) (pa_cons (pe_op op_add (pe_op op_add (pe_op op_mul (pv 7) pe_int) (pe_op op_mul pe_int (pv 6))) (pv 1)) pa_nil)) pe_int))
          (pss_cons (ps_set (i := 8) scDr.nd rfl (Or.inl rfl) (pe_op op_modN (pe_callTy call_int1 (by rfl) T.int (by decide +kernel) (pa_cons (pe_op op_add (pe_op op_add (pe_op op_mul (pv 7) pe_int) (pe_op op_mul pe_int (pv 6))) pe_int) pa_nil)) pe_int))
          (pss_one (ps_expr (pe_bm PySem.F.plainAttrs_list PySem.F.slot_list_append PySem.F.type_list_append mt_append (pv 5) (pa_cons (pe_op op_modN (pe_callTy call_int1 (by rfl) T.int (by decide +kernel) (pa_cons (pv 8) pa_nil)) (pv 3)) pa_nil)))))))
      (pss_one (ps_ret (pv 5))))))), ?_⟩
    refine ⟨_, rfl, _, rfl, a, ns, k, rfl, hS, Nat.zero_le _, fun l hl => ?_⟩
    have d0 : DrSt H (upd H l (.lst [])) l [] 0 b := ⟨same_upd hl, hl, upd_same, rfl, fun d hd => nomatch hd⟩
    have hlen : ∀ {ds : List Int} {i : Nat}, InR ds i b → i < n → (ds.map V.int).length < sizeLine := fun {ds i} r hi => by
      rw [List.length_map, r.1]
      exact Nat.lt_of_lt_of_le (Nat.lt_of_lt_of_le hi hn) (by decide)
    have bnd : b ≠ 0 ∧ b.natAbs < 1073741824 := ⟨by omega, by omega⟩
    refine ⟨_, rfl, _, _, rfl, rfl, ⟨by decide, by decide, by decide⟩, _, _, rfl, rfl, _, rfl, ite2 (fun _ => ?_) (fun _ => ?_)⟩
    · refine ⟨_, rfl, (n : Int), rfl, by omega, by omega, for_range (lo := 0) (n := n) (fun i σ H' => ∃ (c : Int) (ds : List Int) (kv : Option V), σ = [some (.ref a), some (.int k), some (.int n), some (.int b), some (.int c), some (.ref l), kv, none, none] ∧ DrSt H H' l ds i b)
        ⟨_, [], none, rfl, d0⟩ ?_ ?_⟩
      · rintro i σ H' hi ⟨c, ds, kv, rfl, D⟩
        have hm := fmod_in (x := c) hb
        refine ⟨_, rfl, .inl ⟨rfl, _, SqL.of D.at_⟩, _, rfl, .inl ⟨_, rfl, _, rfl, _, _, rfl, rfl, bnd.1, l, _, _, rfl, rfl, D.at_, hlen D.r hi, ?_⟩⟩
        refine ⟨_, rfl, .inl ⟨_, rfl, _, rfl, _, _, rfl, rfl, bnd, ?_⟩⟩
        exact ⟨_, _, _, rfl, D.push hm.1 hm.2⟩
      · rintro σ H' ⟨c, ds, kv, rfl, D⟩
        exact ⟨_, rfl, q ds H' l D.r D.s D.n D.at_⟩
    · have r31 : ∀ x : Int, 0 ≤ x.fmod 2147483647 ∧ x.fmod 2147483647 < 2147483647 := fun x => fmod_in (by decide)
      have hz := r31 (cell ns k)
      refine ⟨_, rfl, .inl ⟨_, rfl, _, _, rfl, rfl, (by show (2147483647 : Int) ≠ 0; decide), _, rfl, _, _, rfl, rfl, .inl ⟨by decide, by decide⟩, _, _, rfl, rfl, _, _, rfl, rfl, ?_⟩⟩
      refine ⟨_, rfl, (n : Int), rfl, by omega, by omega, for_range (lo := 0) (n := n) (fun i σ H' => ∃ (z : Int) (ds : List Int) (kv mv : Option V), σ = [some (.ref a), some (.int k), some (.int n), some (.int b), some (.int (cell ns k)), some (.ref l), kv, some (.int z), mv] ∧ (0 ≤ z ∧ z < 2 ^ 40) ∧ DrSt H H' l ds i b)
        ⟨_, [], none, none, rfl, ⟨by omega, by omega⟩, d0⟩ ?_ ?_⟩
      · rintro i σ H' hi ⟨z, ds, kv, mv, rfl, hz, D⟩
        have hm : ∀ x : Int, _ := fun x => fmod_in (x := x) hb
        refine ⟨_, rfl, _, _, rfl, rfl, .inr ⟨by decide, by decide⟩, _, rfl, _, _, rfl, rfl, .inl ⟨by decide, by decide⟩, _, _, rfl, rfl, _, rfl, _, _, rfl, rfl, .inl ⟨_, rfl, _, _, rfl, rfl, (by show (2147483647 : Int) ≠ 0; decide), ?_⟩⟩
        refine ⟨_, rfl, _, _, rfl, rfl, .inr ⟨by decide, by decide⟩, _, rfl, _, _, rfl, rfl, .inl ⟨by decide, by decide⟩, _, _, rfl, rfl, _, _, rfl, rfl, .inl ⟨_, rfl, _, _, rfl, rfl, (by show (2147483629 : Int) ≠ 0; decide), ?_⟩⟩
        refine ⟨_, rfl, .inl ⟨rfl, _, SqL.of D.at_⟩, _, rfl, .inl ⟨_, rfl, _, rfl, _, _, rfl, rfl, bnd.1, l, _, _, rfl, rfl, D.at_, hlen D.r hi, ?_⟩⟩
        have hw := r31 (z * 48271 + 11 * (0 + (i : Int)) + (k : Int))
        exact ⟨_, _, _, _, rfl, ⟨hw.1, by omega⟩, D.push (hm _).1 (hm _).2⟩
      · rintro σ H' ⟨z, ds, kv, mv, rfl, hz, D⟩
        exact ⟨_, rfl, q ds H' l D.r D.s D.n D.at_⟩
end
end Ind

set_option Elab.async false
set_option linter.all false
set_option maxRecDepth 100000
set_option maxHeartbeats 4000000
namespace Ind
open PySem PySem.Spec PyProof.Rows L2
/-! ### super().__init__(..) of an own exception over ValueError -/
theorem mw_call {X : Cx} {pins : List (Addr × Obj)} {σ : L2.St} {H : Hp} {s : Shared} {a u C : Addr} {us : List Value} {Q : Value → Shared → Prop} {E : Value → Shared → Prop} {A : Around} (T : OexC X.K C) (I : Inv X pins σ H s)
    (hu : s.heap.get? u = some (PySem.W.kxs_mw "ValueError.__init__" a)) (e : H a = some (exo a C none)) (hl : us.length ≤ sizeLine) (h : ∀ s', Inv X pins σ H s' → Q .none s') : wpAny (model X.prog X.w) A (call (.ref u) us) Q E s := by
  obtain ⟨nm, q, N, bs, bm, sn, sub, ab, col, dd, k0, k1, k2, k3, k5, hC, hbm⟩ := T.cls
  obtain ⟨t1, ho⟩ := exo_at I.hok e
  obtain ⟨hp, g, d, t, os⟩ := s
  have fin : ∀ (h' : Heap) (t2 : Addr), (∀ b o, b ≠ a → hp.get? b = some o → h'.get? b = some o) → h'.get? a = some ({ cls := .ref C, dict := none, data := .fields #[.ref t2, .none, .none, .none, .bool false, .none] } : Obj) → Q .none ⟨h', g, d, t, os⟩ := fun h' t2 k hx => by
    have J := I.write (t' := t) (x := a) (e := a) (o := exo a C none) (by rw [e]; exact True.intro) (.inl rfl) k ⟨_, hx⟩ (exo_ok hx)
    have eu : upd H a (exo a C none) = H := by
      funext b
      by_cases hb : b = a
      · rw [hb, upd_same, e]
      · rw [upd_ne hb]
    rw [eu] at J
    exact h _ J
  refine wpAny_call (codeAny_of_tree ?_)
  show wpAny _ A.in1 (callAny (.ref u) ⟨us, []⟩) _ _ _
  simp only [callAny]
  refine wpAny_bind (wpAny_load hu ?_)
  simp only [PySem.W.kxs_mw, show (Value.type "method-wrapper" == Value.type "method" || Value.type "method-wrapper" == Value.type "builtin_function_or_method" || Value.type "method-wrapper" == Value.type "method-wrapper") = true by decide, if_true]
  refine PySem.W.KFB.if_so (by decide) ?_
  refine wpAny_bind (PySem.W.check_bound_init (PySem.F.excBase_ValueError).toExcCallFacts (I.kIn _ _ hC) ho rfl ?_)
  refine wpAny_bind (wpAny_pure (wpAny_pure ?_))
  refine ⟨PySem.plainId_quiet PySem.F.excBase_ValueError.init.plain _, codeAny_builtin PySem.F.excBase_ValueError.initEntry ?_⟩
  exact PySem.W.exc_init_tree (cls := .ref C) (t0 := t1) (dv := none) (c2 := .none) (c3 := .none) (b4 := .bool false) ho hl fun h' k e' _ => fin h' _ k e'
theorem kept_inv {X : Cx} {pins : List (Addr × Obj)} {σ : L2.St} {H : Hp} {s : Shared} {h' : Heap} (t' : Nat) (I : Inv X pins σ H s) (k : ∀ b o, s.heap.get? b = some o → h'.get? b = some o) : Inv X pins σ H { s with heap := h', toks := t' } :=
  I.un (t' := t') (Un.kept k) (I.hok.kept k)
theorem add_pin {X : Cx} {pins : List (Addr × Obj)} {σ : L2.St} {H : Hp} {s : Shared} {u : Addr} {o : Obj} {n : Nat} (I : Inv X pins σ H s) (hu : s.heap.get? u = some o) (hn : H u = none) (hL : u ≠ X.env.locals) (hf : u ∉ X.fs) (hd : ∀ v, o.data ≠ .cell v) : Inv X ((u, o) :: pins) σ H s :=
  ⟨I.ok, I.os, I.bare, I.base, I.loc, I.cell, I.free, I.freeC, fun p hp => by
    rcases List.mem_append.mp hp with h | h
    · exact I.pin p (List.mem_append_left _ h)
    · rcases List.mem_cons.mp h with rfl | h
      · exact ⟨hu, hn, hL, hf, hd⟩
      · exact I.pin p (List.mem_append_right _ h), I.hok, I.len⟩
theorem less_pin {X : Cx} {pins : List (Addr × Obj)} {σ : L2.St} {H : Hp} {s : Shared} {p : Addr × Obj} (I : Inv X (p :: pins) σ H s) : Inv X pins σ H s :=
  ⟨I.ok, I.os, I.bare, I.base, I.loc, I.cell, I.free, I.freeC, fun q hq => I.pin q (by
    rcases List.mem_append.mp hq with h | h
    · exact List.mem_append_left _ h
    · exact List.mem_append_right _ (List.mem_cons_of_mem _ h)), I.hok, I.len⟩
theorem kxs_cw {M : Model} {A : Around} {E : Value → Shared → Prop} {s : Shared} {i : String} {x u : Addr} {pos : Pos} {env : Env} {e : Expr} {rest : List Expr} {Q : Value → Shared → Prop}
    (he : starEach (e :: rest) env = (false, eval e env) :: starEach rest env) (hplain : (backTo pos (starEach rest env)).any (·.1) = false)
    (h : wpAny M A (spliced (backTo pos (starEach (e :: rest) env))) (fun vs s₁ => PySem.W.KxsAt i u x s₁.heap ∧ wpAny M A (call (.ref u) vs) Q E s₁) E s) :
    wpAny M A (callWith pos (.ref u) [] (backTo pos (starEach (e :: rest) env)) []) Q E s := by
  rw [he] at h ⊢
  refine PySem.W.kxs_callWith (i := i) (x := x) (by show (false || (backTo pos (starEach rest env)).any (·.1)) = false; rw [hplain]; rfl) ?_
  exact PySem.Calls.evalArgs_plain h
/-- what the text and the written part say of a def whose first row is super().__init__(..): class D over ValueError -/
structure SupD (P : Program) (K : PySem.W.Frag) (mg : Str → Option Value) (name qual : Str) (params : Arguments) (body : List Stmt) (scope : Scope) (D cc cda f : Addr) (fd : FuncData) (slf : Str) : Prop where
  ex : ∃ (oc : Value) (od : Option Addr) (dV kV doc pm : Value) (an : Option Addr) (ct : Value) (osl : Array (Option Value)),
    fd = PySem.W.fnX name qual params body scope [("__class__", cc)] dV kV doc pm an (.ref cda) ct ∧ K.lookup f = some ⟨oc, od, .func fd, osl⟩
  code : PySem.W.codeIn K (.ref cda) qual = true
  file : ∃ (ccl : Value) (cdd : Option Addr) (vs : Array Value) (ccs : Array (Option Value)) (fl : Str) (tf : Tok), K.lookup cda = some ⟨ccl, cdd, .fields vs, ccs⟩ ∧ vs[2]? = some (.str fl tf) ∧ ((P.main.file : Str) == fl) = true
  cell : ∃ (cl : Value) (cld : Option Addr) (csl : Array (Option Value)), K.lookup cc = some ⟨cl, cld, .cell (some (.ref D)), csl⟩
  head : ∃ ar : Arg, (params.posonlyargs ++ params.args).head? = some ar ∧ ar.arg = slf
  T : OexC K D
  mro : PySem.W.mroIn K D (.ref D) = some true
  sup : PySem.W.ks_superIn K D D "__init__" = some (some (.builtin "ValueError.__init__"))
  sub : PySem.W.subIn K (.ref D) (.type "ValueError") = some true
  st : PySem.W.nsIn K cStatics "thirdparty.any" = some none
  top : (P.main.scope.names.lookup ("super" : Str)).isSome = false
  none : mg "super" = none
/-- .. its scope -/
structure SupS (slf : Str) (scope : Scope) : Prop where
  sup : scope.names.lookup ("super" : Str) = some .globalImplicit
  cls : scope.names.lookup ("__class__" : Str) = some .free
  me : scope.names.lookup slf = some .local
section
variable {CX : CXT} {P : Program} {w : World} {K : PySem.W.Frag} {mg : Str → Option Value} {base : Heap} {k : Nat} {f D cc cda : Addr} {fd : FuncData} {name qual slf : Str} {params : Arguments} {scope : Scope} {N ps : List Str} {sp : Sp} {e0 : Expr} {es : List Expr} {rest : List Stmt} {p0 p1 p2 p3 p4 : Pos}
abbrev nfOf (name qual : Str) (params : Arguments) (body : List Stmt) (scope : Scope) (cc cda : Addr) : NdefX.NF := ⟨name, qual, params, body, scope, [("__class__", cc)], cda⟩
theorem boot_super : bootBuiltins "super" = some (.type "super") := by first | rfl | kernel_rfl | decide +kernel
theorem ok_super {body : List Stmt} (hbd : body = .Expr (.Call (.Attribute (.Call (.Name "super" p0) [] [] p1) "__init__" p2) (e0 :: es) [] p3) p4 :: rest)
    (F : SupD P K mg name qual params body scope D cc cda f fd slf) (S : NdefX.NScope N ps ["__class__"] scope) (S2 : SupS slf scope) (hps : ps[0]? = some slf) (hN0 : N[0]? = some slf)
    (len : ∀ vs H Q E, sp vs H Q E → vs.length = ps.length)
    (he : ∀ env : Env, starEach (e0 :: es) env = (false, eval e0 env) :: starEach es env) (hpl : ∀ env : Env, (backTo p3 (starEach es env)).any (·.1) = false)
    (hcall : ∀ env : Env, eval (.Call (.Attribute (.Call (.Name "super" p0) [] [] p1) "__init__" p2) (e0 :: es) [] p3) env = (do
      let ov ← attributeBase (.Call (.Name "super" p0) [] [] p1) "__init__" env (eval (.Call (.Name "super" p0) [] [] p1) env)
      standAt p2.atName
      let (g, first) ← holding [ov] (getMethod ov "__init__" (pure false))
      callWith p3 g first (backTo p3 (starEach (e0 :: es) env)) []))
    (hbody : ∀ (A : Around) (outer : List Env) (s : Shared) (H : Hp) (vs : List V) (Q : VK) (E : XK), Room k (A.deeper (NdefX.envF (nfOf name qual params body scope cc cda) f s.heap.objs.size)) → sp vs H Q E →
      ∃ (a : Addr) (ws : List V) (ta : TA) (t : TS), vs = .ref a :: ws ∧ H a = some (exo a D none) ∧ PA (NdefX.ncx CX P w K mg base N (nfOf name qual params body scope cc cda) f A outer s H E) (e0 :: es) ta ∧
        PSs (NdefX.ncx CX P w K mg base N (nfOf name qual params body scope cc cda) f A outer s H E) rest t ∧
        ta (NdefX.startF N vs [none]) H fun us H1 => us.length ≤ 1000 ∧ H1 a = some (exo a D none) ∧ t { nx := fun _ H' => Q .non H', rt := Q } (NdefX.startF N vs [none]) H1) :
    FnOk P w K mg base CX (k + 1) f fd ps sp := by
  refine ⟨len, fun A outer s H args us vs Q E hr e0' hb r hsp => ?_⟩
  obtain ⟨oc, od, dV, kV, doc, pm, an, ct, osl, rfl, lk⟩ := F.ex
  obtain ⟨ccl, cdd, cvs, ccs, fl, tf, lkc, hfl, hfile⟩ := F.file
  obtain ⟨cl, cld, csl, lkcc⟩ := F.cell
  obtain ⟨ar, har, hself⟩ := F.head
  have hl := len _ _ _ _ hsp
  have KX : K.In s.heap := e0'.mod.kin.keeps fun b o e => (e0'.bs b o e).1
  have lim : s.heap.NoLimit := e0'.mod.nolimit.keeps fun b o e => (e0'.bs b o e).1
  refine PySem.ks_codeAny_call_defAt (fd := PySem.W.fnX name qual params body scope [("__class__", cc)] dV kV doc pm an (.ref cda) ct) (body := body) (binds := ps.zip us) hr.depth (KX _ _ lk) rfl lim (PySem.W.codeRec_of KX F.code) rfl hb S.nocell
    (fun ⟨n, _⟩ hy => S.par n (List.of_mem_zip hy).1) (fun h₁ hns kp => ?_) S.co S.gen S.kind
  obtain ⟨a, ws, ta, t, rfl, ha, hta, ht, hq⟩ := hbody A outer s H vs Q E (hr.deeper _) hsp
  have baseCC : base.get? cc = some ⟨cl, cld, .cell (some (.ref D)), csl⟩ := e0'.mod.kin _ _ lkcc
  have C : NdefX.CellsAt [("__class__", cc)] ["__class__"] [none] s.heap H := ⟨rfl, fun y c e => by
      have hy : y = "__class__" ∧ c = cc := by
        by_cases h : y = ("__class__" : Str)
        · subst h
          simp [List.lookup] at e
          exact ⟨rfl, e.symm⟩
        · have h' : (y == ("__class__" : Str)) = false := by simpa using h
          simp [List.lookup, h'] at e
      obtain ⟨rfl, rfl⟩ := hy
      exact ⟨(e0'.bs _ _ baseCC).2, _, _, (e0'.bs _ _ baseCC).1, rfl⟩, fun x y c e1 e2 => by
      have hx : ∀ z : Str, List.lookup z [(("__class__" : Str), cc)] = some c → z = "__class__" := fun z e => by
        by_cases h : z = ("__class__" : Str)
        · exact h
        · have h' : (z == ("__class__" : Str)) = false := by simpa using h
          simp [List.lookup, h'] at e
      rw [hx x e1, hx y e2], fun i y e => by
      match i, e with
      | 0, e =>
        have e : y = "__class__" := by
          have z : some ("__class__" : Str) = some y := e
          exact (Option.some.inj z).symm
        subst e
        exact ⟨cc, rfl, fun v hv => by cases hv⟩
      | i + 1, e => cases e⟩
  have I : Inv (NdefX.ncx CX P w K mg base N (nfOf name qual params body scope cc cda) f A outer s H E) [] (NdefX.startF N (.ref a :: ws) [none]) H { s with heap := h₁, toks := s.toks + (ps.zip us).length } := NdefX.inv_startN S hr.hd e0' hl r C hns kp
  have fin : ∀ {σ' : L2.St} {H' : Hp} {v : V} {u : Value} {s' : Shared}, Inv (NdefX.ncx CX P w K mg base N (nfOf name qual params body scope cc cda) f A outer s H E) [] σ' H' s' → L2.RelV v u → Q v H' → CE outer P w H s Q u s' :=
    fun {σ' H' v u s'} J rv q => ⟨v, H', J.os, J.bare, J.base, J.hok, rv, q⟩
  refine PySem.ks_wpAt_mono (Q := SP (NdefX.ncx CX P w K mg base N (nfOf name qual params body scope cc cda) f A outer s H E) [] { nx := fun _ H' => Q .non H', rt := Q }) ?_ (fun fl s' hs => ?_) (fun e s' hs => hs)
  rotate_left
  · cases fl with
    | ret u =>
      obtain ⟨v, σ', H', J, rv, q⟩ := hs
      exact fin J rv q
    | next =>
      obtain ⟨σ', H', J, q⟩ := hs
      exact fin (v := V.non) (u := Value.none) J rfl q
    | brk =>
      obtain ⟨_, _, _, q⟩ := hs
      exact False.elim q
    | cont =>
      obtain ⟨_, _, _, q⟩ := hs
      exact False.elim q
  subst hbd
  obtain ⟨nm, qq, NN, bs, bm, sn, sub, ab, col, dd, k0, k1, k2, k3, k5, hDk, hbm⟩ := F.T.cls
  have hcl : PySem.W.clsIn K D = some { name := nm, bases := bs, mro := .ref D :: bm, ns := NN, qualname := qq, hasDict := true, slotNames := sn, subclasses := sub, abstract := ab, collection := col, hasDel := false } := by unfold PySem.W.clsIn; rw [hDk] <;> rfl
  obtain ⟨t1, ho⟩ := exo_at I.hok ha
  obtain ⟨m, hn, hlk⟩ := id I.loc
  obtain ⟨u0, ru, hlook⟩ := hlk 0 slf (.ref a) hN0 rfl (.inl S2.me)
  obtain rfl : u0 = Value.ref a := ru
  have hv : m slf = some (.ref a) := by
    rcases hlook with ⟨_, z⟩ | ⟨z, _⟩
    · exact z
    · have z : scope.names.lookup slf = some .cell ∨ scope.names.lookup slf = some .free := z
      rw [S2.me] at z
      rcases z with z | z <;> cases z
  obtain ⟨mb, hmb, hbb⟩ := I.ok.mod.blt
  have hint : ∀ (doc pm : Value), interactive (callEnv (PySem.W.fnX name qual params (.Expr (.Call (.Attribute (.Call (.Name "super" p0) [] [] p1) "__init__" p2) (e0 :: es) [] p3) p4 :: rest) scope [("__class__", cc)] dV kV doc pm an (.ref cda) ct) s.heap.objs.size f) = false := fun doc pm => by
    show (scope.kind == .module && _) = false
    rw [S.kind]
    rfl
  refine PySem.ks_wpAt_execs_cons (PySem.ks_wpAt_Expr_any (PySem.ks_wpAt_MethodCall (pl := pure false) ?_ (hcall _)) (hint _ _) rfl)
  refine PySem.ks_wpAt_super_base (env := NdefX.envF (nfOf name qual params (.Expr (.Call (.Attribute (.Call (.Name "super" p0) [] [] p1) "__init__" p2) (e0 :: es) [] p3) p4 :: rest) scope cc cda) f s.heap.objs.size) S2.sup S2.cls rfl rfl (I.kIn _ _ lk) rfl har rfl (I.kIn _ _ lkc) rfl hfl hfile F.top ?_
  refine PySem.W.ks_loadName_global S.kind S2.sup (PySem.Calls.loadGlobal_builtin (I.mod.glob.keeps I.bk) F.none (hmb.keeps I.bk) ((hbb _ (by decide +kernel)).trans boot_super) ⟨rfl, ?_⟩)
  refine wpAny_loadName_free S.kind S2.cls rfl ⟨_, I.kIn _ _ lkcc, rfl⟩ ?_
  rw [hself]
  refine wpAny_loadName_local S.kind S2.me hn hv ?_
  refine PySem.ks_wpAny_isType_cls (I.kIn _ _ hDk) rfl ⟨rfl, ?_⟩
  refine PySem.ks_wpAny_call_super (I.kIn _ _ hDk) rfl ho rfl (fun c e => by cases e) (PySem.W.looks_mroIn I.kIn F.mro) (fun h2 hso k2' => ?_)
  have I2 := kept_inv (h' := h2) (s.toks + (ps.zip us).length) I k2'
  have hI : PySem.W.InstAt h2 a { cls := .ref D, dict := none, data := .fields #[.ref t1, .none, .none, .none, .bool false, .none] } D none := ⟨k2' _ _ ho, rfl, rfl, trivial⟩
  have hsup := F.sup
  unfold PySem.W.ks_superIn at hsup
  rw [hcl] at hsup
  refine PySem.W.kxs_getMethod PySem.W.kxs_ValueError hso (PySem.W.looks_opaque I2.kIn F.st) (l₀ := .ref D :: bm) ((PySem.W.looks_clsIn I2.kIn hcl).andThen .now) rfl I2.kIn hsup (hI.type.andThen (PySem.W.looks_subIn I2.kIn F.sub)) (PySem.W.ks_ne I2.kIn hI hcl) (by decide) ?_
  have hmw : (h2.push (PySem.W.kxs_mw "ValueError.__init__" a)).get? h2.objs.size = some (PySem.W.kxs_mw "ValueError.__init__" a) := Heap.get?_push_at rfl rfl
  have I3 := kept_inv (h' := h2.push (PySem.W.kxs_mw "ValueError.__init__" a)) (s.toks + (ps.zip us).length + 1) I2 (fun b o e => Heap.get?_push_of_some _ e)
  have I4 := add_pin (u := h2.objs.size) (n := 0) I3 hmw (I2.hok.fresh (Nat.le_refl _)) (Nat.ne_of_gt I2.lt) (I2.nofs (Nat.le_refl _)) (fun v z => by cases z)
  show wpAny _ _ (callWith p3 (.ref h2.objs.size) [] (backTo p3 (starEach (e0 :: es) _)) []) _ _ _
  refine kxs_cw (i := "ValueError.__init__") (x := a) (he _) (hpl _) ?_
  refine thn (hta.run p3 _ _ _ H _ I4 hq) fun us2 s5 ⟨vs5, H5, I5, r5, hl5, ha5, q5⟩ => ?_
  have pin5 := (I5.pin (h2.objs.size, PySem.W.kxs_mw "ValueError.__init__" a) (List.mem_append_right _ List.mem_cons_self)).1
  refine ⟨pin5, ?_⟩
  refine mw_call F.T I5 pin5 ha5 ?_ fun s6 I6 => ?_
  · rw [← Paired.length r5, sizeLine_eq]
    omega
  · exact PySem.wpAt_of_wpAny (ht.run [] s6 _ H5 _ (less_pin I6) q5)
end
end Ind

set_option Elab.async false
set_option linter.all false
set_option maxRecDepth 100000
set_option maxHeartbeats 4000000
namespace Ind
open PySem PySem.Spec PyProof.Rows L2 SX
abbrev sIsW : Stmt := top 5
abbrev sAs : Stmt := top 6
/-- what a comprehension has gathered -/
structure ColV (D : Addr) (H H2 : Hp) (vs : List V) : Prop where
  s : Same H H2
  at_ : H2 D = some (.lst vs)
theorem ColV.start {D : Addr} {H : Hp} (h : H D = none) : ColV D H (upd H D (.lst [])) [] := ⟨same_upd h, upd_same⟩
theorem ColV.push {D : Addr} {H H2 H3 : Hp} {vs : List V} {v : V} (x : ColV D H H2 vs) (hD : H D = none) (s : Same H2 H3) (hl : vs.length ≤ 100000) :
    ∃ acc, H3 D = some (.lst acc) ∧ acc.length < sizeLine ∧ ColV D H (upd H3 D (.lst (acc ++ [v]))) (vs ++ [v]) := by
  refine ⟨vs, s _ _ x.at_, Nat.lt_of_le_of_lt hl (by decide), fun c o ec => ?_, upd_same⟩
  rw [upd_ne (ne_of_none ec hD)]
  exact s _ _ (x.s _ _ ec)
/-- a small letter -/
def sm1 (c : Nat) : Bool := decide (97 ≤ c) && decide (c ≤ 122)
def smB (l : List Nat) : Bool := l.all sm1
def isW (l : List Nat) : Bool := decide (1 ≤ l.length) && decide (l.length ≤ 12) && smB l
def spAs : Sp := fun vs H Q _ => ∃ l : List Nat, vs = [.str (S l)] ∧ l.length ≤ 100000 ∧ ∀ H' : Hp, Same H H' → Q (.bl (smB l)) H'
def spIsW (K : PySem.W.Frag) : Sp := fun vs H Q _ => (∃ l : List Nat, vs = [.str (S l)] ∧ l.length ≤ 100000 ∧ ∀ H' : Hp, Same H H' → Q (.bl (isW l)) H') ∨
  ∃ (x : V) (ty : Value), vs = [x] ∧ TyX K H x ty ∧ PySem.W.kitOne K ty (.type "str") = some false ∧ Q (.bl false) H
theorem one_lt (c d : Nat) : decide ((⟨#[c]⟩ : Str).cps.toList < (⟨#[d]⟩ : Str).cps.toList) = decide (c < d) := by
  by_cases h : c < d
  · rw [decide_eq_true h]
    refine decide_eq_true ?_
    show [c] < [d]
    exact List.cons_lt_cons_iff.mpr (.inl h)
  · rw [decide_eq_false h]
    refine decide_eq_false fun z => ?_
    have z : [c] < [d] := z
    rcases List.cons_lt_cons_iff.mp z with z | ⟨_, z⟩
    · exact h z
    · cases z
theorem at_S {l : List Nat} {i c : Nat} (h : (S l).cps[i]? = some c) : l[i]? = some c := by
  have : l.toArray[i]? = some c := h
  simpa using this
section
variable {P : Program} {w : World} {K : PySem.W.Frag} {mg : Str → Option Value} {base : Heap}
abbrev nAs : List Str := ["text", "here"]
theorem scAs : FnScope nAs ["text"] (defScope sAs) := ⟨rfl, rfl, rfl, by decide +kernel, rfl, by decide +kernel, by decide +kernel⟩
theorem ok_as {f : Addr} {fd : FuncData} (F : Fun K "are_small" "are_small" sAs f fd) (hall : mg "all" = none) : FnOk P w K mg base CX0 1 f fd ["text"] spAs := by
  refine F.ok scAs (fun vs H Q E h => ?_) (fun cdv A outer s H vs Q E hr h => ?_)
  · obtain ⟨l, rfl, _⟩ := h
    rfl
  · obtain ⟨l, rfl, hl, k⟩ := h
    refine ⟨_, pss_one (ps_ret (pe_callB (cr_all rfl) (by rfl) hall (by decide +kernel) (pa_cons (pe_lc (own := [("here", 1)]) (g := gName 1) (tt := tYes) rfl scAs.nd (pi_str (pv 0)) (blkOk_by (N := nAs) (sc := defScope sAs) (by decide +kernel))
        (fun _ _ _ _ _ => pg_name (i := 1) scAs.nd rfl (Or.inl rfl)) (fun _ _ _ _ _ => pts_nil) (fun _ _ _ _ _ => pe_chain op_le_str op_le_str pe_str (pv 1) pe_str)) pa_nil))), ?_⟩
    refine ⟨_, rfl, _, rfl, fun D hD => ?_⟩
    refine lc_it (walk_str (z := S l)) (fun i H2 => ColV D H H2 ((l.take i).map fun c => V.bl (sm1 c))) (ColV.start hD) (fun _ _ _ _ => trivial) ?_ ?_
    · rintro i x H2 H3 hi z ⟨rfl, c, hc, rfl⟩
      have hc := at_S hc
      refine ⟨rfl, _, rfl, Str.ofString "a", ⟨#[c]⟩, rfl, rfl, _, rfl, ?_⟩
      have e1 : (!decide ((⟨#[c]⟩ : Str).cps.toList < (Str.ofString "a").cps.toList)) = decide (97 ≤ c) := by
        rw [show Str.ofString "a" = ⟨#[97]⟩ by decide +kernel, one_lt]
        by_cases h : 97 ≤ c
        · rw [decide_eq_true h, decide_eq_false (by omega)]
          rfl
        · rw [decide_eq_false h, decide_eq_true (by omega)]
          rfl
      have fin : ∃ acc, H3 D = some (.lst acc) ∧ acc.length < sizeLine ∧ ColV D H (upd H3 D (.lst (acc ++ [V.bl (sm1 c)]))) ((l.take (i + 1)).map fun c => V.bl (sm1 c)) := by
        rw [List.take_add_one, hc, List.map_append]
        refine z.push hD same_rfl ?_
        rw [List.length_map, List.length_take]
        omega
      rw [e1]
      by_cases h : 97 ≤ c
      · rw [decide_eq_true h]
        refine iteT ⟨⟨#[c]⟩, Str.ofString "z", rfl, rfl, ?_⟩
        have e2 : (!decide ((Str.ofString "z").cps.toList < (⟨#[c]⟩ : Str).cps.toList)) = sm1 c := by
          rw [show Str.ofString "z" = ⟨#[122]⟩ by decide +kernel, one_lt]
          unfold sm1
          rw [decide_eq_true h]
          by_cases h2 : c ≤ 122
          · rw [decide_eq_true h2, decide_eq_false (by omega)]
            rfl
          · rw [decide_eq_false h2, decide_eq_true (by omega)]
            rfl
        rw [e2]
        exact fin
      · rw [decide_eq_false h]
        refine iteF ?_
        have e3 : sm1 c = false := by
          unfold sm1
          rw [decide_eq_false h]
          rfl
        rw [e3] at fin
        exact fin
    · rintro H2 z
      have e : (l.take (S l).cps.size).map (fun c => V.bl (sm1 c)) = (l.map sm1).map V.bl := by
        rw [show (S l).cps.size = l.length by simp [S], List.take_length, List.map_map]
        rfl
      rw [e] at z
      refine ⟨D, l.map sm1, rfl, SqL.of z.at_, ?_⟩
      rw [show (l.map sm1).all id = smB l by unfold smB; rw [List.all_map]; rfl]
      exact k _ z.s
abbrev nIsW : List Str := ["value"]
theorem scIsW : FnScope nIsW ["value"] (defScope sIsW) := ⟨rfl, rfl, rfl, by decide +kernel, rfl, by decide +kernel, by decide +kernel⟩
theorem ok_isw {f fA : Addr} {fd fdA : FuncData} {vL : Value} (F : Fun K "is_word" "is_word" sIsW f fd) (T : TxL K mg) (hstr : mg "str" = none) (gL : mg "LETTERS" = some vL) (rL : RelV (.int 12) vL)
    (GA : FnOk P w K mg base CX0 1 fA fdA ["text"] spAs) (kA : PySem.W.keepIn K (.ref fA) = true) (bA : Binds K fdA ["text"] []) (gA : mg "are_small" = some (.ref fA)) : FnOk P w K mg base CX0 2 f fd ["value"] (spIsW K) := by
  refine F.ok scIsW (fun vs H Q E h => ?_) (fun cdv A outer s H vs Q E hr h => ?_)
  · rcases h with ⟨l, rfl, _⟩ | ⟨x, ty, rfl, _⟩ <;> rfl
  · refine ⟨_, pss_cons (ps_if (PW.pt (pw_or (pt_not (pt_val (pe_callB call_isi (by rfl) T.isinstance (by decide +kernel) (pa_cons (pv 0) (pa_cons (pe_bltn (v := .ty "str") (by rfl) hstr (by decide +kernel) rfl) pa_nil)))))
          (pw_or1 (pt_not (pt_chain op_le op_le pe_int (pe_callB call_len_str (by rfl) T.len PySem.boot_len (pa_cons (pv 0) pa_nil)) (pe_glob rfl gL rL)))))) (pss_one (ps_ret pe_bl)) pss_nil)
      (pss_one (ps_ret (pe_call GA hr (by rfl) gA kA bA .nil pass0 (pa_cons (pv 0) pa_nil)))), ?_⟩
    rcases h with ⟨l, rfl, hl, k⟩ | ⟨x, ty, rfl, hty, hk, q⟩
    · refine ⟨_, rfl, _, _, _, _, true, rfl, ClsV.ty "str", .base (.str _), kit_ty (by decide +kernel), true, rfl, ?_⟩
      refine iteF ⟨_, rfl, S l, rfl, (by rw [S_len]; exact Nat.le_trans hl (by decide)), ?_⟩
      rw [S_len]
      refine ⟨_, _, rfl, rfl, _, rfl, ?_⟩
      by_cases h1 : 1 ≤ l.length
      · rw [show decide ((1 : Int) ≤ ((l.length : Nat) : Int)) = true from decide_eq_true (by omega)]
        refine iteT ⟨_, _, rfl, rfl, _, rfl, ?_⟩
        by_cases h2 : l.length ≤ 12
        · rw [show decide (((l.length : Nat) : Int) ≤ 12) = true from decide_eq_true (by omega)]
          refine iteF ⟨_, rfl, l, rfl, hl, fun H' s => ?_⟩
          have := k H' s
          unfold isW at this
          rw [decide_eq_true h1, decide_eq_true h2] at this
          exact this
        · rw [show decide (((l.length : Nat) : Int) ≤ 12) = false from decide_eq_false (by omega)]
          refine iteT ?_
          have := k H same_rfl
          unfold isW at this
          rw [decide_eq_true h1, decide_eq_false h2] at this
          exact this
      · rw [show decide ((1 : Int) ≤ ((l.length : Nat) : Int)) = false from decide_eq_false (by omega)]
        refine iteF ⟨_, rfl, iteT ?_⟩
        have := k H same_rfl
        unfold isW at this
        rw [decide_eq_false h1] at this
        exact this
    · refine ⟨_, rfl, _, _, _, _, false, rfl, ClsV.ty "str", hty, hk, false, rfl, iteT ?_⟩
      exact q
end
end Ind

set_option Elab.async false
set_option linter.all false
set_option maxRecDepth 100000
set_option maxHeartbeats 4000000
namespace Ind
open PySem PySem.Spec PyProof.Rows L2 SX
abbrev sPcs : Stmt := top 14
/-- the pieces of a text: small letters stay together -/
def pst (s : List (List Nat) × Option Nat) (c : Nat) : List (List Nat) × Option Nat :=
  match s.2 with
  | none => (s.1 ++ [[c]], some c)
  | some d => if sm1 d && sm1 c then (s.1.dropLast ++ [s.1.getLastD [] ++ [c]], some c) else (s.1 ++ [[c]], some c)
def pcs (l : List Nat) : List (List Nat) × Option Nat := l.foldl pst ([], none)
def pieces (l : List Nat) : List (List Nat) := (pcs l).1
theorem pcs_snoc (l : List Nat) (c : Nat) : pcs (l ++ [c]) = pst (pcs l) c := by
  unfold pcs
  rw [List.foldl_append]
  rfl
def vS (p : List Nat) : V := .str (S p)
structure PcI (n : Nat) (st : List (List Nat) × Option Nat) : Prop where
  ne : st.2 ≠ none → ∃ qs p, st.1 = qs ++ [p]
  m : st.1.length ≤ n
  z : ∀ p ∈ st.1, p.length ≤ n
theorem pci_step {n : Nat} {st : List (List Nat) × Option Nat} (ih : PcI n st) (c : Nat) : PcI (n + 1) (pst st c) := by
  unfold pst
  have new : PcI (n + 1) (st.1 ++ [[c]], some c) := by
    refine ⟨fun _ => ⟨_, _, rfl⟩, ?_, fun p hp => ?_⟩
    · rw [List.length_append]
      exact Nat.add_le_add_right ih.m 1
    · rcases List.mem_append.mp hp with h | h
      · have := ih.z p h
        omega
      · rw [List.mem_singleton.mp h]
        exact Nat.succ_le_succ (Nat.zero_le _)
  split
  · exact new
  · rename_i d hd
    split
    · obtain ⟨qs, p0, e⟩ := ih.ne (by rw [hd]; exact fun z => by cases z)
      refine ⟨fun _ => ⟨_, _, rfl⟩, ?_, fun p hp => ?_⟩
      · rw [List.length_append, List.length_dropLast]
        have := ih.m
        show _ + 1 ≤ _
        omega
      · rcases List.mem_append.mp hp with h | h
        · have := ih.z p ((List.dropLast_sublist _).subset h)
          omega
        · rw [List.mem_singleton.mp h, List.length_append]
          have h2 : (st.1.getLastD []).length ≤ n := by
            rw [e, List.getLastD_concat]
            exact ih.z p0 (by rw [e]; exact List.mem_append_right _ (List.mem_singleton.mpr rfl))
          exact Nat.add_le_add_right h2 1
    · exact new
theorem pci_fold : ∀ (l : List Nat) {n : Nat} {st : List (List Nat) × Option Nat}, PcI n st → PcI (n + l.length) (l.foldl pst st)
  | [], _, _, h => h
  | c :: l, n, st, h => by
    have := pci_fold l (pci_step h c)
    rw [List.length_cons, show n + (l.length + 1) = n + 1 + l.length by omega]
    exact this
theorem pci (l : List Nat) : PcI l.length (pcs l) := by
  have := pci_fold l (n := 0) (st := ([], none)) ⟨fun h => absurd rfl h, Nat.le_refl _, fun p h => (by cases h)⟩
  rwa [Nat.zero_add] at this
def spPcs : Sp := fun vs H Q _ => ∃ l : List Nat, vs = [.str (S l)] ∧ l.length ≤ 5000 ∧ ∀ (H' : Hp) (D : Addr), Same H H' → H' D = some (.lst ((pieces l).map vS)) → Q (.ref D) H'
theorem atI_end {xs : List V} {x : V} : atI (xs ++ [x]) (-1) = some x := by
  have h1 : ixN (xs ++ [x]).length (-1) = some xs.length := by
    unfold ixN
    rw [List.length_append]
    rw [if_neg (by decide), if_pos (by show -((xs.length + 1 : Nat) : Int) ≤ -1; omega)]
    congr 1
    show (((xs.length + 1 : Nat) : Int) + -1).toNat = _
    omega
  unfold atI
  rw [h1]
  simp
theorem ixN_end (n : Nat) : ixN (n + 1) (-1) = some n := by
  unfold ixN
  rw [if_neg (by decide), if_pos (by omega)]
  congr 1
  omega
section
variable {P : Program} {w : World} {K : PySem.W.Frag} {mg : Str → Option Value} {base : Heap}
abbrev nPcs : List Str := ["text", "found", "last", "here"]
theorem scPcs : FnScope nPcs ["text"] (defScope sPcs) := ⟨rfl, rfl, rfl, by decide +kernel, rfl, by decide +kernel, by decide +kernel⟩
def lastV : Option Nat → V
  | none => .str (S [])
  | some d => .str (S [d])
theorem ok_pcs {f fA : Addr} {fd fdA : FuncData} (F : Fun K "pieces_of" "pieces_of" sPcs f fd) (T : TxL K mg)
    (GA : FnOk P w K mg base CX0 1 fA fdA ["text"] spAs) (kA : PySem.W.keepIn K (.ref fA) = true) (bA : Binds K fdA ["text"] []) (gA : mg "are_small" = some (.ref fA)) : FnOk P w K mg base CX0 2 f fd ["text"] spPcs := by
  refine F.ok scPcs (fun vs H Q E h => ?_) (fun cdv A outer s H vs Q E hr h => ?_)
  · obtain ⟨l, rfl, _⟩ := h
    rfl
  · obtain ⟨l, rfl, hl, k⟩ := h
    refine ⟨_, pss_cons (ps_set (i := 1) scPcs.nd rfl (Or.inl rfl) (pe_lst pa_nil))
      (pss_cons (ps_set (i := 2) scPcs.nd rfl (Or.inl rfl) pe_str)
      (pss_cons (ps_for PassesOwn.never rfl (pi_str (pv 0)) (pg_name (i := 3) scPcs.nd rfl (Or.inl rfl))
        (pss_cons (ps_if (PW.pt (pw_and (pt_cmpR op_gt (pe_callB call_len_str (by rfl) T.len PySem.boot_len (pa_cons (pv 2) pa_nil)) pe_int (nomark _)) (pw_and1 (pt_val (pe_call GA hr (by rfl) gA kA bA .nil pass0 (pa_cons (pe_op op_add_str (pv 2) (pv 3)) pa_nil))))))
            (pss_one (ps_asg (pe_op op_add_str (pe_ix ix_list (pv 1) (pe_un un_neg pe_int) fun _ _ => rfl) (pv 3)) (pg_sub (pv 1) (pe_un un_neg pe_int) set_list)))
            (pss_one (ps_expr (pe_bm PySem.F.plainAttrs_list PySem.F.slot_list_append PySem.F.type_list_append mt_append (pv 1) (pa_cons (pv 3) pa_nil)))))
          (pss_one (ps_set (i := 2) scPcs.nd rfl (Or.inl rfl) (pv 3)))))
      (pss_one (ps_ret (pv 1))))), ?_⟩
    refine ⟨(by show 0 ≤ sizeLine; decide), fun D hD => ?_⟩
    refine ⟨_, rfl, S l, rfl, ?_⟩
    refine for_it (walk_str (z := S l)) (fun i σ H5 => ∃ v3 : Option V, σ = [some (.str (S l)), some (.ref D), some (lastV (pcs (l.take i)).2), v3] ∧ ColV D H H5 ((pcs (l.take i)).1.map vS)) ⟨none, rfl, ColV.start hD⟩ (fun _ _ _ _ _ => trivial) ?_ ?_
    · rintro i x σ H4 H5 hi ⟨v3, rfl, z⟩ ⟨rfl, c, hc, rfl⟩
      have hc := at_S hc
      have etk : l.take (i + 1) = l.take i ++ [c] := by
        rw [List.take_add_one, hc]
        rfl
      rw [etk, pcs_snoc]
      have I := pci (l.take i)
      have tkl : (l.take i).length ≤ 5000 := by
        rw [List.length_take]
        omega
      generalize pcs (l.take i) = st at z I ⊢
      obtain ⟨ps, ls⟩ := st
      have In := I.m
      have add : ∀ v3 : Option V, ∃ acc, H5 D = some (.lst acc) ∧ acc.length < sizeLine ∧ ColV D H (upd H5 D (.lst (acc ++ [V.str (S [c])]))) ((ps ++ [[c]]).map vS) := fun _ => by
        rw [List.map_append]
        exact z.push hD same_rfl (by rw [List.length_map]; omega)
      cases ls with
      | none =>
        refine ⟨_, rfl, S [], rfl, (by decide +kernel), _, _, rfl, rfl, _, rfl, ?_⟩
        rw [show decide ((0 : Int) < (((S []).length : Nat) : Int)) = false by decide +kernel]
        refine iteF (iteF ?_)
        obtain ⟨acc, f1, f2, f3⟩ := add none
        refine ⟨_, rfl, .inl ⟨rfl, _, SqL.of z.at_⟩, _, rfl, D, acc, _, rfl, rfl, f1, f2, ?_⟩
        exact ⟨_, rfl, _, rfl, f3⟩
      | some d =>
        refine ⟨_, rfl, S [d], rfl, (by rw [S_len]; show 1 ≤ sizeLine; decide), _, _, rfl, rfl, _, rfl, ?_⟩
        rw [show decide ((0 : Int) < (((S [d]).length : Nat) : Int)) = true from decide_eq_true (by rw [S_len]; show (0 : Int) < 1; decide)]
        refine iteT ⟨_, rfl, _, rfl, S [d], ⟨#[c]⟩, rfl, rfl, (by show 2 ≤ sizeLine; decide), [d, c], (by rfl), (by show 2 ≤ 100000; decide), fun H6 s6 => ?_⟩
        have z6 : ColV D H H6 (ps.map vS) := ⟨z.s.trans s6, s6 _ _ z.at_⟩
        have esm : smB [d, c] = (sm1 d && sm1 c) := by
          unfold smB
          simp
        rw [esm]
        have hst : pst (ps, some d) c = if sm1 d && sm1 c then (ps.dropLast ++ [ps.getLastD [] ++ [c]], some c) else (ps ++ [[c]], some c) := rfl
        rw [hst]
        by_cases hb : (sm1 d && sm1 c) = true
        · rw [hb, if_pos rfl]
          obtain ⟨qs, p, e⟩ := I.ne (fun z => by cases z)
          have e : ps = qs ++ [p] := e
          subst e
          rw [List.dropLast_concat, List.getLastD_concat]
          have hz := I.z p (List.mem_append_right _ (List.mem_singleton.mpr rfl))
          have z6' := z6.at_
          rw [List.map_append] at z6'
          refine ⟨_, rfl, iteT ?_⟩
          refine ⟨_, rfl, _, rfl, D, _, _, vS p, rfl, rfl, SqL.of z6', atI_end, _, rfl, S p, ⟨#[c]⟩, rfl, rfl, ?_, ?_⟩
          · rw [S_len]
            exact Nat.le_trans (show p.length + 1 ≤ 5001 by omega) (by decide)
          refine ⟨_, rfl, _, rfl, D, _, _, (qs.map vS).length, rfl, rfl, z6', ?_, ?_⟩
          · rw [List.length_append]
            exact ixN_end _
          · rw [List.set_append_right _ _ (Nat.le_refl _), Nat.sub_self]
            refine ⟨_, rfl, _, rfl, ?_⟩
            rw [List.map_append]
            exact ⟨fun b o eb => by rw [upd_ne (ne_of_none eb hD)]; exact z6.s _ _ eb, by rw [upd_same]; show some (HO.lst (qs.map vS ++ [V.str (S p ++ S [c])])) = _; rw [S_cat]; rfl⟩
        · have hb : (sm1 d && sm1 c) = false := by simpa using hb
          rw [hb, if_neg (by decide)]
          refine ⟨_, rfl, iteF ?_⟩
          have add6 : ∃ acc, H6 D = some (.lst acc) ∧ acc.length < sizeLine ∧ ColV D H (upd H6 D (.lst (acc ++ [V.str (S [c])]))) ((ps ++ [[c]]).map vS) := by
            rw [List.map_append]
            exact z6.push hD same_rfl (by rw [List.length_map]; have In' : ps.length ≤ (l.take i).length := In; omega)
          obtain ⟨acc, f1, f2, f3⟩ := add6
          refine ⟨_, rfl, .inl ⟨rfl, _, SqL.of z6.at_⟩, _, rfl, D, acc, _, rfl, rfl, f1, f2, ?_⟩
          exact ⟨_, rfl, _, rfl, f3⟩
    · rintro σ H5 ⟨v3, rfl, z⟩
      have e : l.take (S l).cps.size = l := by
        rw [show (S l).cps.size = l.length by simp [S], List.take_length]
      rw [e] at z
      exact ⟨_, rfl, k _ D z.s z.at_⟩
end
end Ind

set_option Elab.async false
set_option linter.all false
set_option maxRecDepth 100000
set_option maxHeartbeats 4000000
namespace Ind
open PySem PySem.Spec PyProof.Rows L2 SX
abbrev sRfu : Stmt := inClass (top 2) 0
abbrev sFull : Stmt := top 11
abbrev sExp : Stmt := top 12
abbrev sRl : Stmt := top 13
def spRfu (D : Addr) : Sp := fun vs H Q _ => ∃ (a : Addr) (r : List Nat), vs = [.ref a, .str (S r)] ∧ H a = some (exo a D none) ∧ r.length ≤ 100 ∧
  ∀ dx, H dx = none → dx ≠ a → Q .non (upd (upd H dx (exd dx [("reason", .str (S r))])) a (exo a D (some dx)))
/-- how Refused stands -/
structure RfC (P : Program) (w : World) (K : PySem.W.Frag) (mg : Str → Option Value) (base : Heap) (Rf fN : Addr) (fdN : FuncData) : Prop where
  T : OexC K Rf
  iC : PySem.W.findIn K (.ref Rf) "__init__" = some (some (.ref fN))
  tI : PySem.W.typeIn K (.ref fN) = some (.type "function")
  fn : FnOk P w K mg base CX0 1 fN fdN ["self", "reason"] (spRfu Rf)
  b : Binds K fdN ["self", "reason"] []
  g : mg "Refused" = some (.ref Rf)
def RfE (Rf : Addr) (r : List Nat) (H : Hp) (E : XK) : Prop := ∀ (H' : Hp) (d : Addr), Same H H' → H' d = some (.xd [("reason", .str (S r))]) → E (.ref Rf) (some d) H'
theorem rf_raise {Rf : Addr} {H0 H : Hp} {E : XK} {r : List Nat} (hr : r.length ≤ 100) (s : Same H0 H) (k : RfE Rf r H0 E) : ∀ a, H a = none → spRfu Rf [.ref a, .str (S r)] (upd H a (exo a Rf none))
    (fun v H2 => v = .non ∧ ∃ (d : Addr) (fs : List (Str × V)), H2 a = some (exo a Rf (some d)) ∧ H2 d = some (exd d fs) ∧ H d = none ∧ E (.ref Rf) (some d) (upd (L2.del H2 a) d (.xd fs))) (fun _ _ _ => False) := fun a na => by
  refine ⟨a, r, rfl, upd_same, hr, fun dx ndx dne => ⟨rfl, dx, [("reason", .str (S r))], upd_same, ?_, ?_, ?_⟩⟩
  · rw [upd_ne dne, upd_same]
  · rw [upd_ne dne] at ndx
    exact ndx
  · have nd : H dx = none := by
      rw [upd_ne dne] at ndx
      exact ndx
    refine k _ dx (fun b o e => ?_) upd_same
    have hb := s _ _ e
    rw [upd_ne (ne_of_none hb nd), del_ne (ne_of_none hb na), upd_ne (ne_of_none hb na), upd_ne (ne_of_none hb nd), upd_ne (ne_of_none hb na)]
    exact hb
def lit (s : String) : List Nat := (Str.ofString s).cps.toList
theorem lit_S (s : String) : Str.ofString s = S (lit s) := rfl
def spRl (Rf : Addr) : Sp := fun vs H Q E => ∃ l : List Nat, vs = [.str (S l)] ∧ l.length ≤ 1000000 ∧ (2000 < l.length → RfE Rf (lit "long") H E) ∧ (l.length ≤ 2000 → Q .non H)
section
variable {P : Program} {w : World} {K : PySem.W.Frag} {mg : Str → Option Value} {base : Heap} {D cc cda Rf : Addr}
theorem nsRfu : NdefX.NScope ["self", "reason", "__class__"] ["self", "reason"] ["__class__"] (defScope sRfu) := NdefX.nscope_by (by decide +kernel)
theorem ok_rfu {f : Addr} {fd : FuncData} (F : SupD P K mg "__init__" "Refused.__init__" (defArgs sRfu) (defBody sRfu) (defScope sRfu) D cc cda f fd "self") (hno : PySem.W.findIn K (.ref D) "reason" = some none) :
    FnOk P w K mg base CX0 1 f fd ["self", "reason"] (spRfu D) := by
  refine ok_super (k := 0) (N := ["self", "reason", "__class__"]) (hbd := rfl) F nsRfu ⟨rfl, rfl, rfl⟩ rfl rfl (fun vs H Q E h => ?_) (fun _ => rfl) (fun _ => rfl) (fun _ => rfl) (fun A outer s H vs Q E hr h => ?_)
  · obtain ⟨a, n, rfl, _⟩ := h
    rfl
  · obtain ⟨a, r, rfl, ha, hl, k⟩ := h
    refine ⟨a, [.str (S r)], _, _, rfl, ha, pa_cons (pe_joined (.cons pe_str (.cons (pe_fmt (pv 1)) .nil))) pa_nil, pss_one (ps_ost (pv 0) (pv 1)), ?_⟩
    refine ⟨_, rfl, ?_, _, rfl, .inl ⟨S r, rfl, (by rw [S_len]; exact Nat.le_trans hl (by decide)), _, rfl, ?_, ?_⟩⟩
    · decide +kernel
    · have h0 := S_len r
      rw [PySem.Str.length_append]
      have h1 : (Str.empty ++ Str.ofString "refused: ").length ≤ 100 := by decide +kernel
      have h2 : (20000 : Nat) ≤ sizeLine := by decide
      omega
    · exact ⟨(by show 1 ≤ 1000; decide), ha, _, rfl, _, rfl, a, D, rfl, F.T, hno, .inl ⟨ha, k⟩⟩
theorem scRl : FnScope ["full"] ["full"] (defScope sRl) := ⟨rfl, rfl, rfl, by decide +kernel, rfl, by decide +kernel, by decide +kernel⟩
theorem ok_rl {f fN : Addr} {fd fdN : FuncData} {vL : Value} (F : Fun K "refuse_long" "refuse_long" sRl f fd) (T : TxL K mg) (N : RfC P w K mg base Rf fN fdN) (gL : mg "LONGEST" = some vL) (rL : RelV (.int 2000) vL) : FnOk P w K mg base (L2.CX P w) 3 f fd ["full"] (spRl Rf) := by
  refine F.okX scRl (fun vs H Q E h => ?_) (fun cdv A outer s H vs Q E hr h => ?_)
  · obtain ⟨l, rfl, _⟩ := h
    rfl
  · obtain ⟨l, rfl, hl, kE, kQ⟩ := h
    refine ⟨_, pss_one (ps_if (pt_cmpR op_gt (pe_callB call_len_str (by rfl) T.len PySem.boot_len (pa_cons (pv 0) pa_nil)) (pe_glob rfl gL rL) (nomark _)) (pss_one (ps_raise rfl (takes_of rfl rfl rfl rfl) (pmk_oex N.T N.iC N.tI N.fn hr N.b .nil pass0 (by rfl) N.g (pa_cons pe_str pa_nil)))) pss_nil), ?_⟩
    refine ⟨_, rfl, S l, rfl, (by rw [S_len]; exact Nat.le_trans hl (by decide)), _, _, rfl, rfl, _, rfl, ?_⟩
    rw [S_len]
    by_cases h : 2000 < l.length
    · rw [show decide ((2000 : Int) < ((l.length : Nat) : Int)) = true from decide_eq_true (by omega)]
      exact iteT ⟨by show 1 ≤ 1000; decide, rf_raise (E := E) (r := lit "long") (by decide +kernel) same_rfl (kE h)⟩
    · rw [show decide ((2000 : Int) < ((l.length : Nat) : Int)) = false from decide_eq_false (by omega)]
      exact iteF (kQ (by omega))
end
/-! ### the names -/
abbrev Nm := List (List Nat × List Nat)
def kvN (nm : Nm) : List (Key × V) := nm.map fun p => (Sum.inr (S p.1), vS p.2)
def lookN (nm : Nm) (p : List Nat) : Option (List Nat) := (nm.find? fun q => decide (q.1 = p)).map (·.2)
theorem val_nm : ∀ (nm : Nm) (p : List Nat), valV (kvN nm) (Sum.inr (S p)) = (lookN nm p).map vS
  | [], p => rfl
  | q :: nm, p => by
    by_cases h : q.1 = p
    · subst h
      show valV ((Sum.inr (S q.1), vS q.2) :: kvN nm) _ = _
      rw [valV_pos rfl]
      unfold lookN
      simp
    · show valV ((Sum.inr (S q.1), vS q.2) :: kvN nm) _ = _
      rw [valV_neg (fun z => h (S_inj (Sum.inr.inj z))), val_nm nm p]
      unfold lookN
      simp [h]
def badP (nm : Nm) (p : List Nat) : Bool := decide (1 < p.length) && (lookN nm p).isNone
def bad (nm : Nm) (l : List Nat) : Bool := (pieces l).any (badP nm)
def expP (nm : Nm) (p : List Nat) : List Nat := if 1 < p.length then 40 :: ((lookN nm p).getD [] ++ [41]) else p
def expd (nm : Nm) (l : List Nat) : List Nat := ((pieces l).map (expP nm)).flatten
theorem join_nil : ∀ ps : List (List Nat), TL.joinL [] ps = ps.flatten
  | [] => rfl
  | [p] => by simp [TL.joinL]
  | p :: q :: r => by
    show p ++ ([] ++ TL.joinL [] (q :: r)) = _
    rw [join_nil (q :: r)]
    rfl
theorem join_S (ps : List (List Nat)) : Txt.join (Str.ofString "") (ps.map S) = S ps.flatten := by
  rw [TL.join_eq]
  refine TL.ext_tl ?_
  rw [TL.tl_join, List.map_map]
  show TL.joinL [] (ps.map fun p => (S p).cps.toList) = _
  rw [show (ps.map fun p => (S p).cps.toList) = ps by
    have : (fun p : List Nat => (S p).cps.toList) = id := funext fun p => by simp [S]
    rw [this, List.map_id], join_nil]
def spExp (Rf : Addr) : Sp := fun vs H Q E => ∃ (d : Addr) (nm : Nm) (l : List Nat), vs = [.ref d, .str (S l)] ∧ l.length ≤ 5000 ∧ H d = some (.dK (kvN nm)) ∧ (∀ p ∈ nm, p.2.length ≤ 100) ∧ (bad nm l = true → RfE Rf (lit "name") H E) ∧ (bad nm l = false → ∀ H' : Hp, Same H H' → Q (.str (S (expd nm l))) H')
theorem look_len {nm : Nm} (h : ∀ p ∈ nm, p.2.length ≤ 100) (p : List Nat) : ((lookN nm p).getD []).length ≤ 100 := by
  unfold lookN
  cases e : nm.find? fun q => decide (q.1 = p) with
  | none => exact Nat.zero_le _
  | some q => exact h q (List.mem_of_find?_eq_some e)
theorem sum_len {ps : List (List Nat)} {n : Nat} (h : ∀ p ∈ ps, p.length ≤ n) : ((ps.map S).map (·.length)).sum ≤ ps.length * n := by
  induction ps with
  | nil => exact Nat.zero_le _
  | cons p ps ih =>
    rw [List.map_cons, List.map_cons, List.sum_cons, S_len, List.length_cons, Nat.add_mul, Nat.one_mul]
    have := ih fun q hq => h q (List.mem_cons_of_mem _ hq)
    have := h p (List.mem_cons_self ..)
    omega
section
variable {P : Program} {w : World} {K : PySem.W.Frag} {mg : Str → Option Value} {base : Heap} {D cc cda Rf : Addr}
abbrev nExp : List Str := ["names", "text", "pieces", "piece"]
theorem scExp : FnScope nExp ["names", "text"] (defScope sExp) := ⟨rfl, rfl, rfl, by decide +kernel, rfl, by decide +kernel, by decide +kernel⟩
theorem ok_exp {f fN fP : Addr} {fd fdN fdP : FuncData} (F : Fun K "expanded" "expanded" sExp f fd) (T : TxL K mg) (hany : mg "any" = none) (N : RfC P w K mg base Rf fN fdN)
    (GP : FnOk P w K mg base CX0 2 fP fdP ["text"] spPcs) (kP : PySem.W.keepIn K (.ref fP) = true) (bP : Binds K fdP ["text"] []) (gP : mg "pieces_of" = some (.ref fP)) : FnOk P w K mg base (L2.CX P w) 3 f fd ["names", "text"] (spExp Rf) := by
  refine F.okX scExp (fun vs H Q E h => ?_) (fun cdv A outer s H vs Q E hr h => ?_)
  · obtain ⟨d, nm, l, rfl, _⟩ := h
    rfl
  · obtain ⟨d, nm, l, rfl, hl, hd, hv, kE, kQ⟩ := h
    have hu1 : (A.deeper (envOfC "expanded" (defScope sExp) s.heap.objs.size f cdv)).units + 1 < cLine := by
      have := hr.units
      omega
    refine ⟨_, pss_cons (ps_set (i := 2) scExp.nd rfl (Or.inl rfl) (pe_call GP hr (by rfl) gP kP bP .nil pass0 (pa_cons (pv 1) pa_nil)))
      (pss_cons (ps_if (pt_val (pe_callB (cr_any rfl) (by rfl) hany (by decide +kernel) (pa_cons (pe_lc (own := [("piece", 3)]) (g := gName 3) (tt := tYes) rfl scExp.nd (pi_list (pv 2)) (blkOk_by (N := nExp) (sc := defScope sExp) (by decide +kernel))
          (fun _ _ _ _ _ => pg_name (i := 3) scExp.nd rfl (Or.inl rfl)) (fun _ _ _ _ _ => pts_nil) (fun _ _ _ _ _ => pe_and (pe_cmpR op_gt (pe_callB call_len_str (by rfl) T.len PySem.boot_len (pa_cons (pv 3) pa_nil)) pe_int (nomark _)) (pe_one (pe_cmp (pc_dnotin hu1 (pv 3) (pv 0)))))) pa_nil)))
        (pss_one (ps_raise rfl (takes_of rfl rfl rfl rfl) (pmk_oex N.T N.iC N.tI N.fn hr N.b .nil pass0 (by rfl) N.g (pa_cons pe_str pa_nil)))) pss_nil)
      (pss_one (ps_ret (pe_join pe_str (pe_lc (own := [("piece", 3)]) (g := gName 3) (tt := tYes) rfl scExp.nd (pi_list (pv 2)) (blkOk_by (N := nExp) (sc := defScope sExp) (by decide +kernel))
          (fun _ _ _ _ _ => pg_name (i := 3) scExp.nd rfl (Or.inl rfl)) (fun _ _ _ _ _ => pts_nil) (fun _ _ _ _ _ => pe_ifExp (pt_cmpR op_gt (pe_callB call_len_str (by rfl) T.len PySem.boot_len (pa_cons (pv 3) pa_nil)) pe_int (nomark _))
            (pe_joined (.cons pe_str (.cons (pe_fmt (pe_dget hu1 (pv 0) (pv 3) (fun _ _ => rfl))) (.cons pe_str .nil)))) (pv 3))))))), ?_⟩
    refine ⟨_, rfl, l, rfl, hl, fun H1 D1 s1 hD1 => ?_⟩
    have hd1 := s1 _ _ hd
    have I := pci l
    have np : (pieces l).length ≤ 5000 := Nat.le_trans I.m hl
    have lp : ∀ p ∈ pieces l, p.length ≤ 5000 := fun p hp => Nat.le_trans (I.z p hp) hl
    have sp5 : ∀ {p : List Nat}, p ∈ pieces l → (S p).length ≤ sizeLine := fun {p} hp => by
      rw [S_len]
      exact Nat.le_trans (lp p hp) (by decide)
    have item : ∀ {i : Nat} {x : V}, ((pieces l).map vS)[i]? = some x → ∃ p, (pieces l)[i]? = some p ∧ x = vS p := fun {i x} h => by
      rw [List.getElem?_map] at h
      cases e : (pieces l)[i]? with
      | none => rw [e] at h; cases h
      | some p => rw [e] at h; exact ⟨p, rfl, (Option.some.inj h).symm⟩
    -- any
    refine ⟨_, rfl, D1, rfl, ⟨_, SqL.of hD1⟩, fun D hD => lc_list (K := K) (a := D1) (xs := (pieces l).map vS) (fun i H2 => ColV D H1 H2 (((pieces l).take i).map fun p => V.bl (badP nm p))) (ColV.start hD) (fun i H2 _ z => SqL.of (z.s _ _ hD1)) ?_ ?_⟩
    · intro i x H2 hx z
      obtain ⟨p, hp, rfl⟩ := item hx
      have hpm := List.mem_of_getElem? hp
      have hi := (List.getElem?_eq_some_iff.mp hp).1
      have fin : ∃ acc, H2 D = some (.lst acc) ∧ acc.length < sizeLine ∧ ColV D H1 (upd H2 D (.lst (acc ++ [V.bl (badP nm p)]))) (((pieces l).take (i + 1)).map fun p => V.bl (badP nm p)) := by
        rw [List.take_add_one, hp, List.map_append]
        refine z.push hD same_rfl ?_
        rw [List.length_map, List.length_take]
        omega
      refine ⟨rfl, _, rfl, S p, rfl, sp5 hpm, _, _, rfl, rfl, _, rfl, ?_⟩
      rw [S_len]
      unfold badP at fin
      by_cases h : 1 < p.length
      · rw [show decide ((1 : Int) < ((p.length : Nat) : Int)) = true from decide_eq_true (by omega)]
        rw [decide_eq_true h, Bool.true_and] at fin
        refine iteT ⟨_, rfl, _, rfl, d, _, rfl, DGet.k (k := Sum.inr (S p)) (z.s _ _ hd1), ?_⟩
        rw [val_nm, Option.isSome_map]
        rw [← Option.not_isSome] at fin
        exact fin
      · rw [show decide ((1 : Int) < ((p.length : Nat) : Int)) = false from decide_eq_false (by omega)]
        rw [decide_eq_false h, Bool.false_and] at fin
        exact iteF fin
    rintro H2 z
    rw [List.length_map, List.take_length] at z
    have e : (pieces l).map (fun p => V.bl (badP nm p)) = ((pieces l).map (badP nm)).map V.bl := by
      rw [List.map_map]
      rfl
    rw [e] at z
    refine ⟨D, _, rfl, SqL.of z.at_, _, rfl, ?_⟩
    have eb : ((pieces l).map (badP nm)).any id = bad nm l := by
      unfold bad
      rw [List.any_map]
      rfl
    rw [eb]
    by_cases hb : bad nm l = true
    · rw [hb]
      exact iteT ⟨by show 1 ≤ 1000; decide, rf_raise (E := E) (r := lit "name") (by decide +kernel) (s1.trans z.s) (kE hb)⟩
    have hb : bad nm l = false := by simpa using hb
    rw [hb]
    refine iteF ?_
    have hD12 := z.s _ _ hD1
    have hd2 := z.s _ _ hd1
    have s2 := s1.trans z.s
    have good : ∀ p ∈ pieces l, 1 < p.length → (lookN nm p).isSome = true := fun p hp h1 => by
      have := List.any_eq_false.mp hb p hp
      unfold badP at this
      rw [decide_eq_true h1, Bool.true_and] at this
      cases e : lookN nm p with
      | none => rw [e] at this; exact absurd rfl this
      | some v => rfl
    have le : ∀ p ∈ pieces l, (expP nm p).length ≤ 102 := fun p hp => by
      unfold expP
      have := look_len hv p
      split
      · rw [List.length_cons, List.length_append]
        show _ + 1 + 1 ≤ 102
        omega
      · omega
    -- join
    refine ⟨⟨_, rfl⟩, _, rfl, D1, rfl, ⟨_, SqL.of hD12⟩, fun D' hD' => lc_list (K := K) (a := D1) (xs := (pieces l).map vS) (fun i H3 => ColV D' H2 H3 (((pieces l).take i).map fun p => V.str (S (expP nm p)))) (ColV.start hD') (fun i H3 _ z => SqL.of (z.s _ _ hD12)) ?_ ?_⟩
    · intro i x H3 hx z3
      obtain ⟨p, hp, rfl⟩ := item hx
      have hpm := List.mem_of_getElem? hp
      have hi := (List.getElem?_eq_some_iff.mp hp).1
      have fin : ∃ acc, H3 D' = some (.lst acc) ∧ acc.length < sizeLine ∧ ColV D' H2 (upd H3 D' (.lst (acc ++ [V.str (S (expP nm p))]))) (((pieces l).take (i + 1)).map fun p => V.str (S (expP nm p))) := by
        rw [List.take_add_one, hp, List.map_append]
        refine z3.push hD' same_rfl ?_
        rw [List.length_map, List.length_take]
        omega
      refine ⟨rfl, _, rfl, S p, rfl, sp5 hpm, _, _, rfl, rfl, _, rfl, ?_⟩
      rw [S_len]
      unfold expP at fin
      by_cases h : 1 < p.length
      · rw [show decide ((1 : Int) < ((p.length : Nat) : Int)) = true from decide_eq_true (by omega)]
        rw [if_pos h] at fin
        have g := good p hpm h
        obtain ⟨v, ev⟩ := Option.isSome_iff_exists.mp g
        have lv := look_len hv p
        rw [ev] at fin lv
        have lv : v.length ≤ 100 := lv
        refine iteT ⟨_, rfl, (by decide +kernel), _, rfl, _, rfl, d, vS v, rfl, ?_, .inl ⟨S v, rfl, (by rw [S_len]; exact Nat.le_trans lv (by decide)), _, rfl, ?_, _, rfl, ?_, ?_⟩⟩
        · have := DGet.k (k := Sum.inr (S p)) (z3.s _ _ hd2)
          rw [val_nm, ev] at this
          exact this
        · rw [show Str.empty ++ Str.ofString "(" = S [40] by decide +kernel, S_cat, S_len]
          exact Nat.le_trans (show v.length + 1 ≤ 101 by omega) (by decide)
        · rw [show Str.empty ++ Str.ofString "(" = S [40] by decide +kernel, show Str.ofString ")" = S [41] by decide +kernel, S_cat, S_cat, S_len]
          exact Nat.le_trans (show (40 :: v ++ [41]).length ≤ 102 by rw [List.length_append]; show v.length + 1 + 1 ≤ 102; omega) (by decide)
        · rw [show Str.empty ++ Str.ofString "(" = S [40] by decide +kernel, show Str.ofString ")" = S [41] by decide +kernel, S_cat, S_cat]
          exact fin
      · rw [show decide ((1 : Int) < ((p.length : Nat) : Int)) = false from decide_eq_false (by omega)]
        rw [if_neg h] at fin
        exact iteF ⟨_, rfl, fin⟩
    rintro H3 z3
    rw [List.length_map, List.take_length] at z3
    have e3 : (pieces l).map (fun p => V.str (S (expP nm p))) = (((pieces l).map (expP nm)).map S).map V.str := by
      rw [List.map_map, List.map_map]
      rfl
    rw [e3] at z3
    refine ⟨_, D', _, rfl, rfl, .inl (SqL.of z3.at_), ?_, ?_⟩
    · have h1 := sum_len (ps := (pieces l).map (expP nm)) (n := 102) fun p hp => by
        obtain ⟨q, hq, rfl⟩ := List.mem_map.mp hp
        exact le q hq
      rw [List.length_map] at h1
      have h2 := Nat.mul_le_mul_right 102 np
      rw [show (Str.ofString "").length = 0 by decide +kernel, Nat.mul_zero]
      omega
    · rw [join_S]
      exact kQ hb H3 (s2.trans z3.s)
end
end Ind

set_option Elab.async false
set_option linter.all false
set_option maxRecDepth 100000
set_option maxHeartbeats 4000000
namespace Ind
open PySem PySem.Spec PyProof.Rows L2 SX
abbrev sIsN : Stmt := top 10
theorem flat_len {ps : List (List Nat)} {n : Nat} (h : ∀ p ∈ ps, p.length ≤ n) : ps.flatten.length ≤ ps.length * n := by
  induction ps with
  | nil => exact Nat.zero_le _
  | cons p ps ih =>
    rw [List.flatten_cons, List.length_append, List.length_cons, Nat.add_mul, Nat.one_mul]
    have := ih fun q hq => h q (List.mem_cons_of_mem _ hq)
    have := h p (List.mem_cons_self ..)
    omega
theorem expd_len {nm : Nm} (hv : ∀ p ∈ nm, p.2.length ≤ 100) {l : List Nat} (hl : l.length ≤ 5000) : (expd nm l).length ≤ 1000000 := by
  have h1 := flat_len (ps := (pieces l).map (expP nm)) (n := 102) fun p hp => by
    obtain ⟨q, hq, rfl⟩ := List.mem_map.mp hp
    unfold expP
    have := look_len hv q
    split
    · rw [List.length_cons, List.length_append]
      show _ + 1 + 1 ≤ 102
      omega
    · omega
  rw [List.length_map] at h1
  have h2 := Nat.mul_le_mul_right 102 (Nat.le_trans (pci l).m hl)
  have h3 : (pieces l).length * 102 = (pcs l).1.length * 102 := rfl
  unfold expd
  omega
theorem RfE.same {Rf : Addr} {r : List Nat} {H H1 : Hp} {E : XK} (s : Same H H1) (h : RfE Rf r H E) : RfE Rf r H1 E := fun H' d s' e => h H' d (s.trans s') e
def spFull (Rf : Addr) : Sp := fun vs H Q E => ∃ (d : Addr) (nm : Nm) (l : List Nat), vs = [.ref d, .str (S l)] ∧ l.length ≤ 5000 ∧ H d = some (.dK (kvN nm)) ∧ (∀ p ∈ nm, p.2.length ≤ 100) ∧ (bad nm l = true → RfE Rf (lit "name") H E) ∧ (bad nm l = false → 2000 < (expd nm l).length → RfE Rf (lit "long") H E) ∧
  (bad nm l = false → (expd nm l).length ≤ 2000 → ∀ H' : Hp, Same H H' → Q (.str (S (expd nm l))) H')
def cnts : List (List Nat) := ["let", "apply", "multiply", "divide", "common", "multiple", "equal", "solve", "products"].map lit
def isNm (l : List Nat) : Bool := isW l && (decide (1 < l.length) && !decide (l ∈ cnts))
def spIsN (K : PySem.W.Frag) : Sp := fun vs H Q _ => (∃ l : List Nat, vs = [.str (S l)] ∧ l.length ≤ 100000 ∧ ∀ H' : Hp, Same H H' → Q (.bl (isNm l)) H') ∨
  ∃ (x : V) (ty : Value), vs = [x] ∧ TyX K H x ty ∧ PySem.W.kitOne K ty (.type "str") = some false ∧ Q (.bl false) H
section
variable {P : Program} {w : World} {K : PySem.W.Frag} {mg : Str → Option Value} {base : Heap} {D cc cda Rf : Addr}
theorem scFull : FnScope ["names", "text", "found"] ["names", "text"] (defScope sFull) := ⟨rfl, rfl, rfl, by decide +kernel, rfl, by decide +kernel, by decide +kernel⟩
theorem ok_full {f fE fR : Addr} {fd fdE fdR : FuncData} (F : Fun K "full_text" "full_text" sFull f fd)
    (GE : FnOk P w K mg base (L2.CX P w) 3 fE fdE ["names", "text"] (spExp Rf)) (kE : PySem.W.keepIn K (.ref fE) = true) (bE : Binds K fdE ["names", "text"] []) (gE : mg "expanded" = some (.ref fE))
    (GR : FnOk P w K mg base (L2.CX P w) 3 fR fdR ["full"] (spRl Rf)) (kR : PySem.W.keepIn K (.ref fR) = true) (bR : Binds K fdR ["full"] []) (gR : mg "refuse_long" = some (.ref fR)) : FnOk P w K mg base (L2.CX P w) 4 f fd ["names", "text"] (spFull Rf) := by
  refine F.okX scFull (fun vs H Q E h => ?_) (fun cdv A outer s H vs Q E hr h => ?_)
  · obtain ⟨d, nm, l, rfl, _⟩ := h
    rfl
  · obtain ⟨d, nm, l, rfl, hl, hd, hv, k1, k2, k3⟩ := h
    refine ⟨_, pss_cons (ps_set (i := 2) scFull.nd rfl (Or.inl rfl) (pe_call (E := E) GE hr (by rfl) gE kE bE .nil (passes_call (takes_of rfl rfl rfl rfl) fun _ _ _ _ h => h) (pa_cons (pv 0) (pa_cons (pv 1) pa_nil))))
      (pss_cons (ps_expr (pe_call (E := E) GR hr (by rfl) gR kR bR .nil (passes_call (takes_of rfl rfl rfl rfl) fun _ _ _ _ h => h) (pa_cons (pv 2) pa_nil)))
      (pss_one (ps_ret (pv 2)))), ?_⟩
    refine ⟨_, rfl, _, rfl, d, nm, l, rfl, hl, hd, hv, k1, fun hb H1 s1 => ?_⟩
    refine ⟨_, rfl, expd nm l, rfl, expd_len hv hl, fun h => (k2 hb h).same s1, fun h => ?_⟩
    exact ⟨_, rfl, k3 hb h H1 s1⟩
theorem scIsN : FnScope ["value"] ["value"] (defScope sIsN) := ⟨rfl, rfl, rfl, by decide +kernel, rfl, by decide +kernel, by decide +kernel⟩
theorem ok_isn {f fW fC : Addr} {fd fdW : FuncData} {es : Array DictEntry} {n : Nat} (F : Fun K "is_name" "is_name" sIsN f fd) (T : TxL K mg) (DC : KDict K w fC es n) (gC : mg "COUNTS" = some (.ref fC)) (hC : ∀ l : List Nat, ∃ r, PySem.W.nsIn K fC (S l) = some r ∧ r.isSome = decide (l ∈ cnts))
    (GW : FnOk P w K mg base CX0 2 fW fdW ["value"] (spIsW K)) (kW : PySem.W.keepIn K (.ref fW) = true) (bW : Binds K fdW ["value"] []) (gW : mg "is_word" = some (.ref fW)) : FnOk P w K mg base CX0 3 f fd ["value"] (spIsN K) := by
  refine F.ok scIsN (fun vs H Q E h => ?_) (fun cdv A outer s H vs Q E hr h => ?_)
  · rcases h with ⟨l, rfl, _⟩ | ⟨x, ty, rfl, _⟩ <;> rfl
  · refine ⟨_, pss_one (ps_ret (pe_and (pe_call GW hr (by rfl) gW kW bW .nil pass0 (pa_cons (pv 0) pa_nil)) (pe_and (pe_cmpR op_gt (pe_callB call_len_str (by rfl) T.len PySem.boot_len (pa_cons (pv 0) pa_nil)) pe_int (nomark _)) (pe_one (pe_cmpR (op_notIn_kd DC) (pv 0) (pe_glob (v := .ref fC) rfl gC rfl) rfl))))), ?_⟩
    rcases h with ⟨l, rfl, hl, k⟩ | ⟨x, ty, rfl, hty, hk, q⟩
    · refine ⟨_, rfl, .inl ⟨l, rfl, hl, fun H' s => ⟨_, rfl, ?_⟩⟩⟩
      have k := k H' s
      unfold isNm at k
      cases hw : isW l with
      | false =>
        rw [hw] at k
        exact iteF k
      | true =>
        rw [hw, Bool.true_and] at k
        refine iteT ⟨_, rfl, S l, rfl, (by rw [S_len]; exact Nat.le_trans hl (by decide)), _, _, rfl, rfl, _, rfl, ?_⟩
        rw [S_len]
        by_cases h1 : 1 < l.length
        · rw [show decide ((1 : Int) < ((l.length : Nat) : Int)) = true from decide_eq_true (by omega)]
          rw [decide_eq_true h1, Bool.true_and] at k
          obtain ⟨r, e1, e2⟩ := hC l
          refine iteT ⟨_, rfl, S l, r, rfl, rfl, e1, ?_⟩
          rw [e2]
          exact k
        · rw [show decide ((1 : Int) < ((l.length : Nat) : Int)) = false from decide_eq_false (by omega)]
          rw [decide_eq_false h1, Bool.false_and] at k
          exact iteF k
    · exact ⟨_, rfl, .inr ⟨x, ty, rfl, hty, hk, _, rfl, iteF q⟩⟩
end
end Ind

set_option Elab.async false
set_option linter.all false
set_option maxRecDepth 100000
set_option maxHeartbeats 4000000
namespace Ind
open PySem PySem.Spec PyProof.Rows L2 SX
open Builtin.Int (intBits)
abbrev sWd : Stmt := top 18
abbrev sNms : Stmt := top 19
abbrev sRsn : Stmt := top 20
/-- a word: two to twelve small letters -/
structure Wd (l : List Nat) : Prop where
  a : 2 ≤ l.length
  b : l.length ≤ 12
  s : smB l = true
def spWd : Sp := fun vs H Q _ => ∃ (r : Addr) (ds : List Int) (k : Nat), vs = [.ref r, .int k] ∧ H r = some (.lst (ds.map V.int)) ∧ k + 6 ≤ ds.length ∧ k ≤ 100 ∧ ∀ (H' : Hp) (l : List Nat), Same H H' → Wd l → Q (.str (S l)) H'
def alph : List Nat := (List.range 26).map fun i => 97 + i
theorem alph_at {i : Nat} (h : i < 26) : atI alph (i : Int) = some (97 + i) := atI_of (by
  unfold alph
  rw [List.getElem?_map, List.getElem?_range h]
  rfl)
theorem smB_app (a b : List Nat) : smB (a ++ b) = (smB a && smB b) := by
  unfold smB
  rw [List.all_append]
section
variable {P : Program} {w : World} {K : PySem.W.Frag} {mg : Str → Option Value} {base : Heap} {D cc cda Rf : Addr}
abbrev nWd : List Str := ["row", "at", "marks", "size", "k"]
theorem scWd : FnScope nWd ["row", "at"] (defScope sWd) := ⟨rfl, rfl, rfl, by decide +kernel, rfl, by decide +kernel, by decide +kernel⟩
theorem ok_wd {f : Addr} {fd : FuncData} (F : Fun K "_law_word" "_law_word" sWd f fd) (T : TxL K mg) : FnOk P w K mg base CX0 1 f fd ["row", "at"] spWd := by
  refine F.ok scWd (fun vs H Q E h => ?_) (fun cdv A outer s H vs Q E hr h => ?_)
  · obtain ⟨r, ds, k, rfl, _⟩ := h
    rfl
  · obtain ⟨r, ds, k, rfl, hR, hk, hk1, res⟩ := h
    refine ⟨_, pss_cons (ps_set (i := 2) scWd.nd rfl (Or.inr rfl) pe_str)
      (pss_cons (ps_set (i := 3) scWd.nd rfl (Or.inl rfl) (pe_op op_add (pe_op op_modN (pe_ix ix_list (pv 0) (pv 1) fun _ _ => rfl) pe_int) pe_int))
      (C8.pss_cut (ps_if (pt_cmpR op_eq (pe_op op_modN (pe_ix ix_list (pv 0) (pv 1) fun _ _ => rfl) pe_int) pe_int (nomark _)) (pss_one (ps_set (i := 3) scWd.nd rfl (Or.inl rfl) pe_int)) pss_nil)
      (pss_one (ps_ret (pe_join pe_str (pe_lc (own := [("k", 4)]) (g := gName 4) (tt := tYes) (te := tOp rIxS (tVar 2) (tOp (rI (fun _ j => j ≠ 0) fun i j => .int (i.fmod j)) (tOp (rIxL K) (tVar 0) (tOp (rI0 fun i j => .int (i + j)) (tOp (rI0 fun i j => .int (i + j)) (tVar 1) (tC (.int 1))) (tOp (rI (fun _ j => j ≠ 0) fun i j => .int (i.fmod j)) (tVar 4) (tC (.int 5))))) (tC (.int 26)))) rfl scWd.nd (pi_range1 (by rfl) T.range (pa_cons (pv 3) pa_nil)) (blkOk_by (N := nWd) (sc := defScope sWd) (by decide +kernel))
          (fun _ _ _ _ _ => pg_name (i := 4) scWd.nd rfl (Or.inl rfl)) (fun _ _ _ _ _ => pts_nil) (fun _ _ _ _ _ => pe_ix ix_str (pv 2) (pe_op op_modN (pe_ix ix_list (pv 0) (pe_op op_add (pe_op op_add (pv 1) pe_int) (pe_op op_modN (pv 4) pe_int)) fun _ _ => rfl) pe_int) fun _ _ => rfl))))))), ?_⟩
    have at_r : ∀ {j : Nat}, j < ds.length → ∃ x, atI (ds.map V.int) ((j : Nat) : Int) = some (.int x) := fun {j} hj =>
      ⟨_, atI_of (k := j) (by rw [List.getElem?_map, List.getElem?_eq_getElem hj]; rfl)⟩
    obtain ⟨x, hx⟩ := at_r (j := k) (by omega)
    have f4 := fmod_in (x := x) (b := 4) (by decide)
    refine ⟨_, rfl, _, rfl, r, _, _, _, rfl, rfl, SqL.of hR, hx, _, _, rfl, rfl, (by show (4 : Int) ≠ 0; decide), _, _, rfl, rfl, ?_⟩
    refine ⟨fun σ' H' => H' = H ∧ ∃ n : Nat, σ' = [some (.ref r), some (.int k), some (.str (Str.ofString "abcdefghijklmnopqrstuvwxyz")), some (.int n), none] ∧ 2 ≤ n ∧ n ≤ 12, ?_, ?_⟩
    · refine ⟨_, rfl, _, rfl, r, _, _, _, rfl, rfl, SqL.of hR, hx, _, _, rfl, rfl, (by show (31 : Int) ≠ 0; decide), rfl, _, rfl, ite2 (fun c => ?_) (fun c => ?_)⟩
      · exact ⟨rfl, 12, rfl, by decide, by decide⟩
      · refine ⟨rfl, (x.fmod 4).toNat + 2, ?_, by omega, by omega⟩
        have e : x.fmod 4 + 2 = (((x.fmod 4).toNat + 2 : Nat) : Int) := by omega
        rw [← e]
        rfl
    rintro σ' H' ⟨rfl, n, rfl, n2, n12⟩
    refine ⟨⟨_, rfl⟩, _, rfl, _, rfl, by omega, by omega, fun D hD => ?_⟩
    rw [Int.toNat_natCast]
    refine lc_range (lo := 0) (n := n) (fun i H2 => ∃ l : List Nat, ColV D H' H2 (l.map fun c => V.str (S [c])) ∧ l.length = i ∧ smB l = true) ⟨[], ColV.start hD, rfl, rfl⟩ ?_ ?_
    · rintro i H2 hi ⟨l, z, hl, hs⟩
      obtain ⟨j, hj⟩ : ∃ j : Nat, (0 + (i : Int)).fmod 5 = (j : Int) := ⟨((0 + (i : Int)).fmod 5).toNat, by have := fmod_in (x := 0 + (i : Int)) (b := 5) (by decide); omega⟩
      have j5 := fmod_in (x := 0 + (i : Int)) (b := 5) (by decide)
      rw [hj] at j5
      obtain ⟨y, hy⟩ := at_r (j := k + 1 + j) (by omega)
      have ey : ((k : Nat) : Int) + 1 + (j : Int) = ((k + 1 + j : Nat) : Int) := by omega
      obtain ⟨c, hc⟩ : ∃ c : Nat, y.fmod 26 = (c : Int) := ⟨(y.fmod 26).toNat, by have := fmod_in (x := y) (b := 26) (by decide); omega⟩
      have c26 := fmod_in (x := y) (b := 26) (by decide)
      rw [hc] at c26
      refine ⟨rfl, _, rfl, _, rfl, _, rfl, _, _, rfl, rfl, _, rfl, _, _, rfl, rfl, (by show (5 : Int) ≠ 0; decide), _, _, rfl, rfl, r, _, _, V.int y, rfl, rfl, SqL.of (z.s _ _ hR), (by rw [hj, ey]; exact hy), _, _, rfl, rfl, (by show (26 : Int) ≠ 0; decide), Str.ofString "abcdefghijklmnopqrstuvwxyz", _, 97 + c, rfl, rfl, (by decide +kernel), (by rw [hc]; rw [show (Str.ofString "abcdefghijklmnopqrstuvwxyz").cps.toList = alph by decide +kernel]; exact alph_at (by omega)), ?_⟩
      obtain ⟨acc, g1, g2, g3⟩ := z.push (v := V.str (S [97 + c])) hD same_rfl (by rw [List.length_map]; omega)
      refine ⟨acc, g1, g2, l ++ [97 + c], by rw [List.map_append]; exact g3, by rw [List.length_append, hl]; rfl, ?_⟩
      rw [smB_app, hs, Bool.true_and]
      unfold smB sm1
      simp
      omega
    · rintro H2 ⟨l, z, hl, hs⟩
      have e3 : (l.map fun c => V.str (S [c])) = ((l.map fun c => [c]).map S).map V.str := by
        rw [List.map_map, List.map_map]
        rfl
      rw [e3] at z
      refine ⟨_, D, _, rfl, rfl, .inl (SqL.of z.at_), ?_, ?_⟩
      · have h1 := sum_len (ps := l.map fun c => [c]) (n := 1) fun p hp => by
          obtain ⟨q, hq, rfl⟩ := List.mem_map.mp hp
          exact Nat.le_refl _
        rw [List.length_map] at h1
        rw [show (Str.ofString "").length = 0 by decide +kernel, Nat.mul_zero]
        omega
      · rw [join_S, show (l.map fun c => [c]).flatten = l by
          clear z e3 hl hs
          induction l with
          | nil => rfl
          | cons a t ih => rw [List.map_cons, List.flatten_cons, ih]; rfl]
        exact res H2 l z.s ⟨by omega, by omega, hs⟩
end
end Ind

set_option Elab.async false
set_option linter.all false
set_option maxRecDepth 100000
set_option maxHeartbeats 4000000
namespace Ind
open PySem PySem.Spec PyProof.Rows L2 SX
open Builtin.Int (intBits)
def putN (nm : Nm) (w v : List Nat) : Nm := if (nm.any fun q => decide (q.1 = w)) = true then nm.map (fun q => if q.1 = w then (q.1, v) else q) else nm ++ [(w, v)]
theorem put_nm (nm : Nm) (w v : List Nat) : putK (kvN nm) (Sum.inr (S w)) (vS v) = kvN (putN nm w v) := by
  unfold putK putN kvN
  have e : ((nm.map fun p => ((Sum.inr (S p.1) : Key), vS p.2)).any fun kv => decide (kv.1 = Sum.inr (S w))) = nm.any fun q => decide (q.1 = w) := by
    rw [List.any_map]
    congr 1
    funext q
    show decide ((Sum.inr (S q.1) : Key) = Sum.inr (S w)) = decide (q.1 = w)
    by_cases h : q.1 = w
    · rw [decide_eq_true h, decide_eq_true (by rw [h])]
    · rw [decide_eq_false h, decide_eq_false fun z => h (S_inj (Sum.inr.inj z))]
  rw [e]
  split
  · rw [List.map_map, List.map_map]
    congr 1
    funext q
    show (if (Sum.inr (S q.1) : Key) = Sum.inr (S w) then ((Sum.inr (S q.1) : Key), vS v) else _) = _
    by_cases h : q.1 = w
    · subst h
      rw [if_pos rfl]
      show _ = ((Sum.inr (S (if q.1 = q.1 then (q.1, v) else q).1) : Key), vS (if q.1 = q.1 then (q.1, v) else q).2)
      rw [if_pos rfl]
    · rw [if_neg fun z => h (S_inj (Sum.inr.inj z))]
      show _ = ((Sum.inr (S (if q.1 = w then (q.1, v) else q).1) : Key), vS (if q.1 = w then (q.1, v) else q).2)
      rw [if_neg h]
  · rw [List.map_append]
    rfl
def valsL : List (List Nat) := ["x + 1", "D - x", "2*x^2*D", "1"].map lit
structure NmOk (nm : Nm) : Prop where
  w : ∀ p ∈ nm, Wd p.1 ∧ p.1 ∉ cnts
  v : ∀ p ∈ nm, p.2 ∈ valsL
theorem vals_len : ∀ v ∈ valsL, v.length ≤ 7 := by decide +kernel
theorem NmOk.v100 {nm : Nm} (h : NmOk nm) : ∀ p ∈ nm, p.2.length ≤ 100 := fun p hp => Nat.le_trans (vals_len _ (h.v p hp)) (by decide)
theorem put_mem {nm : Nm} {w v : List Nat} {p : List Nat × List Nat} (h : p ∈ putN nm w v) : p = (w, v) ∨ p ∈ nm := by
  unfold putN at h
  split at h
  · obtain ⟨q, hq, e⟩ := List.mem_map.mp h
    by_cases c : q.1 = w
    · rw [if_pos c, c] at e
      exact .inl e.symm
    · rw [if_neg c] at e
      rw [← e]
      exact .inr hq
  · rcases List.mem_append.mp h with h | h
    · exact .inr h
    · exact .inl (List.mem_singleton.mp h)
theorem put_len (nm : Nm) (w v : List Nat) : (putN nm w v).length ≤ nm.length + 1 := by
  unfold putN
  split
  · rw [List.length_map]
    omega
  · rw [List.length_append]
    exact Nat.le_refl _
theorem inV_S (l : List Nat) : ∀ ps : List (List Nat), inV (V.str (S l)) (ps.map vS) = decide (l ∈ ps)
  | [] => rfl
  | p :: ps => by
    have ih := inV_S l ps
    unfold inV at ih ⊢
    rw [List.map_cons, List.any_cons, ih]
    show ((S p == S l) || decide (l ∈ ps)) = _
    rw [S_beq_eq]
    by_cases h : p = l
    · subst h
      simp
    · rw [decide_eq_false h, Bool.false_or]
      by_cases h2 : l ∈ ps
      · rw [decide_eq_true h2, decide_eq_true (List.mem_cons_of_mem _ h2)]
      · rw [decide_eq_false h2, decide_eq_false fun z => by
          rcases List.mem_cons.mp z with z | z
          · exact h z.symm
          · exact h2 z]
theorem cut12 (l : List Nat) : cutS (S l) none (some 12) = S (l.take 12) := by
  unfold cutS
  rw [show (12 : Int) = ((12 : Nat) : Int) from rfl, HT.sIx_nat, HT.sIx_none, S_len, Nat.sub_zero, List.drop_zero]
  show (⟨((l.toArray.toList).take (min 12 l.length)).toArray⟩ : Str) = _
  congr 2
  rcases Nat.le_total 12 l.length with h | h
  · rw [Nat.min_eq_left h]
  · rw [Nat.min_eq_right h, List.take_of_length_le (Nat.le_refl _), List.take_of_length_le h]
theorem smB_take {l : List Nat} (h : smB l = true) (n : Nat) : smB (l.take n) = true := by
  unfold smB at h ⊢
  exact List.all_eq_true.mpr fun c hc => List.all_eq_true.mp h c (List.mem_of_mem_take hc)
theorem wd_cat {a b : List Nat} (ha : Wd a) (hb : Wd b) : Wd ((a ++ b).take 12) := by
  have h1 := ha.a
  refine ⟨?_, by rw [List.length_take]; omega, smB_take (by rw [smB_app, ha.s, hb.s]; rfl) 12⟩
  rw [List.length_take, List.length_append]
  omega
def spNms (K : PySem.W.Frag) : Sp := fun vs H Q _ => ∃ (a : Addr) (ns : List Int), vs = [.ref a] ∧ SqL K H a (ns.map V.int) ∧ ∀ (H' : Hp) (d : Addr) (nm : Nm), Same H H' → H' d = some (.dK (kvN nm)) → NmOk nm → nm.length ≤ 3 → Q (.ref d) H'
def reason (nm : Nm) (l : List Nat) : List Nat := if bad nm l = true then lit "name" else if 2000 < (expd nm l).length then lit "long" else lit "none"
def spRsn : Sp := fun vs H Q _ => ∃ (d : Addr) (nm : Nm) (l : List Nat), vs = [.ref d, .str (S l)] ∧ l.length ≤ 5000 ∧ H d = some (.dK (kvN nm)) ∧ (∀ p ∈ nm, p.2.length ≤ 100) ∧ ∀ H' : Hp, Same H H' → Q (.str (S (reason nm l))) H'
def EW (W : WX) (n : Nat) : XK := fun cls d H => ∀ σ : L2.St, σ.length = n → W cls d σ H
theorem passW {X : Cx} {W : WX} {n : Nat} (tk : Takes X W) (hn : X.N.length = n) : Passes (L2.CX X.prog X.w) X (EW W n) :=
  fun _ σ _ _ e s' I c => tk e s' (XE.of_call I (fun _ _ _ h => h σ (I.len.trans hn)) c)
theorem three {σ : L2.St} (h : σ.length = 3) : ∃ a b c, σ = [a, b, c] := by
  match σ, h with
  | [a, b, c], _ => exact ⟨a, b, c, rfl⟩
/-- Refused at the clause -/
structure TxRf (K : PySem.W.Frag) (mg : Str → Option Value) (Rf : Addr) : Prop where
  g : mg "Refused" = some (.ref Rf)
  ex : PySem.W.exmOne K (.ref Rf) (.ref Rf) = some true
  xf : XfC K Rf
  no : PySem.W.findIn K (.ref Rf) "reason" = some none
section
variable {P : Program} {w : World} {K : PySem.W.Frag} {mg : Str → Option Value} {base : Heap} {D cc cda Rf : Addr}
theorem scRsn : FnScope ["names", "text", "e"] ["names", "text"] (defScope sRsn) := ⟨rfl, rfl, rfl, by decide +kernel, rfl, by decide +kernel, by decide +kernel⟩
theorem ok_rsn {f fF : Addr} {fd fdF : FuncData} (F : Fun K "_law_reason" "_law_reason" sRsn f fd) (N : TxRf K mg Rf)
    (GF : FnOk P w K mg base (L2.CX P w) 4 fF fdF ["names", "text"] (spFull Rf)) (kF : PySem.W.keepIn K (.ref fF) = true) (bF : Binds K fdF ["names", "text"] []) (gF : mg "full_text" = some (.ref fF)) : FnOk P w K mg base CX0 5 f fd ["names", "text"] spRsn := by
  refine F.ok scRsn (fun vs H Q E h => ?_) (fun cdv A outer s H vs Q E hr h => ?_)
  · obtain ⟨d, nm, l, rfl, _⟩ := h
    rfl
  · obtain ⟨d, nm, l, rfl, hl, hd, hv, k⟩ := h
    refine ⟨_, pss_cons (ps_try_as (i := 2) (c := .ref Rf) (Wout := fun _ _ _ _ => False) rfl rfl scRsn.nd rfl rfl ⟨rfl, by decide, .inl N.g⟩ takes0
        (fun W pn xe tk _ => pss_one (ps_expr (pe_call (E := EW W 3) GF hr (by rfl) gF kF bF .nil (passW tk rfl) (pa_cons (pv 0) (pa_cons (pv 1) pa_nil)))))
        (fun a oe cls d pn hz hf => pss_one (ps_ret (pe_xf N.xf N.no hz hf (pv 2)))))
      (pss_one (ps_ret pe_str)), ?_⟩
    refine ⟨_, rfl, _, rfl, d, nm, l, rfl, hl, hd, hv, fun hb => ?_, fun hb h2 => ?_, fun hb h2 H1 s1 => ?_⟩
    · intro H15 dd s15 hdd σ hσ
      obtain ⟨v0, v1, v2, rfl⟩ := three hσ
      refine ⟨true, N.ex, fun _ ea hea => ?_, fun z => Bool.noConfusion z⟩
      refine ⟨_, rfl, rfl, rfl, dd, _, _, rfl, hdd, rfl, ?_⟩
      have := k H15 s15
      unfold reason at this
      rw [if_pos hb] at this
      exact this
    · intro H15 dd s15 hdd σ hσ
      obtain ⟨v0, v1, v2, rfl⟩ := three hσ
      refine ⟨true, N.ex, fun _ ea hea => ?_, fun z => Bool.noConfusion z⟩
      refine ⟨_, rfl, rfl, rfl, dd, _, _, rfl, hdd, rfl, ?_⟩
      have := k H15 s15
      unfold reason at this
      rw [if_neg (by rw [hb]; decide), if_pos h2] at this
      exact this
    · have := k H1 s1
      unfold reason at this
      rw [if_neg (by rw [hb]; decide), if_neg (by omega)] at this
      exact this
abbrev nNms : List Str := ["script", "names", "k", "row", "word"]
theorem scNms : FnScope nNms ["script"] (defScope sNms) := ⟨rfl, rfl, rfl, by decide +kernel, rfl, by decide +kernel, by decide +kernel⟩
theorem ok_nms {f fD fW : Addr} {fd fdD fdW : FuncData} (F : Fun K "_law_names" "_law_names" sNms f fd) (T : TxL K mg)
    (GD : FnOk P w K mg base CX0 2 fD fdD ["script", "at", "count", "bound"] (spDraws K)) (kD : PySem.W.keepIn K (.ref fD) = true) (bD : Binds K fdD ["script", "at", "count", "bound"] []) (gD : mg "_law_draws" = some (.ref fD))
    (GW : FnOk P w K mg base CX0 1 fW fdW ["row", "at"] spWd) (kW : PySem.W.keepIn K (.ref fW) = true) (bW : Binds K fdW ["row", "at"] []) (gW : mg "_law_word" = some (.ref fW)) : FnOk P w K mg base CX0 3 f fd ["script"] (spNms K) := by
  refine F.ok scNms (fun vs H Q E h => ?_) (fun cdv A outer s H vs Q E hr h => ?_)
  · obtain ⟨a, ns, rfl, _⟩ := h
    rfl
  · obtain ⟨a, ns, rfl, hS, res⟩ := h
    have h1 := hr.mono (show 1 ≤ 2 by decide)
    have hu1 : (A.deeper (envOfC "_law_names" (defScope sNms) s.heap.objs.size f cdv)).units + 1 < cLine := by
      have := hr.units
      omega
    refine ⟨_, pss_cons (ps_set (i := 1) scNms.nd rfl (Or.inl rfl) pe_dnewK)
      (pss_cons (ps_for PassesOwn.never rfl (pi_range1 (by rfl) T.range (pa_cons pe_int pa_nil)) (pg_name (i := 2) scNms.nd rfl (Or.inl rfl))
        (pss_cons (ps_set (i := 3) scNms.nd rfl (Or.inl rfl) (pe_call GD hr (by rfl) gD kD bD .nil pass0 (pa_cons (pv 0) (pa_cons (pe_op op_add pe_int (pv 2)) (pa_cons pe_int (pa_cons pe_int pa_nil))))))
        (pss_cons (ps_set (i := 4) scNms.nd rfl (Or.inl rfl) (pe_call GW h1 (by rfl) gW kW bW .nil pass0 (pa_cons (pv 3) (pa_cons pe_int pa_nil))))
        (C8.pss_cut (ps_if (PW.pt (pw_and (pt_cmpR op_eq (pv 2) pe_int (nomark _)) (pw_and1 (pt_cmpR op_eq (pe_op op_modN (pe_ix ix_list (pv 3) pe_int fun _ _ => rfl) pe_int) pe_int (nomark _)))))
            (pss_one (ps_set (i := 4) scNms.nd rfl (Or.inl rfl) (pe_slice sl_str (pe_op op_add_str (pv 4) (pe_call GW h1 (by rfl) gW kW bW .nil pass0 (pa_cons (pv 3) (pa_cons pe_int pa_nil)))) po_none (po_some pe_int)))) pss_nil)
        (pss_cons (ps_if (pt_cmpR op_in_seq (pv 4) (pe_lst (pa_cons pe_str (pa_cons pe_str (pa_cons pe_str (pa_cons pe_str (pa_cons pe_str (pa_cons pe_str (pa_cons pe_str (pa_cons pe_str (pa_cons pe_str pa_nil)))))))))) rfl) (pss_one ps_continue) pss_nil)
        (pss_one (ps_dput hu1 (pv 1) (pv 4) (pe_ix ix_list (pe_lst (pa_cons pe_str (pa_cons pe_str (pa_cons pe_str (pa_cons pe_str pa_nil))))) (pe_op op_modN (pe_ix ix_list (pv 3) pe_int fun _ _ => rfl) pe_int) fun _ _ => rfl) rfl)))))))
      (pss_one (ps_ret (pv 1)))), ?_⟩
    intro d hd
    refine ⟨3, rfl, by decide, by decide, ?_⟩
    refine for_it (walk_range (lo := 0) (n := 3)) (fun i σ H5 => ∃ (v2 v3 v4 : Option V) (nm : Nm), σ = [some (.ref a), some (.ref d), v2, v3, v4] ∧ Same H H5 ∧ H5 d = some (.dK (kvN nm)) ∧ NmOk nm ∧ nm.length ≤ i)
      ⟨none, none, none, [], rfl, same_upd hd, upd_same, ⟨fun p hp => (by cases hp), fun p hp => (by cases hp)⟩, Nat.le_refl _⟩ (fun _ _ _ _ _ => trivial) ?_ ?_
    · rintro i x σ H4 H5 hi ⟨v2, v3, v4, nm, rfl, s5, hd5, ok5, ln⟩ ⟨rfl, ex⟩
      have ex : x = V.int (i : Int) := ex.trans (by show V.int _ = _; rw [Int.zero_add])
      subst ex
      refine ⟨_, rfl, _, rfl, _, _, rfl, rfl, a, ns, 1 + i, 8, 95, congrArg (fun z => [V.ref a, V.int z, V.int 8, V.int 95]) (by omega), s5.seq hS, by omega, by decide, by decide, by decide, fun ds H6 r hR s6 _ hr6 => ?_⟩
      have dl := hR.1
      have at_r : ∀ {j : Nat}, j < 8 → ∃ x, atI (ds.map V.int) ((j : Nat) : Int) = some (.int x) := fun {j} hj =>
        ⟨_, atI_of (k := j) (by rw [List.getElem?_map, List.getElem?_eq_getElem (show j < ds.length by omega)]; rfl)⟩
      have hd6 := s6 _ _ hd5
      refine ⟨_, rfl, r, ds, 0, rfl, hr6, by omega, by decide, fun H7 w0 s7 hw0 => ?_⟩
      have hr7 := s7 _ _ hr6
      have s57 := s6.trans s7
      refine ⟨fun σ' H8 => ∃ ww : List Nat, σ' = [some (.ref a), some (.ref d), some (.int (i : Int)), some (.ref r), some (.str (S ww))] ∧ Same H7 H8 ∧ Wd ww, ?_, ?_⟩
      · have w0l := hw0.b
        have w0a := hw0.a
        refine ⟨_, rfl, rfl, _, rfl, ite2 (fun c => ?_) (fun c => ?_)⟩
        · obtain ⟨y7, hy7⟩ := at_r (j := 7) (by omega)
          refine ⟨_, rfl, r, _, _, V.int y7, rfl, rfl, SqL.of hr7, hy7, _, _, rfl, rfl, (by show (2 : Int) ≠ 0; decide), rfl, _, rfl, ite2 (fun c2 => ?_) (fun c2 => ?_)⟩
          · refine ⟨_, rfl, _, rfl, r, ds, 1, rfl, hr7, by omega, by decide, fun H8 w1 s8 hw1 => ?_⟩
            have w1l := hw1.b
            refine ⟨S w0, S w1, rfl, rfl, (by rw [S_len, S_len]; exact Nat.le_trans (show _ ≤ 24 by omega) (by decide)), _, rfl, S w0 ++ S w1, rfl, (by rw [S_cat, S_len, List.length_append]; exact Nat.le_trans (show _ ≤ 24 by omega) (by decide)), ?_⟩
            rw [S_cat, cut12]
            exact ⟨_, rfl, s8, wd_cat hw0 hw1⟩
          · exact ⟨w0, rfl, same_rfl, hw0⟩
        · exact iteF ⟨w0, rfl, same_rfl, hw0⟩
      rintro σ' H8 ⟨ww, rfl, s8, hww⟩
      have s58 := s57.trans s8
      refine ⟨_, rfl, (by show 9 ≤ sizeLine; decide), fun p hp => ?_⟩
      have sp := same_upd (o := .lst (cnts.map vS)) hp
      have hp2 : upd H8 p (.lst (cnts.map vS)) p = some (.lst (cnts.map vS)) := upd_same
      refine ⟨p, cnts.map vS, rfl, .inl (SqL.of hp2), rfl, rfl, _, rfl, ?_⟩
      rw [if_neg (by decide), inV_S]
      have s59 := s58.trans sp
      have hd9 := s59 _ _ hd5
      have hr9 := (s8.trans sp) _ _ hr7
      by_cases hc : ww ∈ cnts
      · rw [decide_eq_true hc]
        exact iteT ⟨_, _, _, nm, rfl, s5.trans s59, hd9, ok5, by omega⟩
      · rw [decide_eq_false hc]
        refine iteF ⟨(by show 4 ≤ sizeLine; decide), fun q hq => ?_⟩
        have sq := same_upd (o := .lst (valsL.map vS)) hq
        have hq2 : upd (upd H8 p (.lst (cnts.map vS))) q (.lst (valsL.map vS)) q = some (.lst (valsL.map vS)) := upd_same
        obtain ⟨y6, hy6⟩ := at_r (j := 6) (by omega)
        obtain ⟨j, hj⟩ : ∃ j : Nat, y6.fmod 4 = (j : Int) := ⟨(y6.fmod 4).toNat, by have := fmod_in (x := y6) (b := 4) (by decide); omega⟩
        have j4 := fmod_in (x := y6) (b := 4) (by decide)
        rw [hj] at j4
        have j4' : j < valsL.length := by show j < 4; omega
        have hv : atI (valsL.map vS) ((j : Nat) : Int) = some (vS valsL[j]) := atI_of (by rw [List.getElem?_map, List.getElem?_eq_getElem j4']; rfl)
        have s510 := s59.trans sq
        have hd10 := s510 _ _ hd5
        refine ⟨_, rfl, r, _, _, V.int y6, rfl, rfl, SqL.of (sq _ _ hr9), hy6, _, _, rfl, rfl, (by show (4 : Int) ≠ 0; decide), q, _, _, vS valsL[j], rfl, rfl, SqL.of hq2, (by rw [hj]; exact hv), ?_⟩
        refine ⟨_, rfl, _, rfl, d, _, rfl, DPut.k (k := Sum.inr (S ww)) hd10 ?_, ?_⟩
        · unfold kvN
          rw [List.length_map]
          exact Nat.lt_of_le_of_lt (show nm.length ≤ 10 by omega) (by decide)
        · refine ⟨_, _, _, putN nm ww valsL[j], rfl, fun b o eb => ?_, ?_, ⟨fun p hp => ?_, fun p hp => ?_⟩, Nat.le_trans (put_len nm ww _) (by omega)⟩
          · rw [upd_ne (ne_of_none eb hd)]
            exact s510 _ _ (s5 _ _ eb)
          · rw [upd_same, put_nm]
          · rcases put_mem hp with e | h
            · rw [e]
              exact ⟨hww, hc⟩
            · exact ok5.w p h
          · rcases put_mem hp with e | h
            · rw [e]
              exact List.getElem_mem j4'
            · exact ok5.v p h
    · rintro σ H5 ⟨v2, v3, v4, nm, rfl, s5, hd5, ok5, ln⟩
      exact ⟨_, rfl, res H5 d nm s5 hd5 ok5 ln⟩
end
end Ind

set_option Elab.async false
set_option linter.all false
set_option maxRecDepth 100000
set_option maxHeartbeats 4000000
namespace Ind
open PySem PySem.Spec PyProof.Rows L2 SX
/-! ### pieces of joined texts -/
def Shut : Option Nat → Prop
  | none => True
  | some d => sm1 d = false
def ones (m : List Nat) : List (List Nat) := m.map fun c => [c]
theorem pst_big {st : List (List Nat) × Option Nat} {c : Nat} (h : sm1 c = false) : pst st c = (st.1 ++ [[c]], some c) := by
  unfold pst
  split
  · rfl
  · rw [h, Bool.and_false, if_neg (by decide)]
theorem pst_shut {st : List (List Nat) × Option Nat} {c : Nat} (h : Shut st.2) : pst st c = (st.1 ++ [[c]], some c) := by
  unfold pst
  split
  · rfl
  · rename_i d hd
    rw [hd] at h
    have h : sm1 d = false := h
    rw [h, Bool.false_and, if_neg (by decide)]
theorem fold_marks : ∀ (m : List Nat) (st : List (List Nat) × Option Nat), (∀ c ∈ m, sm1 c = false) → (m.foldl pst st).1 = st.1 ++ ones m ∧ (m ≠ [] → Shut (m.foldl pst st).2)
  | [], st, _ => ⟨(List.append_nil _).symm, fun h => absurd rfl h⟩
  | c :: m, st, h => by
    have hc := h c (List.mem_cons_self ..)
    obtain ⟨i1, i2⟩ := fold_marks m (pst st c) fun d hd => h d (List.mem_cons_of_mem _ hd)
    rw [List.foldl_cons]
    rw [pst_big hc] at i1 i2 ⊢
    refine ⟨by rw [i1]; show st.1 ++ [[c]] ++ ones m = st.1 ++ ones (c :: m); rw [List.append_assoc]; rfl, fun _ => ?_⟩
    cases m with
    | nil => exact hc
    | cons d m => exact i2 (by simp)
theorem fold_in : ∀ (v : List Nat) (ps : List (List Nat)) (p : List Nat) (d : Nat), sm1 d = true → smB v = true → ∃ e, v.foldl pst (ps ++ [p], some d) = (ps ++ [p ++ v], some e)
  | [], ps, p, d, _, _ => ⟨d, by rw [List.append_nil]; rfl⟩
  | c :: v, ps, p, d, hd, hv => by
    have hv' : (sm1 c && smB v) = true := hv
    rw [Bool.and_eq_true] at hv'
    obtain ⟨hc, hv⟩ := hv'
    have e1 : pst (ps ++ [p], some d) c = (ps ++ [p ++ [c]], some c) := by
      unfold pst
      show (if (sm1 d && sm1 c) = true then ((ps ++ [p]).dropLast ++ [(ps ++ [p]).getLastD [] ++ [c]], some c) else _) = _
      rw [hd, hc, if_pos (by decide), List.dropLast_concat, List.getLastD_concat]
    rw [List.foldl_cons, e1]
    obtain ⟨e, h⟩ := fold_in v ps (p ++ [c]) c hc hv
    exact ⟨e, by rw [h, List.append_assoc]; rfl⟩
theorem fold_word {w : List Nat} {st : List (List Nat) × Option Nat} (hs : Shut st.2) (hw : smB w = true) (hn : w ≠ []) : ∃ e, w.foldl pst st = (st.1 ++ [w], some e) := by
  cases w with
  | nil => exact absurd rfl hn
  | cons c v =>
    have hw' : (sm1 c && smB v) = true := hw
    rw [Bool.and_eq_true] at hw'
    rw [List.foldl_cons, pst_shut hs]
    obtain ⟨e, h⟩ := fold_in v st.1 [c] c hw'.1 hw'.2
    exact ⟨e, h⟩
theorem pcs_app (a b : List Nat) : pcs (a ++ b) = b.foldl pst (pcs a) := by
  unfold pcs
  rw [List.foldl_append]
theorem bad_ones (nm : Nm) (m : List Nat) : (ones m).any (badP nm) = false := by
  refine List.any_eq_false.mpr fun p hp => ?_
  obtain ⟨c, _, rfl⟩ := List.mem_map.mp hp
  unfold badP
  rw [show decide (1 < [c].length) = false from decide_eq_false (by show ¬ 1 < 1; decide), Bool.false_and]
  decide
theorem exp_ones (nm : Nm) (m : List Nat) : ((ones m).map (expP nm)).flatten = m := by
  induction m with
  | nil => rfl
  | cons c m ih =>
    show (expP nm [c] :: (ones m).map (expP nm)).flatten = _
    rw [List.flatten_cons, ih]
    unfold expP
    rw [if_neg (by show ¬ 1 < 1; decide)]
    rfl
/-- a text and what is due for it -/
structure TxS (nm : Nm) (l due : List Nat) : Prop where
  b : bad nm l = false
  e : expd nm l = due
  c : Shut (pcs l).2
theorem txs_nil (nm : Nm) : TxS nm [] [] := ⟨rfl, rfl, trivial⟩
theorem txs_marks {nm : Nm} {l due m : List Nat} (h : TxS nm l due) (hm : ∀ c ∈ m, sm1 c = false) (hn : m ≠ []) : TxS nm (l ++ m) (due ++ m) := by
  obtain ⟨i1, i2⟩ := fold_marks m (pcs l) hm
  have hb := h.b
  have he := h.e
  unfold bad pieces at hb
  unfold expd pieces at he
  refine ⟨?_, ?_, ?_⟩
  · unfold bad pieces
    rw [pcs_app, i1, List.any_append, hb, bad_ones]
    rfl
  · unfold expd pieces
    rw [pcs_app, i1, List.map_append, List.flatten_append, he, exp_ones]
  · rw [pcs_app]
    exact i2 hn
theorem txs_word {nm : Nm} {l due w m : List Nat} (h : TxS nm l due) (hw : smB w = true) (hw0 : w ≠ []) (hb0 : badP nm w = false) (hm : ∀ c ∈ m, sm1 c = false) (hn : m ≠ []) : TxS nm (l ++ w ++ m) (due ++ expP nm w ++ m) := by
  obtain ⟨e, h1⟩ := fold_word h.c hw hw0
  obtain ⟨i1, i2⟩ := fold_marks m (w.foldl pst (pcs l)) hm
  have hb := h.b
  have he := h.e
  unfold bad pieces at hb
  unfold expd pieces at he
  have e1 : pcs (l ++ w ++ m) = m.foldl pst (w.foldl pst (pcs l)) := by rw [pcs_app, pcs_app]
  refine ⟨?_, ?_, ?_⟩
  · unfold bad pieces
    rw [e1, i1, h1, List.any_append, List.any_append, hb, bad_ones]
    simp [hb0]
  · unfold expd pieces
    rw [e1, i1, h1, List.map_append, List.map_append, List.flatten_append, List.flatten_append, he, exp_ones]
    simp
  · rw [e1]
    exact i2 hn
theorem bad_word {nm : Nm} {l w r : List Nat} (h : Shut (pcs l).2) (hw : smB w = true) (hw0 : w ≠ []) (hb0 : badP nm w = true) (hr : r = [] ∨ ∃ x, r = [42, x]) : bad nm (l ++ w ++ r) = true := by
  obtain ⟨e, h1⟩ := fold_word h hw hw0
  have e1 : pcs (l ++ w ++ r) = r.foldl pst (w.foldl pst (pcs l)) := by rw [pcs_app, pcs_app]
  unfold bad pieces
  rw [e1, h1]
  rcases hr with rfl | ⟨x, rfl⟩
  · show ((pcs l).1 ++ [w]).any (badP nm) = true
    rw [List.any_append]
    simp [hb0]
  · show (pst (pst ((pcs l).1 ++ [w], some e) 42) x).1.any (badP nm) = true
    have h42 : ∀ q : List (List Nat), Shut ((q, some 42) : List (List Nat) × Option Nat).2 := fun q => (by decide : sm1 42 = false)
    rw [pst_big (c := 42) (by decide), pst_shut (h42 _)]
    rw [List.any_append, List.any_append, List.any_append]
    simp [hb0]
theorem txs_rep (nm : Nm) (n : Nat) (h : 0 < n) : TxS nm (List.replicate n 55) (List.replicate n 55) := by
  have := txs_marks (txs_nil nm) (m := List.replicate n 55) (fun c hc => by rw [List.eq_of_mem_replicate hc]; decide) (fun z => by
    have := congrArg List.length z
    rw [List.length_replicate] at this
    exact absurd this (by show n ≠ 0; omega))
  rwa [List.nil_append] at this
theorem fold_rep (c : Nat) : ∀ (n : Nat) (acc : Array Nat), (List.replicate n #[c]).foldl (· ++ ·) acc = (acc.toList ++ List.replicate n c).toArray
  | 0, acc => by simp
  | n + 1, acc => by
    rw [List.replicate_succ, List.foldl_cons, fold_rep c n, List.replicate_succ]
    simp
theorem mul_S (c n : Nat) (h : 1 < n) : Txt.mul (S [c]) (n : Int) = S (List.replicate n c) := by
  unfold Txt.mul
  rw [if_neg (by omega), if_neg (by
    rw [S_len]
    have : ((n : Int) == 1) = false := by
      rw [beq_eq_false_iff_ne]
      omega
    rw [this]
    simp)]
  show (⟨(List.replicate (n : Int).toNat #[c]).foldl (· ++ ·) #[]⟩ : Str) = _
  rw [Int.toNat_natCast, fold_rep]
  rfl
/-- text * number -/
theorem op_mulS {X : Cx} : OpR X (binaryOp .Mult) (fun x y H Q => ∃ z i, x = .str z ∧ y = .int i ∧ z.length ≤ 16 ∧ 0 ≤ i ∧ i ≤ 1048576 ∧ Q (.str (Txt.mul z i)) H) := by
  intro pins s σ H x y v u Q I rx ry h
  obtain ⟨z, i, rfl, rfl, hz, h0, h1, q⟩ := h
  obtain ⟨t, rfl⟩ := rx
  obtain ⟨t', rfl⟩ := ry
  exact PySem.W.KXi.mul rfl hz (by omega) (by omega) fun t2 k _ _ => ⟨.str (Txt.mul z i), H, I.tok _, ⟨_, rfl⟩, q⟩
end Ind

set_option Elab.async false
set_option linter.all false
set_option maxRecDepth 100000
set_option maxHeartbeats 4000000
namespace Ind
open PySem PySem.Spec PyProof.Rows L2 SX
/-- references to pairs of texts -/
def PL (H : Hp) : List V → Nm → Prop
  | [], [] => True
  | v :: vs, r :: rs => (∃ p : Addr, v = .ref p ∧ H p = some (.tup [vS r.1, vS r.2])) ∧ PL H vs rs
  | _, _ => False
theorem PL.same {H H' : Hp} (s : Same H H') : ∀ {vs : List V} {rs : Nm}, PL H vs rs → PL H' vs rs
  | [], [], h => h
  | v :: vs, r :: rs, ⟨⟨p, e, hp⟩, t⟩ => ⟨⟨p, e, s _ _ hp⟩, PL.same s t⟩
theorem PL.up {H : Hp} {D : Addr} {xs ys : List V} (hD : H D = some (.lst xs)) : ∀ {vs : List V} {rs : Nm}, PL H vs rs → PL (upd H D (.lst ys)) vs rs
  | [], [], h => h
  | v :: vs, r :: rs, ⟨⟨p, e, hp⟩, t⟩ => ⟨⟨p, e, by rw [upd_ne (fun z => by rw [z, hD] at hp; cases hp)]; exact hp⟩, PL.up hD t⟩
theorem PL.snoc {H : Hp} {p : Addr} {r : List Nat × List Nat} (hp : H p = some (.tup [vS r.1, vS r.2])) : ∀ {vs : List V} {rs : Nm}, PL H vs rs → PL H (vs ++ [V.ref p]) (rs ++ [r])
  | [], [], h => ⟨⟨p, rfl, hp⟩, h⟩
  | v :: vs, q :: rs, ⟨a, t⟩ => ⟨a, PL.snoc hp t⟩
def rD (r : List Nat × List Nat) : PyData := .tuple [.str (S r.1), .str (S r.2)]
theorem PL.dp {K : PySem.W.Frag} {H : Hp} : ∀ {vs : List V} {rs : Nm}, PL H vs rs → DpAll K H vs (rs.map rD)
  | [], [], _ => .nil
  | v :: vs, r :: rs, ⟨⟨p, e, hp⟩, t⟩ => by
    subst e
    exact .cons (.tup (SqT.of hp) (.cons (.str _) (.cons (.str _) .nil))) (PL.dp t)
theorem PL.len {H : Hp} : ∀ {vs : List V} {rs : Nm}, PL H vs rs → vs.length = rs.length
  | [], [], _ => rfl
  | v :: vs, r :: rs, ⟨_, t⟩ => by rw [List.length_cons, List.length_cons, PL.len t]
def RowsOk (rs : Nm) : Prop := ∀ r ∈ rs, PyData.strOk (S r.1) = true ∧ PyData.strOk (S r.2) = true
theorem rD_lay : ∀ {rs : Nm}, RowsOk rs → PyData.canLayAll0 (rs.map rD) = true
  | [], _ => by simp [PyData.canLayAll0]
  | r :: rs, h => by
    have h1 := h r (List.mem_cons_self ..)
    simp [PyData.canLayAll0, rD_lay (fun q hq => h q (List.mem_cons_of_mem _ hq)), rD, PyData.canLay0, h1.1, h1.2]
theorem rD_depth : ∀ rs : Nm, PyData.depthAll (rs.map rD) ≤ 1
  | [] => by simp [PyData.depthAll]
  | r :: rs => by
    have := rD_depth rs
    simp only [List.map_cons, PyData.depthAll, rD, PyData.depth]
    omega
theorem rD_shape {rs : Nm} (h : RowsOk rs) : SeqAt.shaped (.list (rs.map rD)) = true := by
  have := rD_depth rs
  show ((PyData.list (rs.map rD)).canLay0 && decide ((PyData.list (rs.map rD)).depth ≤ 64)) = true
  rw [Bool.and_eq_true]
  exact ⟨by simp only [PyData.canLay0]; exact rD_lay h, decide_eq_true (by simp only [PyData.depth]; omega)⟩
theorem neD_rows {K : PySem.W.Frag} {H : Hp} {a b : Addr} {vs us : List V} {rs : Nm} {Q : VK} (ha : H a = some (.lst vs)) (h1 : PL H vs rs) (hb : H b = some (.lst us)) (h2 : PL H us rs) (ok : RowsOk rs) (k : Q (.bl false) H) : rNeD K (.ref a) (.ref b) H Q := by
  refine ⟨_, _, .lst (SqL.of ha) h1.dp, .lst (SqL.of hb) h2.dp, rD_shape ok, rD_shape ok, ?_⟩
  rw [SeqAt.eqv_refl _ (SeqAt.canLay_of_shaped (rD_shape ok))]
  exact k
/-- a name with what stands for it -/
def rowN (nm : Nm) (w : List Nat) : List Nat × List Nat := (w, (lookN nm w).getD [])
theorem look_mem : ∀ {nm : Nm} {p : List Nat × List Nat}, p ∈ nm → ∃ v, lookN nm p.1 = some v ∧ ∃ q ∈ nm, q.2 = v
  | q :: nm, p, h => by
    by_cases c : q.1 = p.1
    · exact ⟨q.2, by unfold lookN; rw [List.find?_cons_of_pos (by simpa using c)]; rfl, q, List.mem_cons_self .., rfl⟩
    · have hp : p ∈ nm := by
        rcases List.mem_cons.mp h with e | h
        · exact absurd (by rw [e]) c
        · exact h
      obtain ⟨v, e, r, hr, hv⟩ := look_mem hp
      refine ⟨v, ?_, r, List.mem_cons_of_mem _ hr, hv⟩
      unfold lookN at e ⊢
      rw [List.find?_cons_of_neg (by simpa using c)]
      exact e
theorem look_not {nm : Nm} {w : List Nat} (h : w ∉ nm.map (·.1)) : lookN nm w = none := by
  unfold lookN
  rw [List.find?_eq_none.mpr fun q hq => by
    simp
    intro e
    exact h (List.mem_map.mpr ⟨q, hq, e⟩)]
  rfl
theorem dget_nm {H : Hp} {d : Addr} {nm : Nm} {w v : List Nat} (hd : Rd H d (.dK (kvN nm))) (h : lookN nm w = some v) : DGet H d (.str (S w)) (some (vS v)) := by
  refine .inl ⟨kvN nm, Sum.inr (S w), hd, rfl, ?_⟩
  rw [val_nm, h]
  rfl
theorem isNm_known {nm : Nm} (h : NmOk nm) {p : List Nat × List Nat} (hp : p ∈ nm) : isNm p.1 = true := by
  obtain ⟨w, hc⟩ := h.w p hp
  have := w.a
  have := w.b
  unfold isNm isW
  rw [decide_eq_true (by omega : 1 ≤ p.1.length), decide_eq_true w.b, w.s, decide_eq_true (by omega : 1 < p.1.length), decide_eq_false hc]
  rfl
theorem badP_known {nm : Nm} {p : List Nat × List Nat} (hp : p ∈ nm) : badP nm p.1 = false := by
  obtain ⟨v, e, _⟩ := look_mem hp
  unfold badP
  rw [e]
  simp
def marksL : List (List Nat) := [" + ", "*", "(", ")", " ", "^2", "7", "-", "/", "D"].map lit
theorem marks_ok : ∀ m ∈ marksL, (∀ c ∈ m, sm1 c = false) ∧ m ≠ [] ∧ m.length ≤ 3 := by decide +kernel
theorem at_S2 {ps : List (List Nat)} {j : Nat} (h : j < ps.length) : atI (ps.map vS) ((j : Nat) : Int) = some (vS ps[j]) := atI_of (by rw [List.getElem?_map, List.getElem?_eq_getElem h]; rfl)
theorem strOk_S {l : List Nat} (h : ∀ c ∈ l, c < 1114112) : PyData.strOk (S l) = true := by
  unfold PyData.strOk
  rw [Array.all_eq_true_iff_forall_mem]
  intro c hc
  have hc : c ∈ l := by simpa [S] using hc
  exact decide_eq_true (h c hc)
theorem vals_ok : ∀ v ∈ valsL, ∀ c ∈ v, c < 1114112 := by decide +kernel
theorem rows_ok {nm : Nm} (h : NmOk nm) : RowsOk ((nm.map (·.1)).map (rowN nm)) := fun r hr => by
  obtain ⟨w, hw, rfl⟩ := List.mem_map.mp hr
  obtain ⟨p, hp, rfl⟩ := List.mem_map.mp hw
  obtain ⟨v, e, q, hq, rfl⟩ := look_mem hp
  refine ⟨strOk_S fun c hc => ?_, strOk_S fun c hc => ?_⟩
  · have := List.all_eq_true.mp (h.w p hp).1.s c hc
    unfold sm1 at this
    rw [Bool.and_eq_true, decide_eq_true_eq, decide_eq_true_eq] at this
    omega
  · unfold rowN at hc
    rw [e] at hc
    exact vals_ok _ (h.v q hq) c hc
end Ind
namespace Ind
open PySem PySem.Spec PyProof.Rows L2 SX
theorem unlock {H H2 : Hp} {d : Addr} {u : HO} {od : Obj} (hd : H d = some u) (s : Same (upd H d (.frz od u)) H2) : Same H (upd H2 d u) := fun b o e => by
  by_cases c : b = d
  · subst c
    rw [upd_same, ← hd, e]
  · rw [upd_ne c]
    exact s _ _ (by rw [upd_ne c]; exact e)
theorem key_at {nm : Nm} {i : Nat} {k : Key} {v : V} (h : (kvN nm)[i]? = some (k, v)) : ∃ p, nm[i]? = some p ∧ kV k = vS p.1 ∧ (nm.map (·.1))[i]? = some p.1 := by
  unfold kvN at h
  rw [List.getElem?_map] at h
  cases e : nm[i]? with
  | none => rw [e] at h; cases h
  | some p =>
    rw [e] at h
    have h := Option.some.inj h
    refine ⟨p, rfl, ?_, by rw [List.getElem?_map, e]; rfl⟩
    rw [← (Prod.mk.inj h).1]
    rfl
/-- a word of the text and what is due for it -/
def PwOk (nm : Nm) (w m : List Nat) : Prop := (smB w = true ∧ w ≠ [] ∧ badP nm w = false ∧ m = expP nm w ∧ w.length ≤ 12 ∧ m.length ≤ 12) ∨ (w = [68] ∧ m = [68])
theorem PwOk.len {nm : Nm} {w m : List Nat} (h : PwOk nm w m) : w.length ≤ 12 ∧ m.length ≤ 12 := by
  rcases h with ⟨_, _, _, _, a, b⟩ | ⟨rfl, rfl⟩
  · exact ⟨a, b⟩
  · exact ⟨by decide, by decide⟩
theorem txs_pw {nm : Nm} {l due w m k : List Nat} (h : TxS nm l due) (p : PwOk nm w m) (hk : k ∈ marksL) : TxS nm (l ++ w ++ k) (due ++ m ++ k) := by
  obtain ⟨k1, k2, _⟩ := marks_ok k hk
  rcases p with ⟨a, b, c, rfl, _, _⟩ | ⟨rfl, rfl⟩
  · exact txs_word h a b c k1 k2
  · have := txs_marks h (m := 68 :: k) (fun c hc => by
      rcases List.mem_cons.mp hc with rfl | hc
      · decide
      · exact k1 c hc) (by simp)
    rw [List.append_assoc, List.append_assoc]
    exact this
theorem pw_one (nm : Nm) : ∀ w ∈ (["x", "D", "y"].map lit), PwOk nm w w := fun w hw => by
  have e : (["x", "D", "y"].map lit) = [[120], [68], [121]] := by decide +kernel
  rw [e] at hw
  have one : ∀ c : Nat, sm1 c = true → PwOk nm [c] [c] := fun c hc => .inl ⟨by unfold smB; simp [hc], by simp, by unfold badP; simp, by unfold expP; simp, by show 1 ≤ 12; decide, by show 1 ≤ 12; decide⟩
  rcases List.mem_cons.mp hw with rfl | hw
  · exact one _ (by decide)
  rcases List.mem_cons.mp hw with rfl | hw
  · exact .inr ⟨rfl, rfl⟩
  · rw [List.mem_singleton.mp hw]
    exact one _ (by decide)
theorem pw_known {nm : Nm} (h : NmOk nm) {p : List Nat × List Nat} (hp : p ∈ nm) : ∃ v, lookN nm p.1 = some v ∧ v.length ≤ 7 ∧ PwOk nm p.1 (40 :: (v ++ [41])) := by
  obtain ⟨v, e, q, hq, rfl⟩ := look_mem hp
  have w := (h.w p hp).1
  have wa := w.a
  have := w.b
  have lv := vals_len _ (h.v q hq)
  refine ⟨_, e, lv, .inl ⟨w.s, fun z => by rw [z] at wa; exact absurd wa (by decide), badP_known hp, ?_, w.b, ?_⟩⟩
  · unfold expP
    rw [if_pos (by omega), e]
    rfl
  · rw [List.length_cons, List.length_append]
    show q.2.length + 1 + 1 ≤ 12
    omega
end Ind
namespace Ind
open PySem PySem.Spec PyProof.Rows L2 SX
theorem PL.up2 {H : Hp} {D : Addr} {o : Obj} {u u2 : HO} (hD : H D = some (.frz o u)) : ∀ {vs : List V} {rs : Nm}, PL H vs rs → PL (upd H D u2) vs rs
  | [], [], h => h
  | v :: vs, r :: rs, ⟨⟨p, e, hp⟩, t⟩ => ⟨⟨p, e, by rw [upd_ne (fun z => by rw [z, hD] at hp; cases hp)]; exact hp⟩, PL.up2 hD t⟩
theorem flat_S (ps : List (List Nat)) : (ps.map vS).all flatV = true := by
  rw [List.all_map]
  exact List.all_eq_true.mpr fun _ _ => rfl
def sixL : List (List Nat) := ["", "x", "A", "aB", "a1", "abcdefghijklm"].map lit
theorem six_bad : ∀ l ∈ cnts ++ sixL, isNm l = false ∧ l.length ≤ 100 := by decide +kernel
def twoL : List (List Nat) := ["ab", "abcdefghijkl"].map lit
theorem two_ok : ∀ l ∈ twoL, isNm l = true ∧ l.length ≤ 100 := by decide +kernel
end Ind

set_option Elab.async false
set_option linter.all false
set_option maxRecDepth 100000
set_option maxHeartbeats 4000000
set_option exponentiation.threshold 9000
namespace Ind
open PySem PySem.Spec PyProof.Rows L2 SX
open Builtin.Int (intBits)
abbrev sLaw : Stmt := top 21
def spLaw (K : PySem.W.Frag) : Sp := fun vs H Q _ => ∃ (a : Addr) (ns : List Int), vs = [.ref a] ∧ SqL K H a (ns.map V.int) ∧ ∀ H', Q (.bl true) H'
/-- a def of the text that the law calls -/
structure Cl (P : Program) (w : World) (K : PySem.W.Frag) (mg : Str → Option Value) (base : Heap) (k : Nat) (x : Str) (f : Addr) (fd : FuncData) (ps : List Str) (sp : Sp) : Prop where
  g : mg x = some (.ref f)
  kp : PySem.W.keepIn K (.ref f) = true
  b : Binds K fd ps []
  fn : FnOk P w K mg base CX0 k f fd ps sp
structure ClX (P : Program) (w : World) (K : PySem.W.Frag) (mg : Str → Option Value) (base : Heap) (k : Nat) (x : Str) (f : Addr) (fd : FuncData) (ps : List Str) (sp : Sp) : Prop where
  g : mg x = some (.ref f)
  kp : PySem.W.keepIn K (.ref f) = true
  b : Binds K fd ps []
  fn : FnOk P w K mg base (L2.CX P w) k f fd ps sp
structure LawF (P : Program) (w : World) (K : PySem.W.Frag) (mg : Str → Option Value) (base : Heap) (Rf : Addr) (fD fNm fWd fRs fIn fFu : Addr) (fdD fdNm fdWd fdRs fdIn fdFu : FuncData) : Prop where
  D : Cl P w K mg base 2 "_law_draws" fD fdD ["script", "at", "count", "bound"] (spDraws K)
  Nm : Cl P w K mg base 3 "_law_names" fNm fdNm ["script"] (spNms K)
  Wd : Cl P w K mg base 1 "_law_word" fWd fdWd ["row", "at"] (spWd)
  Rs : Cl P w K mg base 5 "_law_reason" fRs fdRs ["names", "text"] (spRsn)
  In : Cl P w K mg base 3 "is_name" fIn fdIn ["value"] (spIsN K)
  Fu : ClX P w K mg base 4 "full_text" fFu fdFu ["names", "text"] (spFull Rf)
abbrev nL : List Str := ["script", "names", "word", "known", "row", "text", "due", "k", "pick", "mark", "more", "kept", "told", "strange"]
section
variable {P : Program} {w : World} {K : PySem.W.Frag} {mg : Str → Option Value} {base : Heap} {Rf : Addr}
theorem scL : FnScope nL ["script"] (defScope sLaw) := ⟨rfl, rfl, rfl, by decide +kernel, rfl, by decide +kernel, by decide +kernel⟩
theorem ok_law {f fD fNm fWd fRs fIn fFu : Addr} {fd fdD fdNm fdWd fdRs fdIn fdFu : FuncData} (F : Fun K "law" "law" sLaw f fd) (T : TxL K mg) (hstr : mg "str" = none)
    (L : LawF P w K mg base Rf fD fNm fWd fRs fIn fFu fdD fdNm fdWd fdRs fdIn fdFu) : FnOk P w K mg base CX0 40 f fd ["script"] (spLaw K) := by
  refine F.ok scL (fun vs H Q E h => ?_) (fun cdv A outer s H vs Q E hr h => ?_)
  · obtain ⟨a, ns, rfl, _⟩ := h
    rfl
  · obtain ⟨a, ns, rfl, hS, kq⟩ := h
    have hD := hr.mono (show 2 ≤ 39 by decide)
    have hNm := hr.mono (show 3 ≤ 39 by decide)
    have hWd := hr.mono (show 1 ≤ 39 by decide)
    have hRs := hr.mono (show 5 ≤ 39 by decide)
    have hIn := hr.mono (show 3 ≤ 39 by decide)
    have hFu := hr.mono (show 4 ≤ 39 by decide)
    have hu1 : (A.deeper (envOfC "law" (defScope sLaw) s.heap.objs.size f cdv)).units + 1 < cLine := by
      have := hr.units
      omega
    refine ⟨_, (pss_cons (ps_set (i := 1) scL.nd rfl (Or.inr rfl) (pe_call L.Nm.fn hNm (by rfl) L.Nm.g L.Nm.kp L.Nm.b .nil pass0 (pa_cons (pv 0) pa_nil)))
      (pss_cons (ps_lock (ps_setLc (i := 3) (own := [("word", 2)]) (g := gName 2) (tt := tYes) (te := tVar 2) rfl scL.nd rfl rfl rfl (pi_keys (pv 1)) (blkOk_by (N := nL) (sc := defScope sLaw) (by decide +kernel)) (fun _ _ _ _ _ => (pg_name (i := 2) scL.nd rfl (Or.inl rfl))) (fun _ _ _ _ _ => pts_nil) (fun _ _ _ _ _ => (pv 2))))
      (pss_cons (ps_set (i := 4) scL.nd rfl (Or.inl rfl) (pe_call L.D.fn hD (by rfl) L.D.g L.D.kp L.D.b .nil pass0 (pa_cons (pv 0) (pa_cons pe_int (pa_cons pe_int (pa_cons pe_int pa_nil))))))
      (pss_cons (ps_set (i := 5) scL.nd rfl (Or.inl rfl) pe_str)
      (pss_cons (ps_set (i := 6) scL.nd rfl (Or.inl rfl) pe_str)
      (C8.pss_cut (ps_for PassesOwn.never rfl (pi_range1 (by rfl) T.range (pa_cons (pe_op op_modN (pe_ix ix_list (pv 4) pe_int fun _ _ => rfl) pe_int) pa_nil)) (pg_name (i := 7) scL.nd rfl (Or.inl rfl)) (pss_cons (ps_set (i := 8) scL.nd rfl (Or.inl rfl) (pe_ix ix_list (pv 4) (pe_op op_add pe_int (pe_op op_mulB pe_int (pv 7))) fun _ _ => rfl))
      (pss_cons (ps_set (i := 9) scL.nd rfl (Or.inl rfl) (pe_ix ix_list (pe_lst (pa_cons pe_str (pa_cons pe_str (pa_cons pe_str (pa_cons pe_str (pa_cons pe_str (pa_cons pe_str (pa_cons pe_str (pa_cons pe_str (pa_cons pe_str (pa_cons pe_str pa_nil))))))))))) (pe_op op_modN (pe_ix ix_list (pv 4) (pe_op op_add pe_int (pe_op op_mulB pe_int (pv 7))) fun _ _ => rfl) pe_int) fun _ _ => rfl))
      (pss_cons (ps_set (i := 2) scL.nd rfl (Or.inl rfl) (pe_ix ix_list (pe_lst (pa_cons pe_str (pa_cons pe_str (pa_cons pe_str pa_nil)))) (pe_op op_modN (pv 8) pe_int) fun _ _ => rfl))
      (pss_cons (ps_set (i := 10) scL.nd rfl (Or.inl rfl) (pv 2))
      (C8.pss_cut (ps_if (PW.pt (pw_and (pt_cmpR op_eq (pe_op op_modN (pv 8) pe_int) pe_int (nomark _)) (pw_and1 (pt_cmpR op_gt (pe_callB call_len_seq (by rfl) T.len PySem.boot_len (pa_cons (pv 3) pa_nil)) pe_int (nomark _))))) (pss_cons (ps_set (i := 2) scL.nd rfl (Or.inl rfl) (pe_ix ix_list (pv 3) (pe_op op_modN (pv 8) (pe_callB call_len_seq (by rfl) T.len PySem.boot_len (pa_cons (pv 3) pa_nil))) fun _ _ => rfl))
      (pss_one (ps_set (i := 10) scL.nd rfl (Or.inl rfl) (pe_op op_add_str (pe_op op_add_str pe_str (pe_dget hu1 (pv 1) (pv 2) fun _ _ => rfl)) pe_str)))) pss_nil)
      (pss_cons (ps_set (i := 5) scL.nd rfl (Or.inl rfl) (pe_op op_add_str (pe_op op_add_str (pv 5) (pv 2)) (pv 9)))
      (pss_one (ps_set (i := 6) scL.nd rfl (Or.inl rfl) (pe_op op_add_str (pe_op op_add_str (pv 6) (pv 10)) (pv 9)))))))))))
      (pss_cons (ps_setLc (i := 11) (own := [("word", 2)]) (g := gName 2) (tt := tYes) (te := tTup (tCons (tVar 2) (tCons (tDGet (tVar 1) (tVar 2)) tNil))) rfl scL.nd rfl rfl rfl (pi_list (pv 3)) (blkOk_by (N := nL) (sc := defScope sLaw) (by decide +kernel)) (fun _ _ _ _ _ => (pg_name (i := 2) scL.nd rfl (Or.inl rfl))) (fun _ _ _ _ _ => pts_nil) (fun _ _ _ _ _ => (pe_tup (pa_cons (pv 2) (pa_cons (pe_dget hu1 (pv 1) (pv 2) fun _ _ => rfl) pa_nil)))))
      (pss_cons (ps_set (i := 12) scL.nd rfl (Or.inl rfl) (pe_call (E := E0) L.Fu.fn hFu (by rfl) L.Fu.g L.Fu.kp L.Fu.b .nil passL (pa_cons (pv 1) (pa_cons (pv 5) pa_nil))))
      (pss_cons (ps_if (PW.pt (pw_or (pt_not (pt_val (pe_callB call_isi (by rfl) T.isinstance (by decide +kernel) (pa_cons (pv 12) (pa_cons (pe_bltn (v := .ty "str") (by rfl) hstr (by decide +kernel) rfl) pa_nil))))) (pw_or (pt_cmpR op_ne (pv 12) (pv 6) (nomark _)) (pw_or1 (pt_cmpR (op_neD hr.units) (pe_lock (pe_lc (own := [("word", 2)]) (g := gName 2) (tt := tYes) (te := tTup (tCons (tVar 2) (tCons (tDGet (tVar 1) (tVar 2)) tNil))) rfl scL.nd (pi_keys (pv 1)) (blkOk_by (N := nL) (sc := defScope sLaw) (by decide +kernel)) (fun _ _ _ _ _ => (pg_name (i := 2) scL.nd rfl (Or.inl rfl))) (fun _ _ _ _ _ => pts_nil) (fun _ _ _ _ _ => (pe_tup (pa_cons (pv 2) (pa_cons (pe_dget hu1 (pv 1) (pv 2) fun _ _ => rfl) pa_nil)))))) (pv 11) (nomark _)))))) (pss_one (ps_ret pe_bl)) pss_nil)
      (pss_cons (ps_set (i := 13) scL.nd rfl (Or.inl rfl) (pe_call L.Wd.fn hWd (by rfl) L.Wd.g L.Wd.kp L.Wd.b .nil pass0 (pa_cons (pe_call L.D.fn hD (by rfl) L.D.g L.D.kp L.D.b .nil pass0 (pa_cons (pv 0) (pa_cons pe_int (pa_cons pe_int (pa_cons pe_int pa_nil))))) (pa_cons pe_int pa_nil))))
      (C8.pss_cut (ps_if (pt_cmpR op_notIn_seq (pv 13) (pv 3) rfl) (pss_one (ps_if (PW.pt (pw_or (pt_cmpR op_ne (pe_call L.Rs.fn hRs (by rfl) L.Rs.g L.Rs.kp L.Rs.b .nil pass0 (pa_cons (pv 1) (pa_cons (pe_op op_add_str (pe_op op_add_str (pv 5) (pv 13)) pe_str) pa_nil))) pe_str (nomark _)) (pw_or1 (pt_cmpR op_ne (pe_call L.Rs.fn hRs (by rfl) L.Rs.g L.Rs.kp L.Rs.b .nil pass0 (pa_cons (pv 1) (pa_cons (pe_op op_add_str (pe_op op_mulS pe_str pe_int) (pv 13)) pa_nil))) pe_str (nomark _))))) (pss_one (ps_ret pe_bl)) pss_nil)) pss_nil)
      (pss_cons (ps_if (PW.pt (pw_or (pt_cmpR op_ne (pe_call L.Rs.fn hRs (by rfl) L.Rs.g L.Rs.kp L.Rs.b .nil pass0 (pa_cons (pv 1) (pa_cons (pe_op op_mulS pe_str pe_int) pa_nil))) pe_str (nomark _)) (pw_or1 (pt_cmpR op_ne (pe_call (E := E0) L.Fu.fn hFu (by rfl) L.Fu.g L.Fu.kp L.Fu.b .nil passL (pa_cons (pv 1) (pa_cons (pe_op op_mulS pe_str pe_int) pa_nil))) (pe_op op_mulS pe_str pe_int) (nomark _))))) (pss_one (ps_ret pe_bl)) pss_nil)
      (C8.pss_cut (ps_for PassesOwn.never rfl (pi_list (pe_op op_cat (pe_lst (pa_cons pe_str (pa_cons pe_str (pa_cons pe_str (pa_cons pe_str (pa_cons pe_str (pa_cons pe_str (pa_cons pe_str (pa_cons pe_str (pa_cons pe_str pa_nil)))))))))) (pe_lst (pa_cons pe_str (pa_cons pe_str (pa_cons pe_str (pa_cons pe_str (pa_cons pe_str (pa_cons pe_str (pa_cons pe_non (pa_cons pe_int (pa_cons (pe_tup (pa_cons pe_str pa_nil)) pa_nil)))))))))))) (pg_name (i := 2) scL.nd rfl (Or.inl rfl)) (pss_one (ps_if (pt_cmpR op_notBl (pe_call L.In.fn hIn (by rfl) L.In.g L.In.kp L.In.b .nil pass0 (pa_cons (pv 2) pa_nil)) pe_bl (nomark _)) (pss_one (ps_ret pe_bl)) pss_nil)))
      (C8.pss_cut (ps_for PassesOwn.never rfl (pi_list (pe_op op_cat (pv 3) (pe_lst (pa_cons pe_str (pa_cons pe_str pa_nil))))) (pg_name (i := 2) scL.nd rfl (Or.inl rfl)) (pss_one (ps_if (pt_cmpR op_notBl (pe_call L.In.fn hIn (by rfl) L.In.g L.In.kp L.In.b .nil pass0 (pa_cons (pv 2) pa_nil)) pe_bl (nomark _)) (pss_one (ps_ret pe_bl)) pss_nil)))
      (pss_one (ps_ret pe_bl)))))))))))))))), ?_⟩
    refine ⟨_, rfl, a, ns, rfl, hS, fun H1 d nm s1 hd ok ln => ?_⟩
    -- known
    refine ⟨d, .dK (kvN nm), hd, trivial, fun od => ?_⟩
    refine ⟨_, rfl, d, od, rfl, .inl ⟨kvN nm, upd_same, fun D hD => lc_it (walk_keys (kvs := kvN nm)) (fun i H2 => ColV D (upd H1 d (.frz od (.dK (kvN nm)))) H2 (((nm.map (·.1)).take i).map vS)) (ColV.start hD) (fun i H2 _ z => z.s _ _ upd_same) ?_ ?_⟩⟩
    · rintro i x H2 H3 hi z ⟨rfl, k, v, hk, rfl⟩
      obtain ⟨p, hp, ek, hp2⟩ := key_at hk
      rw [ek]
      refine ⟨rfl, _, rfl, ?_⟩
      rw [List.take_add_one, hp2, List.map_append]
      exact z.push hD same_rfl (by rw [List.length_map, List.length_take, List.length_map]; omega)
    rintro H2 z
    rw [show (kvN nm).length = (nm.map (·.1)).length by unfold kvN; rw [List.length_map, List.length_map], List.take_length] at z
    refine ⟨z.s _ _ upd_same, ?_⟩
    have s2 := unlock hd z.s
    have hd2 : upd H2 d (.dK (kvN nm)) d = some (.dK (kvN nm)) := upd_same
    have hK2 : upd H2 d (.dK (kvN nm)) D = some (.lst ((nm.map (·.1)).map vS)) := by
      rw [upd_ne (fun e => by rw [e, upd_same] at hD; cases hD)]
      exact z.at_
    generalize upd H2 d (.dK (kvN nm)) = H3 at s2 hd2 hK2 ⊢
    have s13 := s1.trans s2
    have kl : (nm.map (·.1)).length ≤ 3 := by rw [List.length_map]; exact ln
    refine ⟨_, rfl, a, ns, 0, 40, 95, rfl, s13.seq hS, by decide, by decide, by decide, by decide, fun ds H4 l hR s4 _ hl => ?_⟩
    have dl := hR.1
    have at_r : ∀ {j : Nat}, j < 40 → ∃ x, atI (ds.map V.int) ((j : Nat) : Int) = some (.int x) := fun {j} hj =>
      ⟨_, atI_of (k := j) (by rw [List.getElem?_map, List.getElem?_eq_getElem (show j < ds.length by omega)]; rfl)⟩
    have hd4 := s4 _ _ hd2
    have hK4 := s4 _ _ hK2
    have s14 := s13.trans s4
    refine ⟨fun σ' Ha => ∃ (t u : List Nat) (v2 v7 v8 v9 v10 : Option V), σ' = [some (.ref a), some (.ref d), v2, some (.ref D), some (.ref l), some (.str (S t)), some (.str (S u)), v7, v8, v9, v10, none, none, none] ∧ Same H4 Ha ∧ TxS nm t u ∧ t.length ≤ 200 ∧ u.length ≤ 200, ?_, ?_⟩
    · obtain ⟨x0, hx0⟩ := at_r (j := 0) (by decide)
      have f0 := fmod_in (x := x0) (b := 12) (by decide)
      obtain ⟨N, eN⟩ : ∃ N : Nat, x0.fmod 12 = (N : Int) := ⟨(x0.fmod 12).toNat, (Int.toNat_of_nonneg f0.1).symm⟩
      rw [eN] at f0
      refine ⟨_, rfl, l, _, _, _, rfl, rfl, SqL.of hl, hx0, _, _, rfl, rfl, (by show (12 : Int) ≠ 0; decide), _, rfl, by rw [eN]; omega, by rw [eN]; omega, ?_⟩
      rw [eN, Int.toNat_natCast]
      refine for_it (walk_range (lo := 0) (n := N)) (fun i σ' Ha => ∃ (t u : List Nat) (v2 v7 v8 v9 v10 : Option V), σ' = [some (.ref a), some (.ref d), v2, some (.ref D), some (.ref l), some (.str (S t)), some (.str (S u)), v7, v8, v9, v10, none, none, none] ∧ Same H4 Ha ∧ TxS nm t u ∧ t.length ≤ 15 * i ∧ u.length ≤ 15 * i)
        ⟨[], [], none, none, none, none, none, rfl, same_rfl, txs_nil nm, Nat.zero_le _, Nat.zero_le _⟩ (fun _ _ _ _ _ => trivial) ?_ ?_
      · rintro i x σ H5 H6 hi ⟨t, u, v2, v7, v8, v9, v10, rfl, s5, tx, tl, ul⟩ ⟨rfl, ex⟩
        have ex : x = V.int (i : Int) := ex.trans (by show V.int _ = _; rw [Int.zero_add])
        subst ex
        have hl6 := s5 _ _ hl
        obtain ⟨y2, hy2⟩ := at_r (j := 2 + 2 * i) (by omega)
        obtain ⟨y3, hy3⟩ := at_r (j := 3 + 2 * i) (by omega)
        have e2 : (2 : Int) + 2 * (i : Int) = ((2 + 2 * i : Nat) : Int) := by omega
        have e3 : (3 : Int) + 2 * (i : Int) = ((3 + 2 * i : Nat) : Int) := by omega
        have bi : intBits (i : Int) ≤ 10 := PySem.intBits_le_iff.mpr (by omega)
        have b2 : intBits (2 : Int) ≤ 2 := by decide
        refine ⟨_, rfl, _, rfl, _, _, rfl, rfl, (by show intBits 2 + intBits (i : Int) ≤ 134217728; omega), _, _, rfl, rfl, l, _, _, V.int y2, rfl, rfl, SqL.of hl6, (by rw [e2]; exact hy2), ?_⟩
        refine ⟨(by show 10 ≤ sizeLine; decide), fun p1 hp1 => ?_⟩
        have sp1 := same_upd (o := .lst (marksL.map vS)) hp1
        have hp1' : upd H6 p1 (.lst (marksL.map vS)) p1 = some (.lst (marksL.map vS)) := upd_same
        obtain ⟨j, hj⟩ : ∃ j : Nat, y3.fmod 10 = (j : Int) := ⟨(y3.fmod 10).toNat, by have := fmod_in (x := y3) (b := 10) (by decide); omega⟩
        have j10 := fmod_in (x := y3) (b := 10) (by decide)
        rw [hj] at j10
        have j10' : j < marksL.length := by show j < 10; omega
        refine ⟨_, rfl, _, rfl, _, _, rfl, rfl, (by show intBits 2 + intBits (i : Int) ≤ 134217728; omega), _, _, rfl, rfl, l, _, _, V.int y3, rfl, rfl, SqL.of (sp1 _ _ hl6), (by rw [e3]; exact hy3), _, _, rfl, rfl, (by show (10 : Int) ≠ 0; decide), p1, _, _, vS marksL[j], rfl, rfl, SqL.of hp1', (by rw [hj]; exact at_S2 j10'), ?_⟩
        have mk := List.getElem_mem j10'
        generalize marksL[j] = mark at mk ⊢
        refine ⟨(by show 3 ≤ sizeLine; decide), fun p2 hp2 => ?_⟩
        have sp2 := same_upd (o := .lst ((["x", "D", "y"].map lit).map vS)) hp2
        have hp2' : upd (upd H6 p1 (.lst (marksL.map vS))) p2 (.lst ((["x", "D", "y"].map lit).map vS)) p2 = some (.lst ((["x", "D", "y"].map lit).map vS)) := upd_same
        obtain ⟨j, hj⟩ : ∃ j : Nat, y2.fmod 3 = (j : Int) := ⟨(y2.fmod 3).toNat, by have := fmod_in (x := y2) (b := 3) (by decide); omega⟩
        have j3 := fmod_in (x := y2) (b := 3) (by decide)
        rw [hj] at j3
        have j3' : j < (["x", "D", "y"].map lit).length := by show j < 3; omega
        refine ⟨_, rfl, _, _, rfl, rfl, (by show (3 : Int) ≠ 0; decide), p2, _, _, vS (["x", "D", "y"].map lit)[j], rfl, rfl, SqL.of hp2', (by rw [hj]; exact at_S2 j3'), ?_⟩
        have w0 := pw_one nm _ (List.getElem_mem j3')
        generalize (["x", "D", "y"].map lit)[j] = word at w0 ⊢
        refine ⟨_, rfl, ?_⟩
        have s47 : Same H4 (upd (upd H6 p1 (.lst [V.str (Str.ofString " + "), V.str (Str.ofString "*"), V.str (Str.ofString "("), V.str (Str.ofString ")"), V.str (Str.ofString " "), V.str (Str.ofString "^2"), V.str (Str.ofString "7"), V.str (Str.ofString "-"), V.str (Str.ofString "/"), V.str (Str.ofString "D")])) p2 (.lst [V.str (Str.ofString "x"), V.str (Str.ofString "D"), V.str (Str.ofString "y")])) := s5.trans (sp1.trans sp2)
        generalize upd (upd H6 p1 (.lst [V.str (Str.ofString " + "), V.str (Str.ofString "*"), V.str (Str.ofString "("), V.str (Str.ofString ")"), V.str (Str.ofString " "), V.str (Str.ofString "^2"), V.str (Str.ofString "7"), V.str (Str.ofString "-"), V.str (Str.ofString "/"), V.str (Str.ofString "D")])) p2 (.lst [V.str (Str.ofString "x"), V.str (Str.ofString "D"), V.str (Str.ofString "y")]) = H7 at s47 ⊢
        have hd7 := s47 _ _ hd4
        have hK7 := s47 _ _ hK4
        refine ⟨fun σ' Ha => ∃ (w m : List Nat), σ' = [some (.ref a), some (.ref d), some (.str (S w)), some (.ref D), some (.ref l), some (.str (S t)), some (.str (S u)), some (.int (i : Int)), some (.int y2), some (.str (S mark)), some (.str (S m)), none, none, none] ∧ Same H7 Ha ∧ PwOk nm w m, ?_, ?_⟩
        · refine ⟨_, rfl, _, _, rfl, rfl, (by show (3 : Int) ≠ 0; decide), rfl, _, rfl, ite2 (fun c => ?_) (fun c => ?_)⟩
          · refine ⟨_, rfl, D, _, rfl, .inl (SqL.of hK7), _, _, rfl, rfl, _, rfl, ?_⟩
            rw [List.length_map]
            by_cases hn : 0 < (nm.map (·.1)).length
            · rw [show decide ((0 : Int) < (((nm.map (·.1)).length : Nat) : Int)) = true from decide_eq_true (by omega)]
              obtain ⟨j, hj⟩ : ∃ j : Nat, y2.fmod (((nm.map (·.1)).length : Nat) : Int) = (j : Int) := ⟨(y2.fmod (((nm.map (·.1)).length : Nat) : Int)).toNat, by have := fmod_in (x := y2) (b := (((nm.map (·.1)).length : Nat) : Int)) (by omega); omega⟩
              have jn := fmod_in (x := y2) (b := (((nm.map (·.1)).length : Nat) : Int)) (by omega)
              rw [hj] at jn
              have jl : j < (nm.map (·.1)).length := by omega
              have em := List.getElem_mem jl
              obtain ⟨p, hp, ep⟩ := List.mem_map.mp em
              obtain ⟨v, ev, lv, pw⟩ := pw_known ok hp
              refine iteT ⟨_, rfl, _, rfl, _, rfl, D, _, rfl, .inl (SqL.of hK7), _, _, rfl, rfl, (by rw [List.length_map]; show (((nm.map (·.1)).length : Nat) : Int) ≠ 0; omega), D, _, _, vS (nm.map (·.1))[j], rfl, rfl, SqL.of hK7, (by rw [List.length_map, hj]; exact at_S2 jl), ?_⟩
              rw [← ep]
              refine ⟨_, rfl, _, rfl, d, vS v, rfl, dget_nm (.inl hd7) ev, Str.ofString "(", S v, rfl, rfl, ?_, Str.ofString "(" ++ S v, Str.ofString ")", rfl, rfl, ?_, ?_⟩
              · rw [show Str.ofString "(" = S [40] by decide +kernel, S_len, S_len]
                exact Nat.le_trans (show 1 + v.length ≤ 8 by omega) (by decide)
              · rw [show Str.ofString "(" = S [40] by decide +kernel, show Str.ofString ")" = S [41] by decide +kernel, S_cat, S_len, S_len]
                exact Nat.le_trans (show v.length + 1 + 1 ≤ 9 by omega) (by decide)
              · rw [show Str.ofString "(" = S [40] by decide +kernel, show Str.ofString ")" = S [41] by decide +kernel, S_cat, S_cat]
                exact ⟨p.1, _, rfl, same_rfl, pw⟩
            · rw [show decide ((0 : Int) < (((nm.map (·.1)).length : Nat) : Int)) = false from decide_eq_false (by omega)]
              exact iteF ⟨word, word, rfl, same_rfl, w0⟩
          · exact iteF ⟨word, word, rfl, same_rfl, w0⟩
        rintro σ' H8 ⟨w, m, rfl, s8, pw⟩
        obtain ⟨lw, lm⟩ := pw.len
        have lk := (marks_ok mark mk).2.2
        have sz : ∀ {x y : List Nat}, x.length ≤ 1000 → y.length ≤ 1000 → (S x).length + (S y).length ≤ sizeLine := fun {x y} h1 h2 => by
          rw [S_len, S_len]
          exact Nat.le_trans (show _ ≤ 2000 by omega) (by decide)
        refine ⟨_, rfl, _, rfl, S t, S w, rfl, rfl, sz (by omega) (by omega), _, rfl, S t ++ S w, S mark, rfl, rfl, (by rw [S_cat]; exact sz (by rw [List.length_append]; omega) (by omega)), ?_⟩
        refine ⟨_, rfl, _, rfl, S u, S m, rfl, rfl, sz (by omega) (by omega), _, rfl, S u ++ S m, S mark, rfl, rfl, (by rw [S_cat]; exact sz (by rw [List.length_append]; omega) (by omega)), ?_⟩
        rw [S_cat, S_cat, S_cat, S_cat]
        refine ⟨t ++ w ++ mark, u ++ m ++ mark, _, _, _, _, _, rfl, s47.trans s8, txs_pw tx pw mk, ?_, ?_⟩
        · rw [List.length_append, List.length_append]
          omega
        · rw [List.length_append, List.length_append]
          omega
      · rintro σ H5 ⟨t, u, v2, v7, v8, v9, v10, rfl, s5, tx, tl, ul⟩
        exact ⟨t, u, v2, v7, v8, v9, v10, rfl, s5, tx, by omega, by omega⟩
    rintro σ' H5 ⟨t, u, v2, v7, v8, v9, v10, rfl, s5, tx, tl, ul⟩
    have s15 := s14.trans s5
    have hd5 := s5 _ _ hd4
    have hK5 := s5 _ _ hK4
    have rok := rows_ok ok
    -- kept
    refine ⟨_, rfl, D, rfl, ⟨_, SqL.of hK5⟩, fun D2 hD2 => lc_list (K := K) (a := D) (xs := (nm.map (·.1)).map vS) (fun i H6 => ∃ vs, ColV D2 H5 H6 vs ∧ PL H6 vs (((nm.map (·.1)).take i).map (rowN nm))) ⟨[], ColV.start hD2, trivial⟩ (fun i H6 _ ⟨vs, z, _⟩ => SqL.of (z.s _ _ hK5)) ?_ ?_⟩
    · rintro i x H6 hx ⟨vs, z, zp⟩
      rw [List.getElem?_map] at hx
      cases e : (nm.map (·.1))[i]? with
      | none => rw [e] at hx; cases hx
      | some w =>
        rw [e] at hx
        have hx := (Option.some.inj hx).symm
        subst hx
        obtain ⟨p, hp, rfl⟩ := List.mem_map.mp (List.mem_of_getElem? e)
        obtain ⟨v, ev, _⟩ := look_mem hp
        refine ⟨rfl, _, rfl, _, rfl, _, rfl, d, vS v, rfl, dget_nm (.inl (z.s _ _ hd5)) ev, (by show 2 ≤ sizeLine; decide), fun q hq => ?_⟩
        have sq := same_upd (o := .tup [vS p.1, vS v]) hq
        have hi := (List.getElem?_eq_some_iff.mp e).1
        have zl := zp.len
        rw [List.length_map, List.length_take] at zl
        obtain ⟨acc, f1, f2, f3⟩ := z.push (v := V.ref q) hD2 sq (by omega)
        refine ⟨acc, f1, f2, vs ++ [V.ref q], f3, ?_⟩
        rw [List.take_add_one, e, List.map_append]
        have : PL (upd H6 q (.tup [vS p.1, vS v])) (vs ++ [V.ref q]) (((nm.map (·.1)).take i).map (rowN nm) ++ [rowN nm p.1]) := PL.snoc (by unfold rowN; rw [ev]; exact upd_same) (zp.same sq)
        exact PL.up f1 this
    rintro H6 ⟨vs6, z6, p6⟩
    rw [List.length_map, List.take_length] at p6
    have s56 := z6.s
    have hd6 := s56 _ _ hd5
    have hK6 := s56 _ _ hK5
    have hk6 := z6.at_
    -- told
    refine ⟨_, rfl, _, rfl, d, nm, t, rfl, by omega, hd6, ok.v100, (fun z => by rw [tx.b] at z; cases z), (fun _ h => ?_), fun _ _ H7 s7 => ?_⟩
    · rw [tx.e] at h
      omega
    rw [tx.e]
    refine ⟨_, rfl, _, _, _, _, true, rfl, ClsV.ty "str", .base (.str _), kit_ty (by decide +kernel), true, rfl, ?_⟩
    refine iteF ⟨_, rfl, _, rfl, rfl, _, rfl, ?_⟩
    rw [show (!decide (V.str (S u) = V.str (S u))) = false by simp]
    refine iteF ?_
    have hd7 := s7 _ _ hd6
    have hK7 := s7 _ _ hK6
    have hk7 := s7 _ _ hk6
    have p7 := p6.same s7
    -- the names stand as they stood
    refine ⟨d, .dK (kvN nm), hd7, trivial, fun od2 => ?_⟩
    refine ⟨_, rfl, d, od2, rfl, .inl ⟨kvN nm, upd_same, fun D3 hD3 => lc_it (walk_keys (kvs := kvN nm)) (fun i H6 => ∃ vs, ColV D3 (upd H7 d (.frz od2 (.dK (kvN nm)))) H6 vs ∧ PL H6 vs (((nm.map (·.1)).take i).map (rowN nm))) ⟨[], ColV.start hD3, trivial⟩ (fun i H2 _ ⟨vs, z, _⟩ => z.s _ _ upd_same) ?_ ?_⟩⟩
    · rintro i x H6' H6 hi ⟨vs, z, zp⟩ ⟨rfl, k, v, hk, rfl⟩
      obtain ⟨p, hp, ek, hp2⟩ := key_at hk
      rw [ek]
      obtain ⟨v, ev, _⟩ := look_mem (List.mem_of_getElem? hp)
      refine ⟨rfl, _, rfl, _, rfl, _, rfl, d, vS v, rfl, dget_nm (.inr ⟨od2, z.s _ _ upd_same⟩) ev, (by show 2 ≤ sizeLine; decide), fun q hq => ?_⟩
      have sq := same_upd (o := .tup [vS p.1, vS v]) hq
      have zl := zp.len
      rw [List.length_map, List.length_take] at zl
      obtain ⟨acc, f1, f2, f3⟩ := z.push (v := V.ref q) hD3 sq (by omega)
      refine ⟨acc, f1, f2, vs ++ [V.ref q], f3, ?_⟩
      rw [List.take_add_one, hp2, List.map_append]
      have : PL (upd H6 q (.tup [vS p.1, vS v])) (vs ++ [V.ref q]) (((nm.map (·.1)).take i).map (rowN nm) ++ [rowN nm p.1]) := PL.snoc (by unfold rowN; rw [ev]; exact upd_same) (zp.same sq)
      exact PL.up f1 this
    rintro H8 ⟨vs8, z8, p8⟩
    rw [show (kvN nm).length = (nm.map (·.1)).length by unfold kvN; rw [List.length_map, List.length_map], List.take_length] at p8
    have hf8 := z8.s _ _ upd_same
    refine ⟨hf8, ?_⟩
    have s78 := unlock hd7 z8.s
    have hd8 : upd H8 d (.dK (kvN nm)) d = some (.dK (kvN nm)) := upd_same
    have hK8 := s78 _ _ hK7
    have hk8 := s78 _ _ hk7
    have h8 : upd H8 d (.dK (kvN nm)) D3 = some (.lst vs8) := by
      rw [upd_ne (fun e => by rw [e, upd_same] at hD3; cases hD3)]
      exact z8.at_
    have p8' : PL (upd H8 d (.dK (kvN nm))) vs8 _ := p8.up2 hf8
    have p7' := p7.same s78
    generalize upd H8 d (.dK (kvN nm)) = H9 at s78 hd8 hK8 hk8 h8 p8' p7' ⊢
    refine ⟨_, rfl, neD_rows h8 p8' hk8 p7' rok ⟨_, rfl, iteF ?_⟩⟩
    clear p8' p7' p8 p7 p6
    -- strange
    have s19 := (s15.trans s56).trans (s7.trans s78)
    refine ⟨_, rfl, a, ns, 5, 8, 95, rfl, s19.seq hS, by decide, by decide, by decide, by decide, fun ds2 H10 r2 hR2 s10 _ hr2 => ?_⟩
    refine ⟨r2, ds2, 0, rfl, hr2, by rw [hR2.1]; decide, by decide, fun H11 w s11 hw => ?_⟩
    have wl := hw.b
    have wa := hw.a
    have s911 := s10.trans s11
    have hd11 := s911 _ _ hd8
    have hK11 := s911 _ _ hK8
    have v100 := ok.v100
    have sz : ∀ {x y : List Nat}, x.length ≤ 3000 → y.length ≤ 3000 → (S x).length + (S y).length ≤ sizeLine := fun {x y} h1 h2 => by
      rw [S_len, S_len]
      exact Nat.le_trans (show _ ≤ 6000 by omega) (by decide)
    have es : Str.ofString "*x" = S [42, 120] := by decide +kernel
    have e7 : Str.ofString "7" = S [55] := by decide +kernel
    have ls7 : (Str.ofString "7").length ≤ 16 := by decide +kernel
    have mul7 : ∀ n : Nat, 1 < n → Txt.mul (Str.ofString "7") ((n : Nat) : Int) = S (List.replicate n 55) := fun n h => by rw [e7]; exact mul_S 55 n h
    refine ⟨fun σ' Ha => σ' = [some (.ref a), some (.ref d), v2, some (.ref D), some (.ref l), some (.str (S t)), some (.str (S u)), v7, v8, v9, v10, some (.ref D2), some (.str (S u)), some (.str (S w))] ∧ Same H11 Ha, ?_, ?_⟩
    · refine ⟨_, rfl, _, rfl, D, _, rfl, .inl (SqL.of hK11), rfl, flat_S _, _, rfl, ?_⟩
      rw [if_pos rfl, inV_S]
      by_cases hin : w ∈ nm.map (·.1)
      · rw [decide_eq_true hin]
        exact iteF ⟨rfl, same_rfl⟩
      · rw [decide_eq_false hin]
        have hb : badP nm w = true := by
          unfold badP
          rw [look_not hin, decide_eq_true (by omega : 1 < w.length)]
          rfl
        have wn : w ≠ [] := fun z => by rw [z] at wa; exact absurd wa (by decide)
        refine iteT ?_
        refine ⟨_, rfl, _, rfl, _, rfl, S t, S w, rfl, rfl, sz (by omega) (by omega), S t ++ S w, Str.ofString "*x", rfl, rfl, (by rw [S_cat, es]; exact sz (by rw [List.length_append]; omega) (by show 2 ≤ 3000; decide)), d, nm, t ++ w ++ [42, 120], congrArg (fun z => [V.ref d, V.str z]) (by rw [es, S_cat, S_cat]), (by rw [List.length_append, List.length_append]; show t.length + w.length + 2 ≤ 5000; omega), hd11, v100, fun H12 s12 => ?_⟩
        rw [show reason nm (t ++ w ++ [42, 120]) = lit "name" by unfold reason; rw [if_pos (bad_word tx.c hw.s wn hb (.inr ⟨120, rfl⟩))]]
        refine ⟨rfl, _, rfl, ?_⟩
        rw [show (!decide (V.str (S (lit "name")) = V.str (Str.ofString "name"))) = false by simp [lit_S]]
        refine iteF ?_
        refine ⟨_, rfl, Str.ofString "7", 2200, rfl, rfl, ls7, by decide, by decide, _, rfl, Txt.mul (Str.ofString "7") 2200, S w, rfl, rfl, ?_, d, nm, List.replicate 2200 55 ++ w ++ [], congrArg (fun z => [V.ref d, V.str z]) (by rw [show (2200 : Int) = ((2200 : Nat) : Int) from rfl, mul7 2200 (by decide), S_cat, List.append_nil]), (by rw [List.append_nil, List.length_append, List.length_replicate]; omega), s12 _ _ hd11, v100, fun H13 s13 => ?_⟩
        · rw [show (2200 : Int) = ((2200 : Nat) : Int) from rfl, mul7 2200 (by decide)]
          exact sz (by rw [List.length_replicate]; decide) (by omega)
        rw [show reason nm (List.replicate 2200 55 ++ w ++ []) = lit "name" by unfold reason; rw [if_pos (bad_word (txs_rep nm 2200 (by decide)).c hw.s wn hb (.inl rfl))]]
        refine ⟨rfl, _, rfl, ?_⟩
        rw [show (!decide (V.str (S (lit "name")) = V.str (Str.ofString "name"))) = false by simp [lit_S]]
        exact iteF ⟨rfl, s12.trans s13⟩
    rintro σ' H12 ⟨rfl, s12⟩
    have hd12 := s12 _ _ hd11
    have hK12 := s12 _ _ hK11
    have t7 := fun n (h : 0 < n) => txs_rep nm n h
    -- long
    refine ⟨_, rfl, Str.ofString "7", 2001, rfl, rfl, ls7, by decide, by decide, d, nm, List.replicate 2001 55, congrArg (fun z => [V.ref d, V.str z]) (by rw [show (2001 : Int) = ((2001 : Nat) : Int) from rfl, mul7 2001 (by decide)]), (by rw [List.length_replicate]; decide), hd12, v100, fun H13 s13 => ?_⟩
    rw [show reason nm (List.replicate 2001 55) = lit "long" by unfold reason; rw [if_neg (by rw [(t7 2001 (by decide)).b]; decide), if_pos (by rw [(t7 2001 (by decide)).e, List.length_replicate]; decide)]]
    refine ⟨rfl, _, rfl, ?_⟩
    rw [show (!decide (V.str (S (lit "long")) = V.str (Str.ofString "long"))) = false by simp [lit_S]]
    refine iteF ?_
    refine ⟨_, rfl, Str.ofString "7", 2000, rfl, rfl, ls7, by decide, by decide, d, nm, List.replicate 2000 55, congrArg (fun z => [V.ref d, V.str z]) (by rw [show (2000 : Int) = ((2000 : Nat) : Int) from rfl, mul7 2000 (by decide)]), (by rw [List.length_replicate]; decide), s13 _ _ hd12, v100, (fun z => by rw [(t7 2000 (by decide)).b] at z; cases z), (fun _ h => ?_), fun _ _ H14 s14 => ?_⟩
    · rw [(t7 2000 (by decide)).e, List.length_replicate] at h
      exact absurd h (by decide)
    rw [(t7 2000 (by decide)).e]
    refine ⟨Str.ofString "7", 2000, rfl, rfl, ls7, by decide, by decide, rfl, _, rfl, ?_⟩
    rw [show Txt.mul (Str.ofString "7") (2000 : Int) = S (List.replicate 2000 55) by rw [show (2000 : Int) = ((2000 : Nat) : Int) from rfl, mul7 2000 (by decide)]]
    rw [show (!decide (V.str (S (List.replicate 2000 55)) = V.str (S (List.replicate 2000 55)))) = false by simp]
    refine iteF ?_
    have hK14 := s14 _ _ (s13 _ _ hK12)
    -- no names
    refine ⟨fun σ' Ha => ∃ v2 : Option V, σ' = [some (.ref a), some (.ref d), v2, some (.ref D), some (.ref l), some (.str (S t)), some (.str (S u)), v7, v8, v9, v10, some (.ref D2), some (.str (S u)), some (.str (S w))] ∧ Same H14 Ha, ?_, ?_⟩
    · refine ⟨(by show 9 ≤ sizeLine; decide), fun p1 hp1 => ⟨(by show 1 ≤ sizeLine; decide), fun q hq => ⟨(by show 9 ≤ sizeLine; decide), fun p2 hp2 => ?_⟩⟩⟩
      have sp1 := same_upd (o := .lst (cnts.map vS)) hp1
      have sq := same_upd (o := .tup [vS (lit "ab")]) hq
      have sp2 := same_upd (o := .lst (sixL.map vS ++ [V.non, V.int 3, V.ref q])) hp2
      have e1 := (sq.trans sp2) p1 _ upd_same
      have eq' := sp2 q _ upd_same
      refine ⟨p1, p2, cnts.map vS, sixL.map vS ++ [V.non, V.int 3, V.ref q], rfl, rfl, e1, upd_same, (by show 18 ≤ sizeLine; decide), fun p3 hp3 => ?_⟩
      have sp3 := same_upd (o := .lst (cnts.map vS ++ (sixL.map vS ++ [V.non, V.int 3, V.ref q]))) hp3
      have s3 : Same H14 _ := sp1.trans (sq.trans (sp2.trans sp3))
      have eq3 := sp3 _ _ eq'
      refine ⟨p3, rfl, ⟨_, SqL.of upd_same⟩, for_it (walk_list (K := K) (a := p3) (xs := cnts.map vS ++ (sixL.map vS ++ [V.non, V.int 3, V.ref q]))) (fun i σ' Ha => ∃ v2 : Option V, σ' = [some (.ref a), some (.ref d), v2, some (.ref D), some (.ref l), some (.str (S t)), some (.str (S u)), v7, v8, v9, v10, some (.ref D2), some (.str (S u)), some (.str (S w))] ∧ Same (upd _ p3 (.lst (cnts.map vS ++ (sixL.map vS ++ [V.non, V.int 3, V.ref q])))) Ha) ⟨_, rfl, same_rfl⟩ (fun i σ' Ha _ ⟨_, _, z⟩ => SqL.of (z _ _ upd_same)) ?_ ?_⟩
      · rintro i x σ' H15 H16 hi ⟨v2, rfl, z⟩ ⟨rfl, hx⟩
        have hm := List.mem_of_getElem? hx
        have hx3 : (∃ m ∈ cnts ++ sixL, x = vS m) ∨ x = .non ∨ x = .int 3 ∨ x = .ref q := by
          rcases List.mem_append.mp hm with h | h
          · obtain ⟨m, h', rfl⟩ := List.mem_map.mp h
            exact .inl ⟨m, List.mem_append_left _ h', rfl⟩
          rcases List.mem_append.mp h with h | h
          · obtain ⟨m, h', rfl⟩ := List.mem_map.mp h
            exact .inl ⟨m, List.mem_append_right _ h', rfl⟩
          · simp only [List.mem_cons, List.not_mem_nil, or_false] at h
            exact .inr h
        rcases hx3 with ⟨m, hm', rfl⟩ | rfl | rfl | rfl
        · obtain ⟨m1, m2⟩ := six_bad m hm'
          refine ⟨_, rfl, .inl ⟨m, rfl, by omega, fun H' s' => ?_⟩⟩
          rw [m1]
          refine ⟨false, false, rfl, rfl, _, rfl, ?_⟩
          exact iteF ⟨_, rfl, z.trans s'⟩
        · refine ⟨_, rfl, .inr ⟨.non, _, rfl, .base .non, kit_ty (by decide +kernel), false, false, rfl, rfl, _, rfl, ?_⟩⟩
          exact iteF ⟨_, rfl, z⟩
        · refine ⟨_, rfl, .inr ⟨.int 3, _, rfl, .base (.int 3), kit_ty (by decide +kernel), false, false, rfl, rfl, _, rfl, ?_⟩⟩
          exact iteF ⟨_, rfl, z⟩
        · refine ⟨_, rfl, .inr ⟨.ref q, _, rfl, .base (.tup (z _ _ eq3)), kit_ty (by decide +kernel), false, false, rfl, rfl, _, rfl, ?_⟩⟩
          exact iteF ⟨_, rfl, z⟩
      · rintro σ' Ha ⟨v2, rfl, z⟩
        exact ⟨v2, rfl, s3.trans z⟩
    rintro σ' H15 ⟨v2, rfl, s15'⟩
    have hK15 := s15' _ _ hK14
    -- names
    refine ⟨fun σ' Ha => ∃ v2 : Option V, σ' = [some (.ref a), some (.ref d), v2, some (.ref D), some (.ref l), some (.str (S t)), some (.str (S u)), v7, v8, v9, v10, some (.ref D2), some (.str (S u)), some (.str (S w))] ∧ Same H15 Ha, ?_, ?_⟩
    · refine ⟨_, rfl, (by show 2 ≤ sizeLine; decide), fun p1 hp1 => ?_⟩
      have sp1 := same_upd (o := .lst (twoL.map vS)) hp1
      refine ⟨D, p1, (nm.map (·.1)).map vS, twoL.map vS, rfl, rfl, sp1 _ _ hK15, upd_same, (by rw [List.length_map]; exact Nat.le_trans (show _ ≤ 5 by show (nm.map (·.1)).length + 2 ≤ 5; omega) (by decide)), fun p3 hp3 => ?_⟩
      have sp3 := same_upd (o := .lst ((nm.map (·.1)).map vS ++ twoL.map vS)) hp3
      have s3 : Same H15 _ := sp1.trans sp3
      refine ⟨p3, rfl, ⟨_, SqL.of upd_same⟩, for_it (walk_list (K := K) (a := p3) (xs := (nm.map (·.1)).map vS ++ twoL.map vS)) (fun i σ' Ha => ∃ v2 : Option V, σ' = [some (.ref a), some (.ref d), v2, some (.ref D), some (.ref l), some (.str (S t)), some (.str (S u)), v7, v8, v9, v10, some (.ref D2), some (.str (S u)), some (.str (S w))] ∧ Same (upd _ p3 (.lst ((nm.map (·.1)).map vS ++ twoL.map vS))) Ha) ⟨_, rfl, same_rfl⟩ (fun i σ' Ha _ ⟨_, _, z⟩ => SqL.of (z _ _ upd_same)) ?_ ?_⟩
      · rintro i x σ' H16 H17 hi ⟨v2, rfl, z⟩ ⟨rfl, hx⟩
        have hm := List.mem_of_getElem? hx
        rw [← List.map_append] at hm
        obtain ⟨m, hm', rfl⟩ := List.mem_map.mp hm
        have hm2 : isNm m = true ∧ m.length ≤ 100 := by
          rcases List.mem_append.mp hm' with h | h
          · obtain ⟨p, hp, rfl⟩ := List.mem_map.mp h
            exact ⟨isNm_known ok hp, Nat.le_trans (ok.w p hp).1.b (by decide)⟩
          · exact two_ok m h
        refine ⟨_, rfl, .inl ⟨m, rfl, by omega, fun H' s' => ?_⟩⟩
        rw [hm2.1]
        refine ⟨true, true, rfl, rfl, _, rfl, ?_⟩
        exact iteF ⟨_, rfl, z.trans s'⟩
      · rintro σ' Ha ⟨v2, rfl, z⟩
        exact ⟨v2, rfl, s3.trans z⟩
    rintro σ' H16 ⟨v2, rfl, s16⟩
    exact kq _

end
end Ind

set_option Elab.async false
set_option linter.all false
set_option maxRecDepth 100000
set_option maxHeartbeats 4000000
namespace Ind
open PySem PySem.Spec PyProof.Rows L2
open Builtin.Int (intBits)
/-! ### the end of a law's row, where the base is known to let a long division run -/
section
variable {K L : PySem.W.Frag} {h base : Heap}
theorem look_app (K L : PySem.W.Frag) (a : Addr) : (K ++ L).lookup a = (K.lookup a).or (L.lookup a) := List.lookup_append
theorem ext_in (X : K.In h) (hL : ∀ p ∈ L, h.get? p.1 = some p.2) : PySem.W.Frag.In (K ++ L) h := fun a o e => by
  rw [look_app] at e
  cases q : K.lookup a with
  | some u =>
    rw [q] at e
    have e1 : u = o := Option.some.inj e
    exact X a o (e1 ▸ q)
  | none =>
    rw [q] at e
    have e2 : L.lookup a = some o := e
    obtain ⟨l1, l2, e3, _⟩ := List.lookup_eq_some_iff.mp e2
    exact hL (a, o) (by rw [e3]; simp)
theorem ext_at (X : K.In h) (hL : ∀ p ∈ L, h.get? p.1 = some p.2) (B : PySem.W.Frag.In (K ++ L) base) {a : Addr} {o : Obj} (hp : (a, o) ∈ L) : base.get? a = some o := by
  cases q : List.lookup a (K ++ L) with
  | none =>
    rw [look_app] at q
    have q2 : L.lookup a = none := by
      cases z : K.lookup a with
      | some u => rw [z] at q; cases q
      | none => rw [z] at q; exact q
    have := List.lookup_eq_none_iff.mp q2 (a, o) hp
    simp at this
  | some u =>
    have h1 : h.get? a = some u := ext_in X hL a u q
    have h2 := hL (a, o) hp
    rw [h1] at h2
    cases h2
    exact B a o q
theorem app_in (B : PySem.W.Frag.In (K ++ L) base) : K.In base := fun a o e => B a o (by rw [look_app, e]; rfl)
end
/-- the objects that a long division asks for -/
structure Seen (h : Heap) (L : PySem.W.Frag) : Prop where
  at_ : ∀ p ∈ L, h.get? p.1 = some p.2
  no : ∀ p ∈ L, p.2.cls ≠ .type "list" ∨ ∃ es ep, p.2.data = .dict es ep
  far : ∀ base : Heap, (∀ a o, (a, o) ∈ L → base.get? a = some o) → base.NoSeer
theorem seen_of {h : Heap} (x : h.NoSeer) : ∃ L, Seen h L := by
  obtain ⟨⟨m1, ⟨o1, e1, p1, g1, d1, r1⟩, s1, s2⟩, ⟨m2, ⟨o2, e2, p2, g2, d2, r2⟩, s3⟩, ⟨m3, ⟨o3, e3, p3, g3, d3, r3⟩, s4⟩, ⟨m4, bm, ob, ⟨o4, e4, p4, g4, d4, r4⟩, s5, g5, c5, s6⟩⟩ := x
  refine ⟨[(cStatics, o1), (sysModules, o2), (builtinsNs, o3), (mainGlobals, o4), (bm, ob)], ⟨fun p hp => ?_, fun p hp => ?_, fun base k => ?_⟩⟩
  · simp only [List.mem_cons, List.not_mem_nil, or_false] at hp
    rcases hp with rfl | rfl | rfl | rfl | rfl <;> assumption
  · simp only [List.mem_cons, List.not_mem_nil, or_false] at hp
    rcases hp with rfl | rfl | rfl | rfl | rfl
    · exact .inr ⟨_, _, d1⟩
    · exact .inr ⟨_, _, d2⟩
    · exact .inr ⟨_, _, d3⟩
    · exact .inr ⟨_, _, d4⟩
    · exact .inl (by show ob.cls ≠ _; rw [c5]; intro z; exact absurd (Value.type.inj z) (by decide))
  · exact ⟨⟨m1, ⟨o1, e1, p1, k _ _ (by simp), d1, r1⟩, s1, s2⟩, ⟨m2, ⟨o2, e2, p2, k _ _ (by simp), d2, r2⟩, s3⟩, ⟨m3, ⟨o3, e3, p3, k _ _ (by simp), d3, r3⟩, s4⟩, ⟨m4, bm, ob, ⟨o4, e4, p4, k _ _ (by simp), d4, r4⟩, s5, k _ _ (by simp), c5, s6⟩⟩
theorem sql_app {K L : PySem.W.Frag} {h : Heap} (S : Seen h L) {H : Hp} {a : Addr} {xs : List V} (q : SqL (K ++ L) H a xs) : SqL K H a xs := by
  rcases q with q | ⟨o, its, n, lk, c, d, dt, r⟩
  · exact .inl q
  · rw [look_app] at lk
    cases z : K.lookup a with
    | some u =>
      rw [z] at lk
      cases lk
      exact .inr ⟨o, its, n, z, c, d, dt, r⟩
    | none =>
      rw [z] at lk
      have lk2 : L.lookup a = some o := lk
      obtain ⟨l1, l2, e3, _⟩ := List.lookup_eq_some_iff.mp lk2
      rcases S.no (a, o) (by rw [e3]; simp) with w | ⟨es, ep, w⟩
      · exact absurd c w
      · rw [show o.data = _ from w] at dt
        cases dt
/-- a def's promise over a larger written part -/
theorem lift_fn {P : Program} {w : World} {K K' : PySem.W.Frag} {mg : Str → Option Value} {base : Heap} {CX : CXT} {k : Nat} {f : Addr} {fd : FuncData} {ps : List Str} {sp : Sp} (kin : K.In base) (F : FnOk P w K mg base CX k f fd ps sp) : FnOk P w K' mg base CX k f fd ps sp :=
  ⟨F.len, fun A outer s H args us vs Q E hr e0 => F.run A outer s H args us vs Q E hr ⟨e0.frames, ⟨kin, e0.mod.glob, e0.mod.blt, e0.mod.nolimit⟩, e0.bs, e0.bsz, e0.funs, e0.frf, e0.hok, e0.bare⟩⟩
theorem walk_far {l : PySem.W.OpenLaw} {n k : Nat} {q : Program} {loose : List Str} {XP : (Str → Option Value) → Heap → Prop} {YP : World → Heap → Prop} {d : DefRec} {K : Params → PySem.W.Frag} {sp : World → Sp} {x : Str}
    (hn : l.most = some n) (hn2 : n ≤ sizeLine) (hdf : d.params.defaults = []) (hr : Room k callerA) (hi : importsNone q = true)
    (hY : ∀ (w : World) (h : Heap), YP w h → (K w.params).In h)
    (F : ∀ (w : World) (mg : Str → Option Value) (fa : Addr) (h : Heap), (K w.params).In h → h.Ns mainGlobals mg → mg d.name = some (.ref fa) →
      ∃ fd : FuncData, (∀ (s : Shared) (u : Value), BindsTo s fd ⟨[u], []⟩ [(x, u)]) ∧
        ∀ base : Heap, (K w.params).In base → base.Ns mainGlobals mg → base.NoSeer → FnOk l.prog w (K w.params) mg base CX0 k fa fd [x] (sp w))
    (hsp : ∀ (w : World) (H : Hp) (a : Addr) (ns : List Int), ns.length ≤ n → (∀ z ∈ ns, intBits z ≤ 1048576) → SqL (K w.params) H a (ns.map V.int) → sp w [.ref a] H (fun v _ => v = .bl true) fun _ _ _ => False) :
    PySem.W.WalkO q loose XP YP l.row.toRowW d [] (fun f vs => PySem.call f vs) := by
  refine Att.attach_callB hn hdf fun w s₀ s₁ mg mb fa o pm cd doc a vs ns G Y ho hd hcd hmg hobj hints hlen hbits hg => ?_
  have KX := hY w _ Y
  obtain ⟨L, S⟩ := seen_of (G.T.seer hi)
  obtain ⟨fd, hb, hF⟩ := F w mg fa _ KX G.T.g hmg
  refine law_call (K := K w.params ++ L) (CX := CX0) (ext_in KX S.at_) G.T.g G.T.b G.T.builtins G.T.nolimit hg hobj hints (Nat.le_trans hlen hn2) hr (fun base B g => lift_fn (app_in B) (hF base (app_in B) g (S.far base fun a o hp => ext_at KX S.at_ B hp))) hb (fun H _ hS => hsp w H a ns hlen hbits (sql_app S hS)) fun _ _ _ z => z
end Ind

set_option Elab.async false
set_option linter.all false
set_option maxRecDepth 100000
set_option maxHeartbeats 4000000
namespace Ind
open PySem PySem.Spec PyProof.Rows L2 SX
def KeysAre : List DictEntry → List (List Nat) → Prop
  | [], [] => True
  | e :: es, k :: ks => (∃ t, e.key = .str (S k) t) ∧ KeysAre es ks
  | _, _ => False
theorem keys_find (l : List Nat) : ∀ {es : List DictEntry} {ks : List (List Nat)}, KeysAre es ks → (es.find? (·.key.isStr (S l))).isSome = decide (l ∈ ks) ∧ es.any (·.refKey) = false
  | [], [], _ => ⟨rfl, rfl⟩
  | e :: es, k :: ks, ⟨⟨t, ek⟩, h⟩ => by
    obtain ⟨i1, i2⟩ := keys_find l h
    have e1 : e.key.isStr (S l) = decide (k = l) := by
      rw [ek]
      show (S k == S l) = _
      exact S_beq_eq
    have e2 : e.refKey = false := by
      unfold DictEntry.refKey
      rw [ek]
    refine ⟨?_, by rw [List.any_cons, e2, i2]; rfl⟩
    by_cases c : k = l
    · rw [List.find?_cons_of_pos (by rw [e1, decide_eq_true c])]
      rw [decide_eq_true (by rw [c]; exact List.mem_cons_self ..)]
      rfl
    · rw [List.find?_cons_of_neg (by rw [e1, decide_eq_false c]; decide), i1]
      by_cases c2 : l ∈ ks
      · rw [decide_eq_true c2, decide_eq_true (List.mem_cons_of_mem _ c2)]
      · rw [decide_eq_false c2, decide_eq_false fun z => by
          rcases List.mem_cons.mp z with z | z
          · exact c z.symm
          · exact c2 z]
theorem ns_cnts {K : PySem.W.Frag} {d : Addr} {c : Value} {dd : Option Addr} {es : Array DictEntry} {n : Nat} {sl : Array (Option Value)} {ks : List (List Nat)} (h : K.lookup d = some ⟨c, dd, .dict es n, sl⟩) (hk : KeysAre es.toList ks) (l : List Nat) : ∃ r, PySem.W.nsIn K d (S l) = some r ∧ r.isSome = decide (l ∈ ks) := by
  obtain ⟨i1, i2⟩ := keys_find l hk
  unfold PySem.W.nsIn
  rw [h]
  dsimp only
  cases e : es.toList.find? (·.key.isStr (S l)) with
  | some x =>
    rw [e] at i1
    exact ⟨_, rfl, i1⟩
  | none =>
    rw [e] at i1
    dsimp only
    rw [i2]
    exact ⟨none, rfl, i1⟩
theorem all_mk {P : Program} {w : World} {K : PySem.W.Frag} {h : Heap} {mg : Str → Option Value} {fa Nt fN fCo fIw fAs fIn fFu fEx fRl fPc fC fD fWd fNm fRs fL : Addr} (hT : P.given.tree = none) (X : K.In h) (G : h.Ns mainGlobals mg) (hfa : mg "law" = some (.ref fa))
    {ocIw kVIw dcIw pmIw cdIw ctIw : Value} {odIw anIw : Option Addr} {slIw : Array (Option Value)}
    {ocAs kVAs dcAs pmAs cdAs ctAs : Value} {odAs anAs : Option Addr} {slAs : Array (Option Value)}
    {ocIn kVIn dcIn pmIn cdIn ctIn : Value} {odIn anIn : Option Addr} {slIn : Array (Option Value)}
    {ocFu kVFu dcFu pmFu cdFu ctFu : Value} {odFu anFu : Option Addr} {slFu : Array (Option Value)}
    {ocEx kVEx dcEx pmEx cdEx ctEx : Value} {odEx anEx : Option Addr} {slEx : Array (Option Value)}
    {ocRl kVRl dcRl pmRl cdRl ctRl : Value} {odRl anRl : Option Addr} {slRl : Array (Option Value)}
    {ocPc kVPc dcPc pmPc cdPc ctPc : Value} {odPc anPc : Option Addr} {slPc : Array (Option Value)}
    {ocC kVC dcC pmC cdC ctC : Value} {odC anC : Option Addr} {slC : Array (Option Value)}
    {ocD kVD dcD pmD cdD ctD : Value} {odD anD : Option Addr} {slD : Array (Option Value)}
    {ocWd kVWd dcWd pmWd cdWd ctWd : Value} {odWd anWd : Option Addr} {slWd : Array (Option Value)}
    {ocNm kVNm dcNm pmNm cdNm ctNm : Value} {odNm anNm : Option Addr} {slNm : Array (Option Value)}
    {ocRs kVRs dcRs pmRs cdRs ctRs : Value} {odRs anRs : Option Addr} {slRs : Array (Option Value)}
    {ocL kVL dcL pmL cdL ctL : Value} {odL anL : Option Addr} {slL : Array (Option Value)}
    {vLet vLon : Value}
    {nmN qN : Str} {NN : Addr} {bsN bmN subN : List Value} {snN : List Str} {abN : Bool} {colN : Option Bool} {ddN : Option Addr} {k0N k1N k2N k3N k5N : Option Value}
    {ocN kVN dcN pmN ctN cclN clN : Value} {odN anN cddN cldN : Option Addr} {slN ccsN cslN : Array (Option Value)} {vsN : Array Value} {flN : Str} {tfN : Tok} {ccN cdaN : Addr}
    {h0 h1 h2 h3 h4 h5 h6 h7 h8 : Int} {t0 t1 t2 t3 t4 t5 t6 t7 t8 : Tok} {v0 v1 v2 v3 v4 v5 v6 v7 v8 : Value} {nCo : Nat}
    (aIw : PySem.W.nsIn K mainGlobals "is_word" = some (some (.ref fIw)))
    (lIw : K.lookup fIw = some ⟨ocIw, odIw, .func (PySem.W.fnOf "is_word" "is_word" (defArgs sIsW) (defBody sIsW) (defScope sIsW) .none kVIw dcIw pmIw anIw cdIw ctIw), slIw⟩)
    (cIw : PySem.W.codeIn K cdIw "is_word" = true)
    (kpIw : PySem.W.keepIn K (.ref fIw) = true)
    (aAs : PySem.W.nsIn K mainGlobals "are_small" = some (some (.ref fAs)))
    (lAs : K.lookup fAs = some ⟨ocAs, odAs, .func (PySem.W.fnOf "are_small" "are_small" (defArgs sAs) (defBody sAs) (defScope sAs) .none kVAs dcAs pmAs anAs cdAs ctAs), slAs⟩)
    (cAs : PySem.W.codeIn K cdAs "are_small" = true)
    (kpAs : PySem.W.keepIn K (.ref fAs) = true)
    (aIn : PySem.W.nsIn K mainGlobals "is_name" = some (some (.ref fIn)))
    (lIn : K.lookup fIn = some ⟨ocIn, odIn, .func (PySem.W.fnOf "is_name" "is_name" (defArgs sIsN) (defBody sIsN) (defScope sIsN) .none kVIn dcIn pmIn anIn cdIn ctIn), slIn⟩)
    (cIn : PySem.W.codeIn K cdIn "is_name" = true)
    (kpIn : PySem.W.keepIn K (.ref fIn) = true)
    (aFu : PySem.W.nsIn K mainGlobals "full_text" = some (some (.ref fFu)))
    (lFu : K.lookup fFu = some ⟨ocFu, odFu, .func (PySem.W.fnOf "full_text" "full_text" (defArgs sFull) (defBody sFull) (defScope sFull) .none kVFu dcFu pmFu anFu cdFu ctFu), slFu⟩)
    (cFu : PySem.W.codeIn K cdFu "full_text" = true)
    (kpFu : PySem.W.keepIn K (.ref fFu) = true)
    (aEx : PySem.W.nsIn K mainGlobals "expanded" = some (some (.ref fEx)))
    (lEx : K.lookup fEx = some ⟨ocEx, odEx, .func (PySem.W.fnOf "expanded" "expanded" (defArgs sExp) (defBody sExp) (defScope sExp) .none kVEx dcEx pmEx anEx cdEx ctEx), slEx⟩)
    (cEx : PySem.W.codeIn K cdEx "expanded" = true)
    (kpEx : PySem.W.keepIn K (.ref fEx) = true)
    (aRl : PySem.W.nsIn K mainGlobals "refuse_long" = some (some (.ref fRl)))
    (lRl : K.lookup fRl = some ⟨ocRl, odRl, .func (PySem.W.fnOf "refuse_long" "refuse_long" (defArgs sRl) (defBody sRl) (defScope sRl) .none kVRl dcRl pmRl anRl cdRl ctRl), slRl⟩)
    (cRl : PySem.W.codeIn K cdRl "refuse_long" = true)
    (kpRl : PySem.W.keepIn K (.ref fRl) = true)
    (aPc : PySem.W.nsIn K mainGlobals "pieces_of" = some (some (.ref fPc)))
    (lPc : K.lookup fPc = some ⟨ocPc, odPc, .func (PySem.W.fnOf "pieces_of" "pieces_of" (defArgs sPcs) (defBody sPcs) (defScope sPcs) .none kVPc dcPc pmPc anPc cdPc ctPc), slPc⟩)
    (cPc : PySem.W.codeIn K cdPc "pieces_of" = true)
    (kpPc : PySem.W.keepIn K (.ref fPc) = true)
    (aC : PySem.W.nsIn K mainGlobals "_law_cell" = some (some (.ref fC)))
    (lC : K.lookup fC = some ⟨ocC, odC, .func (PySem.W.fnOf "_law_cell" "_law_cell" (defArgs sCell) (defBody sCell) (defScope sCell) .none kVC dcC pmC anC cdC ctC), slC⟩)
    (cC : PySem.W.codeIn K cdC "_law_cell" = true)
    (kpC : PySem.W.keepIn K (.ref fC) = true)
    (aD : PySem.W.nsIn K mainGlobals "_law_draws" = some (some (.ref fD)))
    (lD : K.lookup fD = some ⟨ocD, odD, .func (PySem.W.fnOf "_law_draws" "_law_draws" (defArgs sDraws) (defBody sDraws) (defScope sDraws) .none kVD dcD pmD anD cdD ctD), slD⟩)
    (cD : PySem.W.codeIn K cdD "_law_draws" = true)
    (kpD : PySem.W.keepIn K (.ref fD) = true)
    (aWd : PySem.W.nsIn K mainGlobals "_law_word" = some (some (.ref fWd)))
    (lWd : K.lookup fWd = some ⟨ocWd, odWd, .func (PySem.W.fnOf "_law_word" "_law_word" (defArgs sWd) (defBody sWd) (defScope sWd) .none kVWd dcWd pmWd anWd cdWd ctWd), slWd⟩)
    (cWd : PySem.W.codeIn K cdWd "_law_word" = true)
    (kpWd : PySem.W.keepIn K (.ref fWd) = true)
    (aNm : PySem.W.nsIn K mainGlobals "_law_names" = some (some (.ref fNm)))
    (lNm : K.lookup fNm = some ⟨ocNm, odNm, .func (PySem.W.fnOf "_law_names" "_law_names" (defArgs sNms) (defBody sNms) (defScope sNms) .none kVNm dcNm pmNm anNm cdNm ctNm), slNm⟩)
    (cNm : PySem.W.codeIn K cdNm "_law_names" = true)
    (kpNm : PySem.W.keepIn K (.ref fNm) = true)
    (aRs : PySem.W.nsIn K mainGlobals "_law_reason" = some (some (.ref fRs)))
    (lRs : K.lookup fRs = some ⟨ocRs, odRs, .func (PySem.W.fnOf "_law_reason" "_law_reason" (defArgs sRsn) (defBody sRsn) (defScope sRsn) .none kVRs dcRs pmRs anRs cdRs ctRs), slRs⟩)
    (cRs : PySem.W.codeIn K cdRs "_law_reason" = true)
    (kpRs : PySem.W.keepIn K (.ref fRs) = true)
    (aL : PySem.W.nsIn K mainGlobals "law" = some (some (.ref fL)))
    (lL : K.lookup fL = some ⟨ocL, odL, .func (PySem.W.fnOf "law" "law" (defArgs sLaw) (defBody sLaw) (defScope sLaw) .none kVL dcL pmL anL cdL ctL), slL⟩)
    (cL : PySem.W.codeIn K cdL "law" = true)
    (kpL : PySem.W.keepIn K (.ref fL) = true)
    (gLet : PySem.W.nsIn K mainGlobals "LETTERS" = some (some vLet))
    (rLet : RelV (.int 12) vLet)
    (gLon : PySem.W.nsIn K mainGlobals "LONGEST" = some (some vLon))
    (rLon : RelV (.int 2000) vLon)
    (gCo : PySem.W.nsIn K mainGlobals "COUNTS" = some (some (.ref fCo)))
    (lCo : K.lookup fCo = some ⟨.type "dict", none, .dict #[⟨h0, .str (Str.ofString "let") t0, v0⟩, ⟨h1, .str (Str.ofString "apply") t1, v1⟩, ⟨h2, .str (Str.ofString "multiply") t2, v2⟩, ⟨h3, .str (Str.ofString "divide") t3, v3⟩, ⟨h4, .str (Str.ofString "common") t4, v4⟩, ⟨h5, .str (Str.ofString "multiple") t5, v5⟩, ⟨h6, .str (Str.ofString "equal") t6, v6⟩, ⟨h7, .str (Str.ofString "solve") t7, v7⟩, ⟨h8, .str (Str.ofString "products") t8, v8⟩] nCo, #[]⟩)
    (lowCo : (fCo == sysModules) = false)
    (e0 : h0 = PyData.keyHash w.params (Str.ofString "let"))
    (e1 : h1 = PyData.keyHash w.params (Str.ofString "apply"))
    (e2 : h2 = PyData.keyHash w.params (Str.ofString "multiply"))
    (e3 : h3 = PyData.keyHash w.params (Str.ofString "divide"))
    (e4 : h4 = PyData.keyHash w.params (Str.ofString "common"))
    (e5 : h5 = PyData.keyHash w.params (Str.ofString "multiple"))
    (e6 : h6 = PyData.keyHash w.params (Str.ofString "equal"))
    (e7 : h7 = PyData.keyHash w.params (Str.ofString "solve"))
    (e8 : h8 = PyData.keyHash w.params (Str.ofString "products"))
    (zlen : PySem.W.nsIn K mainGlobals "len" = some none)
    (zrange : PySem.W.nsIn K mainGlobals "range" = some none)
    (zint : PySem.W.nsIn K mainGlobals "int" = some none)
    (zabs : PySem.W.nsIn K mainGlobals "abs" = some none)
    (zisinstance : PySem.W.nsIn K mainGlobals "isinstance" = some none)
    (zbool : PySem.W.nsIn K mainGlobals "bool" = some none)
    (zstr : PySem.W.nsIn K mainGlobals "str" = some none)
    (zall : PySem.W.nsIn K mainGlobals "all" = some none)
    (zany : PySem.W.nsIn K mainGlobals "any" = some none)
    (zsuper : PySem.W.nsIn K mainGlobals "super" = some none)
    (gN : PySem.W.nsIn K mainGlobals "Refused" = some (some (.ref Nt)))
    (lN : K.lookup Nt = some (excClassObj nmN qN Nt NN bsN bmN true snN subN abN colN ddN k0N k1N k2N k3N k5N "ValueError.__new__"))
    (vN : PySem.HandSPX.refsVE bmN = true)
    (sN : PySem.W.findIn K (.ref Nt) "__setattr__" = some (some (.builtin "object.__setattr__")))
    (bN : PySem.W.subIn K (.ref Nt) (.type "BaseException") = some true)
    (tN : PySem.W.typeIn K (.ref Nt) = some (.type "type"))
    (kpN : PySem.W.keepIn K (.ref Nt) = true)
    (iN : PySem.W.findIn K (.ref Nt) "__init__" = some (some (.ref fN)))
    (tfN' : PySem.W.typeIn K (.ref fN) = some (.type "function"))
    (fnN : K.lookup fN = some ⟨ocN, odN, .func (PySem.W.fnX "__init__" "Refused.__init__" (defArgs sRfu) (defBody sRfu) (defScope sRfu) [("__class__", ccN)] .none kVN dcN pmN anN (.ref cdaN) ctN), slN⟩)
    (cdN : PySem.W.codeIn K (.ref cdaN) "Refused.__init__" = true)
    (cfN : K.lookup cdaN = some ⟨cclN, cddN, .fields vsN, ccsN⟩)
    (h2N : vsN[2]? = some (.str flN tfN))
    (hfN : ((P.main.file : Str) == flN) = true)
    (ceN : K.lookup ccN = some ⟨clN, cldN, .cell (some (.ref Nt)), cslN⟩)
    (mN : PySem.W.mroIn K Nt (.ref Nt) = some true)
    (suN : PySem.W.ks_superIn K Nt Nt "__init__" = some (some (.builtin "ValueError.__init__")))
    (sbN : PySem.W.subIn K (.ref Nt) (.type "ValueError") = some true)
    (stN : PySem.W.nsIn K cStatics "thirdparty.any" = some none)
    (topN : (P.main.scope.names.lookup ("super" : Str)).isSome = false)
    (hdN : PySem.W.hasDictIn K Nt = true)
    (ssN : PySem.W.subIn K (.ref Nt) (.ref Nt) = some true)
    (gaN : PySem.W.findIn K (.ref Nt) "__getattribute__" = some (some (.builtin "BaseException.__getattribute__")))
    (ggN : PySem.W.findIn K (.ref Nt) "__getattr__" = some none)
    (atN : PySem.W.findIn K (.ref Nt) "reason" = some none) :
    ∃ fd : FuncData, (∀ (s : Shared) (v : Value), BindsTo s fd ⟨[v], []⟩ [("script", v)]) ∧ ∀ base : Heap, K.In base → base.Ns mainGlobals mg → base.NoSeer → FnOk P w K mg base CX0 40 fa fd ["script"] (spLaw K) := by
  have e := hfa.symm.trans (PySem.W.mg_of X G aL)
  cases e
  have T : TxL K mg := ⟨PySem.W.mg_none_of X G zlen, PySem.W.mg_none_of X G zrange, PySem.W.mg_none_of X G zint, PySem.W.mg_none_of X G zabs, PySem.W.mg_none_of X G zisinstance, PySem.W.mg_none_of X G zbool⟩
  have hstr := PySem.W.mg_none_of X G zstr
  have hall := PySem.W.mg_none_of X G zall
  have hany := PySem.W.mg_none_of X G zany
  have gLet' := PySem.W.mg_of X G gLet
  have gLon' := PySem.W.mg_of X G gLon
  have gCo' := PySem.W.mg_of X G gCo
  have mNt := PySem.W.mg_of X G gN
  have TO : OexC K Nt := ⟨⟨_, _, _, _, _, _, _, _, _, _, _, _, _, _, _, lN, vN⟩, sN, bN, tN, kpN⟩
  have TN : TxRf K mg Nt := ⟨mNt, PySem.W.exm_ref bN hdN tN ssN, ⟨gaN, ggN, bN, hdN⟩, atN⟩
  have DC : KDict K w fCo _ nCo := ⟨lCo, ⟨⟨_, t0, rfl, e0⟩, ⟨⟨_, t1, rfl, e1⟩, ⟨⟨_, t2, rfl, e2⟩, ⟨⟨_, t3, rfl, e3⟩, ⟨⟨_, t4, rfl, e4⟩, ⟨⟨_, t5, rfl, e5⟩, ⟨⟨_, t6, rfl, e6⟩, ⟨⟨_, t7, rfl, e7⟩, ⟨⟨_, t8, rfl, e8⟩, trivial⟩⟩⟩⟩⟩⟩⟩⟩⟩, lowCo⟩
  have FIw := fun_mk (st := sIsW) lIw cIw kpIw
  have bIw := FIw.binds (ps := ["value"]) fun _ _ _ _ _ _ us hl => match us, hl with | [_], _ => rfl
  have mIw := PySem.W.mg_of X G aIw
  have FAs := fun_mk (st := sAs) lAs cAs kpAs
  have bAs := FAs.binds (ps := ["text"]) fun _ _ _ _ _ _ us hl => match us, hl with | [_], _ => rfl
  have mAs := PySem.W.mg_of X G aAs
  have FIn := fun_mk (st := sIsN) lIn cIn kpIn
  have bIn := FIn.binds (ps := ["value"]) fun _ _ _ _ _ _ us hl => match us, hl with | [_], _ => rfl
  have mIn := PySem.W.mg_of X G aIn
  have FFu := fun_mk (st := sFull) lFu cFu kpFu
  have bFu := FFu.binds (ps := ["names", "text"]) fun _ _ _ _ _ _ us hl => match us, hl with | [_, _], _ => rfl
  have mFu := PySem.W.mg_of X G aFu
  have FEx := fun_mk (st := sExp) lEx cEx kpEx
  have bEx := FEx.binds (ps := ["names", "text"]) fun _ _ _ _ _ _ us hl => match us, hl with | [_, _], _ => rfl
  have mEx := PySem.W.mg_of X G aEx
  have FRl := fun_mk (st := sRl) lRl cRl kpRl
  have bRl := FRl.binds (ps := ["full"]) fun _ _ _ _ _ _ us hl => match us, hl with | [_], _ => rfl
  have mRl := PySem.W.mg_of X G aRl
  have FPc := fun_mk (st := sPcs) lPc cPc kpPc
  have bPc := FPc.binds (ps := ["text"]) fun _ _ _ _ _ _ us hl => match us, hl with | [_], _ => rfl
  have mPc := PySem.W.mg_of X G aPc
  have FC := fun_mk (st := sCell) lC cC kpC
  have bC := FC.binds (ps := ["script", "k"]) fun _ _ _ _ _ _ us hl => match us, hl with | [_, _], _ => rfl
  have mC := PySem.W.mg_of X G aC
  have FD := fun_mk (st := sDraws) lD cD kpD
  have bD := FD.binds (ps := ["script", "at", "count", "bound"]) fun _ _ _ _ _ _ us hl => match us, hl with | [_, _, _, _], _ => rfl
  have mD := PySem.W.mg_of X G aD
  have FWd := fun_mk (st := sWd) lWd cWd kpWd
  have bWd := FWd.binds (ps := ["row", "at"]) fun _ _ _ _ _ _ us hl => match us, hl with | [_, _], _ => rfl
  have mWd := PySem.W.mg_of X G aWd
  have FNm := fun_mk (st := sNms) lNm cNm kpNm
  have bNm := FNm.binds (ps := ["script"]) fun _ _ _ _ _ _ us hl => match us, hl with | [_], _ => rfl
  have mNm := PySem.W.mg_of X G aNm
  have FRs := fun_mk (st := sRsn) lRs cRs kpRs
  have bRs := FRs.binds (ps := ["names", "text"]) fun _ _ _ _ _ _ us hl => match us, hl with | [_, _], _ => rfl
  have mRs := PySem.W.mg_of X G aRs
  have FL := fun_mk (st := sLaw) lL cL kpL
  have mL := PySem.W.mg_of X G aL
  have FN : SupD P K mg "__init__" "Refused.__init__" (defArgs sRfu) (defBody sRfu) (defScope sRfu) Nt ccN cdaN fN (PySem.W.fnX "__init__" "Refused.__init__" (defArgs sRfu) (defBody sRfu) (defScope sRfu) [("__class__", ccN)] .none kVN dcN pmN anN (.ref cdaN) ctN) "self" :=
    ⟨⟨_, _, _, _, _, _, _, _, _, rfl, fnN⟩, cdN, ⟨_, _, _, _, _, _, cfN, h2N, hfN⟩, ⟨_, _, _, ceN⟩, ⟨_, rfl, rfl⟩, TO, mN, suN, sbN, stN, topN, PySem.W.mg_none_of X G zsuper⟩
  have bNt : Binds K (PySem.W.fnX "__init__" "Refused.__init__" (defArgs sRfu) (defBody sRfu) (defScope sRfu) [("__class__", ccN)] .none kVN dcN pmN anN (.ref cdaN) ctN) ["self", "reason"] [] := .all fun us hl => match us, hl with | [_, _], _ => rfl
  refine ⟨(PySem.W.fnOf "law" "law" (defArgs sLaw) (defBody sLaw) (defScope sLaw) .none kVL dcL pmL anL cdL ctL), fun s v => .of_eq rfl, fun base _ _ hN => ?_⟩
  have NC : RfC P w K mg base Nt fN _ := ⟨TO, iN, tfN', ok_rfu FN atN, bNt, mNt⟩
  have GAs := ok_as (P := P) (w := w) (base := base) FAs hall
  have GIw := ok_isw (P := P) (w := w) (base := base) FIw T hstr gLet' rLet GAs kpAs bAs mAs
  have GIn := ok_isn (P := P) (w := w) (base := base) FIn T DC gCo' (fun l => ns_cnts (ks := cnts) lCo (by exact ⟨⟨t0, rfl⟩, ⟨⟨t1, rfl⟩, ⟨⟨t2, rfl⟩, ⟨⟨t3, rfl⟩, ⟨⟨t4, rfl⟩, ⟨⟨t5, rfl⟩, ⟨⟨t6, rfl⟩, ⟨⟨t7, rfl⟩, ⟨⟨t8, rfl⟩, trivial⟩⟩⟩⟩⟩⟩⟩⟩⟩) l) GIw kpIw bIw mIw
  have GPc := ok_pcs (P := P) (w := w) (base := base) FPc T GAs kpAs bAs mAs
  have GRl := ok_rl (P := P) (w := w) (base := base) FRl T NC gLon' rLon
  have GEx := ok_exp (P := P) (w := w) (base := base) FEx T hany NC GPc kpPc bPc mPc
  have GFu := ok_full (P := P) (w := w) (base := base) FFu GEx kpEx bEx mEx GRl kpRl bRl mRl
  have GD := ok_draws (P := P) (w := w) (base := base) FD T FC bC mC
  have GWd := ok_wd (P := P) (w := w) (base := base) FWd T
  have GNm := ok_nms (P := P) (w := w) (base := base) FNm T GD kpD bD mD GWd kpWd bWd mWd
  have GRs := ok_rsn (P := P) (w := w) (base := base) FRs TN GFu kpFu bFu mFu
  exact ok_law FL T hstr ⟨⟨mD, kpD, bD, GD⟩, ⟨mNm, kpNm, bNm, GNm⟩, ⟨mWd, kpWd, bWd, GWd⟩, ⟨mRs, kpRs, bRs, GRs⟩, ⟨mIn, kpIn, bIn, GIn⟩, ⟨mFu, kpFu, bFu, GFu⟩⟩
theorem walk {l : PySem.W.OpenLaw} {q : Program} {loose : List Str} {XP : (Str → Option Value) → Heap → Prop} {YP : World → Heap → Prop} {d : DefRec} {K : Params → PySem.W.Frag} (hn : l.most = some 63) (hdf : d.params.defaults = []) (hi : importsNone q = true)
    (hY : ∀ (w : World) (h : Heap), YP w h → (K w.params).In h)
    (F : ∀ (w : World) (mg : Str → Option Value) (fa : Addr) (h : Heap), (K w.params).In h → h.Ns mainGlobals mg → mg d.name = some (.ref fa) →
      ∃ fd : FuncData, (∀ (s : Shared) (u : Value), BindsTo s fd ⟨[u], []⟩ [("script", u)]) ∧ ∀ base : Heap, (K w.params).In base → base.Ns mainGlobals mg → base.NoSeer → FnOk l.prog w (K w.params) mg base CX0 40 fa fd ["script"] (spLaw (K w.params))) :
    PySem.W.WalkO q loose XP YP l.row.toRowW d [] (fun f vs => PySem.call f vs) :=
  walk_far (n := 63) (k := 40) (x := "script") (sp := fun w => spLaw (K w.params)) hn (by decide) hdf ⟨rfl, by decide, by decide⟩ hi hY F fun _ _ a ns _ hb hS => ⟨a, ns, rfl, hS, fun _ => rfl⟩
end Ind

set_option Elab.async false
set_option linter.all false
open PySem PySem.W PyProof.Rows in
set_option maxRecDepth 100000 in
set_option maxHeartbeats 0 in
theorem PySem.Challenge.cw_indicial_k66_full_texts_holds : PySem.Challenge.rw_indicial_k66_full_texts.Holds := by
  w_on; o_law; k_head; (case hw => w_witness2)
  k_fill
  refine Ind.walk (l := PySem.Challenge.rw_indicial_k66_full_texts) rfl rfl (by decide +kernel) (fun w h Y => PySem.W.kIn_of Y) ?F
  case F =>
    intro w mg fa h KX G hmg
    refine' Ind.all_mk rfl KX G hmg ?aIw ?lIw ?cIw ?kpIw ?aAs ?lAs ?cAs ?kpAs ?aIn ?lIn ?cIn ?kpIn ?aFu ?lFu ?cFu ?kpFu ?aEx ?lEx ?cEx ?kpEx ?aRl ?lRl ?cRl ?kpRl ?aPc ?lPc ?cPc ?kpPc ?aC ?lC ?cC ?kpC ?aD ?lD ?cD ?kpD ?aWd ?lWd ?cWd ?kpWd ?aNm ?lNm ?cNm ?kpNm ?aRs ?lRs ?cRs ?kpRs ?aL ?lL ?cL ?kpL ?gLet ?rLet ?gLon ?rLon ?gCo ?lCo ?lowCo ?e0 ?e1 ?e2 ?e3 ?e4 ?e5 ?e6 ?e7 ?e8 ?zlen ?zrange ?zint ?zabs ?zisinstance ?zbool ?zstr ?zall ?zany ?zsuper ?gN ?lN ?vN ?sN ?bN ?tN ?kpN ?iN ?tfN' ?fnN ?cdN ?cfN ?h2N ?hfN ?ceN ?mN ?suN ?sbN ?stN ?topN ?hdN ?ssN ?gaN ?ggN ?atN
    (case gN => k_is)
    (case gLet => k_is)
    (case gLon => k_is)
    (case gCo => k_is)
    (case iN => k_is)
    (case lN => k_is)
    (case fnN => k_is)
    (case ceN => k_is)
    (case cfN => k_is)
    (case lCo => k_is)
    (case aIw => k_is)
    (case lIw => k_is)
    (case cIw => k_is)
    (case kpIw => k_is)
    (case aAs => k_is)
    (case lAs => k_is)
    (case cAs => k_is)
    (case kpAs => k_is)
    (case aIn => k_is)
    (case lIn => k_is)
    (case cIn => k_is)
    (case kpIn => k_is)
    (case aFu => k_is)
    (case lFu => k_is)
    (case cFu => k_is)
    (case kpFu => k_is)
    (case aEx => k_is)
    (case lEx => k_is)
    (case cEx => k_is)
    (case kpEx => k_is)
    (case aRl => k_is)
    (case lRl => k_is)
    (case cRl => k_is)
    (case kpRl => k_is)
    (case aPc => k_is)
    (case lPc => k_is)
    (case cPc => k_is)
    (case kpPc => k_is)
    (case aC => k_is)
    (case lC => k_is)
    (case cC => k_is)
    (case kpC => k_is)
    (case aD => k_is)
    (case lD => k_is)
    (case cD => k_is)
    (case kpD => k_is)
    (case aWd => k_is)
    (case lWd => k_is)
    (case cWd => k_is)
    (case kpWd => k_is)
    (case aNm => k_is)
    (case lNm => k_is)
    (case cNm => k_is)
    (case kpNm => k_is)
    (case aRs => k_is)
    (case lRs => k_is)
    (case cRs => k_is)
    (case kpRs => k_is)
    (case aL => k_is)
    (case lL => k_is)
    (case cL => k_is)
    (case kpL => k_is)
    (case rLet => exact ⟨_, rfl⟩)
    (case rLon => exact ⟨_, rfl⟩)
    (case lowCo => first | rfl | decide +kernel)
    (case e0 => first | rfl | k_is)
    (case e1 => first | rfl | k_is)
    (case e2 => first | rfl | k_is)
    (case e3 => first | rfl | k_is)
    (case e4 => first | rfl | k_is)
    (case e5 => first | rfl | k_is)
    (case e6 => first | rfl | k_is)
    (case e7 => first | rfl | k_is)
    (case e8 => first | rfl | k_is)
    (case zlen => k_is)
    (case zrange => k_is)
    (case zint => k_is)
    (case zabs => k_is)
    (case zisinstance => k_is)
    (case zbool => k_is)
    (case zstr => k_is)
    (case zall => k_is)
    (case zany => k_is)
    (case zsuper => k_is)
    (case vN => decide +kernel)
    (case sN => k_is)
    (case bN => k_is)
    (case tN => k_is)
    (case kpN => k_is)
    (case tfN' => k_is)
    (case cdN => k_is)
    (case h2N => rfl)
    (case hfN => first | rfl | decide +kernel)
    (case mN => k_is)
    (case suN => ks_is)
    (case sbN => k_is)
    (case stN => k_is)
    (case topN => rfl)
    (case hdN => k_is)
    (case ssN => k_is)
    (case gaN => k_is)
    (case ggN => k_is)
    (case atN => k_is)
#print axioms PySem.Challenge.cw_indicial_k66_full_texts_holds
