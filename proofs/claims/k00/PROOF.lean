import PyProof.Rows.All
import Wide.All
import OpenK.AllK
import Wide.FinOn
import HandS.ForMost
import HandS.Flow
import HandS.IsInst
import HandS.Wide
import HandS.WideBits
import PySem.Challenge.RW_spiraldue_k00_allocation
set_option Elab.async false
set_option maxRecDepth 100000
set_option maxHeartbeats 4000000
/-! ### P1. heaps -/
namespace Sd
open PySem PySem.Spec PyProof.Rows L2
set_option linter.all false
theorem same_new {H : Hp} {p : Addr} {o : HO} (h : H p = none) : Same H (upd H p o) := fun b u q => by
  rw [upd_ne (ne_of_none q h)]
  exact q
theorem same_put {H H' : Hp} {p : Addr} {o : HO} (s : Same H H') (h : H p = none) : Same H (upd H' p o) := fun b u q => by
  rw [upd_ne (ne_of_none q h)]
  exact s b u q
theorem same_add {H H' : Hp} {p : Addr} {o : HO} (s : Same H H') (h : H' p = none) : Same H (upd H' p o) := s.trans (same_new h)
theorem same_sqt {K : PySem.W.Frag} {H H' : Hp} {a : Addr} {xs : List V} (e : Same H H') (h : SqT K H a xs) : SqT K H' a xs := by
  rcases h with (h | ⟨o, h⟩) | h
  · exact .inl (.inl (e _ _ h))
  · exact .inl (.inr ⟨o, e _ _ h⟩)
  · exact .inr h
/-- a list or a tuple of xs -/
def Sq (K : PySem.W.Frag) (H : Hp) (a : Addr) (xs : List V) : Prop := SqL K H a xs ∨ SqT K H a xs
theorem same_sq {K : PySem.W.Frag} {H H' : Hp} {a : Addr} {xs : List V} (e : Same H H') (h : Sq K H a xs) : Sq K H' a xs := by
  rcases h with h | h
  · exact .inl (e.seq h)
  · exact .inr (same_sqt e h)
/-- all but p stands as it stood -/
def Bar (p : Addr) (H H' : Hp) : Prop := ∀ b o, b ≠ p → H b = some o → H' b = some o
theorem Bar.refl {p : Addr} (H : Hp) : Bar p H H := fun _ _ _ h => h
theorem Bar.trans {p : Addr} {H H1 H2 : Hp} (a : Bar p H H1) (b : Bar p H1 H2) : Bar p H H2 := fun c o n h => b c o n (a c o n h)
theorem Bar.of {p : Addr} {H H' : Hp} (s : Same H H') : Bar p H H' := fun b o _ h => s b o h
theorem Bar.put {p : Addr} {H H' : Hp} {o : HO} (s : Bar p H H') : Bar p H (upd H' p o) := fun b u n q => by
  rw [upd_ne n]
  exact s b u n q
theorem Bar.add {p q : Addr} {H H' : Hp} {o : HO} (s : Bar p H H') (h : H' q = none) : Bar p H (upd H' q o) := s.trans (Bar.of (same_new h))
theorem Bar.keep {p : Addr} {H0 H : Hp} (h : H0 p = none) (s : Bar p H0 H) : Same H0 H := fun b o q => s b o (ne_of_none q h) q
theorem Bar.free {p q : Addr} {H H' : Hp} (s : Bar p H H') (n : q ≠ p) (h : H' q = none) : H q = none := by
  cases e : H q with
  | none => rfl
  | some o =>
    rw [s q o n e] at h
    cases h
theorem Bar.new {p q : Addr} {H : Hp} {o : HO} (hp : H p = some o) (h : H q = none) : q ≠ p := (ne_of_none hp h).symm

theorem free2 {H : Hp} {p o : Addr} {u : HO} (np : H p = none) (no : upd H p u o = none) : H o = none := (same_new np).free no

/-! ### P2. rules -/
/-- sum(xs) of a list or a tuple of ints -/
def rSumS (K : PySem.W.Frag) : List V → Hp → VK → Prop := fun vs H Q => ∃ (a : Addr) (ns : List Int), vs = [V.ref a] ∧ Sq K H a (ns.map V.int) ∧ Q (.int ns.sum) H
theorem cr_sumS {X : Cx} (hc : X.calm = true) : CallR X (.builtin "sum") (rSumS X.K) := by
  intro pins s σ H vs us Q I r h
  obtain ⟨a, ns, rfl, hs | hs, q⟩ := h
  · exact cr_sum hc pins s σ H _ us Q I r ⟨a, ns, rfl, hs, q⟩
  · obtain ⟨its, rv, ⟨ob, ho, hcl, n, hd⟩, _⟩ := I.tuple hs
    rw [Vals.ref1 r]
    have hi := rv.ints
    have ht : s.heap.IsTuple a its.toArray := ⟨ob, ho, hcl, n, hd⟩
    obtain ⟨xs, e⟩ := hi.allInts.items
    have hn : numsOf (intItems xs).toList = ns := by rw [← e]; exact hi.numsOf
    rw [nums_intItems] at hn
    rw [e] at ht
    refine PySem.W.ktm_sumG (I.ok.hd hc) ht fun h' tk t' hk => ?_
    rw [preSum_eq, List.take_of_length_le (by simp), hn]
    exact ⟨.int _, H, I.kept hk, ⟨_, rfl⟩, q⟩
/-- what isinstance asks -/
theorem tyx_lst {K : PySem.W.Frag} {H : Hp} {a : Addr} {xs : List V} (h : SqL K H a xs) : TyX K H (.ref a) (.type "list") := by
  rcases h with (h | ⟨o, h⟩) | ⟨o, its, n, hk, hc, _⟩
  · exact .base (.lst h)
  · exact .base (.frz h)
  · exact .kList hk hc
theorem tyx_tup {K : PySem.W.Frag} {H : Hp} {a : Addr} {xs : List V} (h : SqT K H a xs) : TyX K H (.ref a) (.type "tuple") := by
  rcases h with (h | ⟨o, h⟩) | ⟨o, its, n, hk, hc, _⟩
  · exact .base (.tup h)
  · exact .fTuple h
  · exact .kTuple hk hc
/-- a def of the module: where it stands, how it binds, its name -/
structure Dfn (K : PySem.W.Frag) (mg : Str → Option Value) (x : Str) (st : Stmt) (ps : List Str) (f : Addr) (fd : FuncData) : Prop where
  F : Fun K x x st f fd
  b : Binds K fd ps []
  m : mg x = some (.ref f)
theorem at_map {ns : List Int} {j : Nat} {v : Int} (h : ns[j]? = some v) : (ns.map V.int)[j]? = some (V.int v) := by
  rw [List.getElem?_map, h] <;> rfl
theorem of_at_map {ns : List Int} {j : Nat} {y : V} (h : (ns.map V.int)[j]? = some y) : ∃ v, y = V.int v ∧ ns[j]? = some v := by
  rw [List.getElem?_map] at h
  cases e : ns[j]? with
  | none =>
    rw [e] at h
    cases h
  | some v =>
    rw [e] at h
    exact ⟨v, (Option.some.inj h).symm, rfl⟩
theorem sz {n : Nat} (h : n ≤ 100000) : n ≤ sizeLine := Nat.le_trans h (by decide)
theorem szl {n : Nat} (h : n < 100000) : n < sizeLine := Nat.lt_of_lt_of_le h (by decide)
theorem iteB {A B : Prop} {b : Bool} (h1 : b = true → A) (h2 : b = false → B) : if b = true then A else B := by
  cases b with
  | true => exact iteT (h1 rfl)
  | false => exact iteF (h2 rfl)
/-- behind a statement with several ways: what holds there in all of them -/
theorem with_rest {t u : TS} {D : Ends} {σ : L2.St} {H : Hp} (M : L2.St → Hp → Prop) (h2 : ∀ σ' H', M σ' H' → u D σ' H') (h1 : (∀ σ' H', M σ' H' → u D σ' H') → t { D with nx := u D } σ H) : tSeq t u D σ H := h1 h2
theorem nx_to {i : Nat} {v : V} {σ : L2.St} {H : Hp} {Q : L2.St → Hp → Prop} (h : Q (σ.set i (some v)) H) : gName i v σ H Q := h
theorem sq_ix {K : PySem.W.Frag} {H : Hp} {a : Addr} {xs : List V} {i : Int} {v : V} {Q : VK} (h : Sq K H a xs) (ha : atI xs i = some v) (q : Q v H) : rIx K (.ref a) (.int i) H Q := by
  rcases h with h | h
  · exact .inl ⟨a, xs, i, v, rfl, rfl, h, ha, q⟩
  · exact .inr (.inl ⟨a, xs, i, v, rfl, rfl, h, ha, q⟩)
end Sd

namespace Sd
open PySem PySem.Spec PyProof.Rows L2
set_option linter.all false
/-! ### the places -/
def top (i : Nat) : Stmt := PySem.Challenge.pw_spiraldue_k00_allocation.main.body.getD i (.Pass ⟨0, 0, 0, 0⟩)
abbrev s_allocate : Stmt := top 1
abbrev s_next_unit : Stmt := top 2
abbrev s_law_cell : Stmt := top 4
abbrev s_law_draws : Stmt := top 5
abbrev s_law_stream : Stmt := top 6
abbrev s_law_next : Stmt := top 7
abbrev s_law_is_integer : Stmt := top 8
abbrev s_law_same : Stmt := top 9
abbrev s_law_parts : Stmt := top 10
abbrev s_law_by_units : Stmt := top 11
abbrev s_law : Stmt := top 12
structure Tx (mg : Str → Option Value) : Prop where
  divmod : mg "divmod" = none
  sum : mg "sum" = none
  min : mg "min" = none
  tuple : mg "tuple" = none
  len : mg "len" = none
  int : mg "int" = none
  abs : mg "abs" = none
  range : mg "range" = none
  isinstance : mg "isinstance" = none
  bool : mg "bool" = none
  str : mg "str" = none
  list : mg "list" = none
theorem sc_allocate : FnScope ["amount", "shares", "cycles", "rest", "parts", "share", "extra"] ["amount", "shares"] (defScope s_allocate) := ⟨rfl, rfl, rfl, by decide +kernel, rfl, by decide +kernel, by decide +kernel⟩
theorem sc_next_unit : FnScope ["amount", "shares", "rest", "index"] ["amount", "shares"] (defScope s_next_unit) := ⟨rfl, rfl, rfl, by decide +kernel, rfl, by decide +kernel, by decide +kernel⟩
theorem sc_law_cell : FnScope ["script", "k"] ["script", "k"] (defScope s_law_cell) := ⟨rfl, rfl, rfl, by decide +kernel, rfl, by decide +kernel, by decide +kernel⟩
theorem sc_law_draws : FnScope ["cell", "count", "number", "great", "found", "k", "mixed"] ["cell", "count"] (defScope s_law_draws) := ⟨rfl, rfl, rfl, by decide +kernel, rfl, by decide +kernel, by decide +kernel⟩
theorem sc_law_stream : FnScope ["script", "first", "count", "found", "k"] ["script", "first", "count"] (defScope s_law_stream) := ⟨rfl, rfl, rfl, by decide +kernel, rfl, by decide +kernel, by decide +kernel⟩
theorem sc_law_next : FnScope ["stream", "many", "digits", "place", "value"] ["stream", "many"] (defScope s_law_next) := ⟨rfl, rfl, rfl, by decide +kernel, rfl, by decide +kernel, by decide +kernel⟩
theorem sc_law_is_integer : FnScope ["actual"] ["actual"] (defScope s_law_is_integer) := ⟨rfl, rfl, rfl, by decide +kernel, rfl, by decide +kernel, by decide +kernel⟩
theorem sc_law_same : FnScope ["actual", "expected", "k"] ["actual", "expected"] (defScope s_law_same) := ⟨rfl, rfl, rfl, by decide +kernel, rfl, by decide +kernel, by decide +kernel⟩
theorem sc_law_parts : FnScope ["amount", "shares", "whole", "parts", "left", "k", "more", "share"] ["amount", "shares"] (defScope s_law_parts) := ⟨rfl, rfl, rfl, by decide +kernel, rfl, by decide +kernel, by decide +kernel⟩
theorem sc_law_by_units : FnScope ["amount", "shares", "parts", "order", "k", "unit", "share"] ["amount", "shares"] (defScope s_law_by_units) := ⟨rfl, rfl, rfl, by decide +kernel, rfl, by decide +kernel, by decide +kernel⟩
theorem sc_law : FnScope ["script", "stream", "shares", "amount", "parts", "more", "grown", "k"] ["script"] (defScope s_law) := ⟨rfl, rfl, rfl, by decide +kernel, rfl, by decide +kernel, by decide +kernel⟩
/-! ### C1. a cell of the script -/
def cell (ns : List Int) (j : Nat) : Int := ns.getD j 0
theorem cell_in {ns : List Int} {j : Nat} (h : j < ns.length) : ns[j]? = some (cell ns j) := by
  unfold cell
  rw [List.getElem?_eq_getElem h, List.getD_eq_getElem?_getD, List.getElem?_eq_getElem h]
  rfl
theorem cell_out {ns : List Int} {j : Nat} (h : ¬ j < ns.length) : cell ns j = 0 := by
  unfold cell
  rw [List.getD_eq_getElem?_getD, List.getElem?_eq_none (by omega)]
  rfl
def sp_law_cell (K : PySem.W.Frag) : Sp := fun vs H Q _ => ∃ (a : Addr) (ns : List Int) (j : Nat), vs = [.ref a, .int (j : Int)] ∧ SqL K H a (ns.map V.int) ∧ Q (.int (cell ns j)) H
/-! ### C2. digits of a cell: as many as are asked, each from 0 to 59 -/
def Digs (n : Nat) (ds : List Int) : Prop := ds.length = n ∧ ∀ x ∈ ds, 0 ≤ x ∧ x < 60
def sp_law_draws (K : PySem.W.Frag) : Sp := fun vs H Q _ => ∃ (c : Int) (n : Nat), vs = [.int c, .int (n : Int)] ∧ n ≤ 60 ∧
  ∀ (o : Addr) (H' : Hp) (ds : List Int), Same H H' → H o = none → H' o = some (.lst (ds.map V.int)) → Digs n ds → Q (.ref o) H'
theorem digs_add {ds : List Int} {z : Int} (h : ∀ x ∈ ds, 0 ≤ x ∧ x < 60) : ∀ x ∈ ds ++ [z % 60], 0 ≤ x ∧ x < 60 := by
  intro x hx
  rcases List.mem_append.mp hx with hx | hx
  · exact h x hx
  · have e := List.mem_singleton.mp hx
    omega
/-! ### C3. a stream of digits: the digits and the place; only the place changes -/
structure Strm (s p : Addr) (H : Hp) : Prop where
  ex : ∃ (d : Addr) (ds : List Int) (n : Nat), H s = some (.lst [.ref d, .ref p]) ∧ H d = some (.lst (ds.map V.int)) ∧ 0 < ds.length ∧ H p = some (.lst [.int (n : Int)]) ∧ s ≠ p ∧ d ≠ p
theorem Strm.same {s p : Addr} {H H' : Hp} (S : Strm s p H) (e : Same H H') : Strm s p H' := by
  obtain ⟨d, ds, n, a1, a2, a3, a4, a5, a6⟩ := S.ex
  exact ⟨d, ds, n, e _ _ a1, e _ _ a2, a3, e _ _ a4, a5, a6⟩
theorem Strm.p {s p : Addr} {H : Hp} (S : Strm s p H) : ∃ o, H p = some o := by
  obtain ⟨d, ds, n, a1, a2, a3, a4, a5, a6⟩ := S.ex
  exact ⟨_, a4⟩
theorem Strm.ne {s p q : Addr} {H : Hp} (S : Strm s p H) (h : H q = none) : q ≠ p := by
  obtain ⟨o, e⟩ := S.p
  exact Bar.new e h
/-- the stream goes on: what was read stands, the place is a number -/
theorem Strm.go {s p : Addr} {H H' H2 : Hp} (S : Strm s p H) (b : Bar p H H') (S2 : Strm s p H2) (e : H' p = H2 p) : Strm s p H' := by
  obtain ⟨d, ds, n, a1, a2, a3, a4, a5, a6⟩ := S.ex
  obtain ⟨_, _, m, _, _, _, b4, _, _⟩ := S2.ex
  exact ⟨d, ds, m, b s _ a5 a1, b d _ a6 a2, a3, e.trans b4, a5, a6⟩
/-- an object that was new behind the stream's making is changed -/
theorem Strm.put {s p D : Addr} {H H' : Hp} {o : HO} (S : Strm s p H) (b : Bar p H H') (S2 : Strm s p H') (h : H D = none) (n : D ≠ p) : Strm s p (upd H' D o) :=
  S.go (fun c u ne q => by rw [upd_ne (ne_of_none q h)]; exact b c u ne q) S2 (upd_ne n.symm)
theorem Bar.put2 {p D : Addr} {H H' : Hp} {o : HO} (b : Bar p H H') (h : H D = none) : Bar p H (upd H' D o) := fun c u ne q => by
  rw [upd_ne (ne_of_none q h)]
  exact b c u ne q
def sp_law_stream (K : PySem.W.Frag) : Sp := fun vs H Q _ => ∃ (a : Addr) (ns : List Int) (j n : Nat), vs = [.ref a, .int (j : Int), .int (n : Int)] ∧ SqL K H a (ns.map V.int) ∧ 0 < n ∧ n ≤ 63 ∧
  ∀ (s p : Addr) (H' : Hp), Same H H' → H p = none → Strm s p H' → Q (.ref s) H'
def sp_law_next (K : PySem.W.Frag) : Sp := fun vs H Q _ => ∃ (s p : Addr) (m : Int), vs = [.ref s, .int m] ∧ 0 < m ∧ Strm s p H ∧
  ∀ (z : Int) (H' : Hp), 0 ≤ z → z < m → Bar p H H' → Strm s p H' → Q (.int z) H'
theorem mod_at {ds : List Int} {n : Nat} (h : 0 < ds.length) : ∃ v, atI (ds.map V.int) ((n : Int) % ((ds.map V.int).length : Nat)) = some (V.int v) := by
  rw [List.length_map]
  have e : (n : Int) % (ds.length : Int) = ((n % ds.length : Nat) : Int) := by omega
  have hlt : n % ds.length < ds.length := Nat.mod_lt _ h
  rw [e]
  exact ⟨ds[n % ds.length], atI_nat (at_map (List.getElem?_eq_getElem hlt))⟩
/-! ### C4. the same data -/
def dOk : Nat → PyData → Bool
  | 0, _ => false
  | _ + 1, .none => true
  | _ + 1, .bool _ => true
  | _ + 1, .int _ => true
  | _ + 1, .str _ => true
  | n + 1, .list ds => decide (ds.length ≤ 5000) && ds.all (dOk n)
  | n + 1, .tuple ds => decide (ds.length ≤ 5000) && ds.all (dOk n)
  | _ + 1, _ => false
def sp_law_is_integer (K : PySem.W.Frag) : Sp := fun vs H Q _ => ∃ i : Int, vs = [.int i] ∧ Q (.bl true) H
def sp_law_same (K : PySem.W.Frag) (n : Nat) : Sp := fun vs H Q _ => ∃ (x y : V) (d : PyData), vs = [x, y] ∧ dOk n d = true ∧ Dp K H x d ∧ Dp K H y d ∧ Q (.bl true) H
theorem DpAll.len {K : PySem.W.Frag} {H : Hp} : ∀ {xs : List V} {ds : List PyData}, DpAll K H xs ds → xs.length = ds.length
  | _, _, .nil => rfl
  | _, _, .cons _ t => congrArg Nat.succ (DpAll.len t)
theorem DpAll.get {K : PySem.W.Frag} {H : Hp} : ∀ {xs : List V} {ds : List PyData} {i : Nat} {d : PyData}, DpAll K H xs ds → ds[i]? = some d → ∃ v, xs[i]? = some v ∧ Dp K H v d
  | _, _, _, _, .nil, h => by simp at h
  | _, _, 0, _, .cons r _, h => by
    have e := Option.some.inj h
    subst e
    exact ⟨_, rfl, r⟩
  | _, _, i + 1, _, .cons _ t, h => DpAll.get (i := i) t h
theorem DpAll.ints {K : PySem.W.Frag} {H : Hp} : ∀ ns : List Int, DpAll K H (ns.map V.int) (ns.map PyData.int)
  | [] => .nil
  | n :: r => .cons (.int n) (DpAll.ints r)
theorem dOk_ints (n : Nat) (ns : List Int) : (ns.map PyData.int).all (dOk (n + 1)) = true := by
  rw [List.all_eq_true]
  intro d hd
  obtain ⟨i, _, e⟩ := List.mem_map.mp hd
  subst e
  rfl
/-- isinstance of a value by its data -/
theorem dp_ty {K : PySem.W.Frag} {H : Hp} {x : V} {d : PyData} (h : Dp K H x d) : ∃ t, TyX K H x t ∧ (match d with | .none => t = .type "NoneType" | .bool _ => t = .type "bool" | .int _ => t = .type "int" | .str _ => t = .type "str" | .list _ => t = .type "list" | .tuple _ => t = .type "tuple" | _ => True) := by
  cases h with
  | non => exact ⟨_, .base .non, rfl⟩
  | bl b => exact ⟨_, .base (.bl b), rfl⟩
  | int i => exact ⟨_, .base (.int i), rfl⟩
  | str s => exact ⟨_, .base (.str s), rfl⟩
  | lst h _ => exact ⟨_, tyx_lst h, rfl⟩
  | tup h _ => exact ⟨_, tyx_tup h, rfl⟩
/-! ### A1. the division -/
def cut2 (s r : Int) : Int := if r < s then r else s
def go (c : Int) : Int → List Int → List Int
  | _, [] => []
  | r, s :: t => (s * c + cut2 s r) :: go c (r - cut2 s r) t
def alloc (a : Int) (sh : List Int) : List Int := go (a / sh.sum) (a % sh.sum) sh
def nxt : Int → List Int → Nat
  | _, [] => 0
  | r, s :: t => if r < s then 0 else nxt (r - s) t + 1
/-- one more at the j-th -/
def bump : Nat → List Int → List Int
  | _, [] => []
  | 0, x :: t => (x + 1) :: t
  | j + 1, x :: t => x :: bump j t
theorem go_len (c : Int) : ∀ (r : Int) (sh : List Int), (go c r sh).length = sh.length
  | _, [] => rfl
  | r, s :: t => congrArg Nat.succ (go_len c _ t)
theorem alloc_len (a : Int) (sh : List Int) : (alloc a sh).length = sh.length := go_len _ _ _
theorem bump_len : ∀ (j : Nat) (xs : List Int), (bump j xs).length = xs.length
  | 0, [] => rfl
  | _ + 1, [] => rfl
  | 0, _ :: _ => rfl
  | j + 1, _ :: t => congrArg Nat.succ (bump_len j t)
theorem bump_get : ∀ (j : Nat) (xs : List Int) (k : Nat), (bump j xs)[k]? = (xs[k]?).map fun x => if k = j then x + 1 else x
  | 0, [], k => by simp [bump]
  | _ + 1, [], k => by simp [bump]
  | 0, x :: t, 0 => by simp [bump]
  | 0, x :: t, k + 1 => by
    simp only [bump, List.getElem?_cons_succ]
    cases t[k]? <;> simp
  | j + 1, x :: t, 0 => by simp [bump]
  | j + 1, x :: t, k + 1 => by
    simp only [bump, List.getElem?_cons_succ]
    rw [bump_get j t k]
    cases t[k]? <;> simp
theorem bump_set : ∀ (j : Nat) (xs : List Int) (x : Int), xs[j]? = some x → xs.set j (x + 1) = bump j xs
  | 0, [], _, h => by simp at h
  | _ + 1, [], _, h => by simp at h
  | 0, y :: t, x, h => by
    have e : y = x := Option.some.inj h
    subst e
    rfl
  | j + 1, y :: t, x, h => by
    show y :: t.set j (x + 1) = y :: bump j t
    rw [bump_set j t x h]
def Pos (sh : List Int) : Prop := ∀ s ∈ sh, 1 ≤ s
theorem Pos.tail {s : Int} {t : List Int} (h : Pos (s :: t)) : Pos t := fun x hx => h x (List.mem_cons_of_mem _ hx)
theorem Pos.head {s : Int} {t : List Int} (h : Pos (s :: t)) : 1 ≤ s := h s List.mem_cons_self
theorem Pos.sum0 : ∀ {sh : List Int}, Pos sh → 0 ≤ sh.sum
  | [], _ => by simp
  | s :: t, h => by
    have h1 := h.head
    have h2 := Pos.sum0 h.tail
    rw [List.sum_cons]
    omega
theorem Pos.sum1 {sh : List Int} (h : Pos sh) (hn : sh ≠ []) : 0 < sh.sum := by
  cases sh with
  | nil => exact absurd rfl hn
  | cons s t =>
    have h1 := h.head
    have h2 := Pos.sum0 h.tail
    rw [List.sum_cons]
    omega
theorem go_succ (c : Int) : ∀ (r : Int) (sh : List Int), Pos sh → 0 ≤ r → r < sh.sum → go c (r + 1) sh = bump (nxt r sh) (go c r sh)
  | r, [], _, h0, h1 => by
    simp at h1
    omega
  | r, s :: t, hp, h0, h1 => by
    rw [List.sum_cons] at h1
    by_cases h : r < s
    · have e2 : cut2 s r = r := by unfold cut2; rw [if_pos h]
      have e1 : cut2 s (r + 1) = r + 1 := by
        unfold cut2
        split <;> omega
      have en : nxt r (s :: t) = 0 := by
        unfold nxt
        rw [if_pos h]
      rw [en]
      show (s * c + cut2 s (r + 1)) :: go c (r + 1 - cut2 s (r + 1)) t = (s * c + cut2 s r + 1) :: go c (r - cut2 s r) t
      rw [e1, e2, Int.sub_self, Int.sub_self, Int.add_assoc]
    · have e2 : cut2 s r = s := by unfold cut2; rw [if_neg h]
      have e1 : cut2 s (r + 1) = s := by
        unfold cut2
        rw [if_neg (by omega)]
      have en : nxt r (s :: t) = nxt (r - s) t + 1 := by
        show (if r < s then 0 else nxt (r - s) t + 1) = _
        rw [if_neg h]
      rw [en]
      show (s * c + cut2 s (r + 1)) :: go c (r + 1 - cut2 s (r + 1)) t = (s * c + cut2 s r) :: bump (nxt (r - s) t) (go c (r - cut2 s r) t)
      rw [e1, e2, show r + 1 - s = (r - s) + 1 by omega, go_succ c (r - s) t hp.tail (by omega) (by omega)]
theorem go_full (c : Int) : ∀ (r : Int) (sh : List Int), Pos sh → r = sh.sum → go c r sh = go (c + 1) 0 sh
  | r, [], _, _ => rfl
  | r, s :: t, hp, hr => by
    rw [List.sum_cons] at hr
    have h1 := hp.head
    have h2 := Pos.sum0 hp.tail
    have e1 : cut2 s r = s := by
      unfold cut2
      rw [if_neg (by omega)]
    have e0 : cut2 s 0 = 0 := by
      unfold cut2
      rw [if_pos (by omega)]
    show (s * c + cut2 s r) :: go c (r - cut2 s r) t = (s * (c + 1) + cut2 s 0) :: go (c + 1) (0 - cut2 s 0) t
    rw [e1, e0, go_full c (r - s) t hp.tail (by omega), Int.mul_add, Int.mul_one, Int.add_zero, Int.sub_self]
theorem go_zero_sum (c : Int) : ∀ (r : Int) (sh : List Int), Pos sh → 0 ≤ r → r ≤ sh.sum → (go c r sh).sum = sh.sum * c + r
  | r, [], _, h0, h1 => by
    simp at h1
    have e : r = 0 := by omega
    subst e
    simp [go]
  | r, s :: t, hp, h0, h1 => by
    rw [List.sum_cons] at h1
    have h2 := Pos.sum0 hp.tail
    have h3 := hp.head
    show ((s * c + cut2 s r) :: go c (r - cut2 s r) t).sum = (s :: t).sum * c + r
    have hc : 0 ≤ r - cut2 s r ∧ r - cut2 s r ≤ t.sum := by
      unfold cut2
      split <;> omega
    rw [List.sum_cons, List.sum_cons, go_zero_sum c _ t hp.tail hc.1 hc.2, Int.add_mul]
    omega
theorem alloc_sum (a : Int) (sh : List Int) (hp : Pos sh) (hn : sh ≠ []) : (alloc a sh).sum = a := by
  have h1 := hp.sum1 hn
  have h2 := Int.emod_nonneg a (show sh.sum ≠ 0 by omega)
  have h3 := Int.emod_lt_of_pos a h1
  unfold alloc
  rw [go_zero_sum _ _ _ hp h2 (by omega)]
  exact Int.mul_ediv_add_emod a sh.sum
theorem div_succ {a S : Int} (hS : 0 < S) (h : a % S + 1 < S) : (a + 1) / S = a / S ∧ (a + 1) % S = a % S + 1 := by
  have e := Int.mul_ediv_add_emod a S
  have h0 := Int.emod_nonneg a (show S ≠ 0 by omega)
  have e2 : a + 1 = (a % S + 1) + S * (a / S) := by omega
  rw [e2, Int.add_mul_ediv_left _ _ (by omega), Int.add_mul_emod_self_left, Int.ediv_eq_zero_of_lt (by omega) h, Int.emod_eq_of_lt (by omega) h]
  omega
theorem div_wrap {a S : Int} (hS : 0 < S) (h : a % S + 1 = S) : (a + 1) / S = a / S + 1 ∧ (a + 1) % S = 0 := by
  have e := Int.mul_ediv_add_emod a S
  have e2 : a + 1 = 0 + S * (a / S + 1) := by
    rw [Int.mul_add, Int.mul_one]
    omega
  rw [e2, Int.add_mul_ediv_left _ _ (by omega), Int.add_mul_emod_self_left, Int.zero_ediv, Int.zero_emod]
  omega
/-- one unit more goes to the next one -/
theorem alloc_succ (a : Int) (sh : List Int) (hp : Pos sh) (hn : sh ≠ []) : alloc (a + 1) sh = bump (nxt (a % sh.sum) sh) (alloc a sh) := by
  have h1 := hp.sum1 hn
  have h2 := Int.emod_nonneg a (show sh.sum ≠ 0 by omega)
  have h3 := Int.emod_lt_of_pos a h1
  unfold alloc
  by_cases h : a % sh.sum + 1 < sh.sum
  · obtain ⟨e1, e2⟩ := div_succ h1 h
    rw [e1, e2, go_succ _ _ _ hp h2 h3]
  · obtain ⟨e1, e2⟩ := div_wrap h1 (show a % sh.sum + 1 = sh.sum by omega)
    rw [e1, e2, ← go_full _ (a % sh.sum + 1) _ hp (by omega), go_succ _ _ _ hp h2 h3]
theorem nxt_lt : ∀ (r : Int) (sh : List Int), r < sh.sum → 0 ≤ r → nxt r sh < sh.length
  | r, [], h, h0 => by
    simp at h
    omega
  | r, s :: t, h, h0 => by
    rw [List.sum_cons] at h
    show (if r < s then 0 else nxt (r - s) t + 1) < t.length + 1
    split
    · omega
    · have := nxt_lt (r - s) t (by omega) (by omega)
      omega
theorem alloc_zero (sh : List Int) (hp : Pos sh) : alloc 0 sh = sh.map fun _ => 0 := by
  unfold alloc
  rw [Int.zero_ediv, Int.zero_emod]
  induction sh with
  | nil => rfl
  | cons s t ih =>
    have h := hp.head
    have e0 : cut2 s 0 = 0 := by
      unfold cut2
      rw [if_pos (by omega)]
    show (s * 0 + cut2 s 0) :: go 0 (0 - cut2 s 0) t = 0 :: t.map fun _ => 0
    rw [e0, Int.mul_zero, Int.sub_self, ih hp.tail]
    rfl
theorem alloc_nonneg {a : Int} {sh : List Int} (hp : Pos sh) (h0 : 0 ≤ a) : ∀ x ∈ alloc a sh, 0 ≤ x ∧ x ≤ a := by
  by_cases hn : sh = []
  · subst hn
    intro x hx
    exact (nomatch hx)
  have pos : ∀ (c r : Int) (sh : List Int), Pos sh → 0 ≤ c → 0 ≤ r → ∀ x ∈ go c r sh, 0 ≤ x := by
    intro c r sh
    induction sh generalizing r with
    | nil =>
      intro _ _ _ x hx
      exact (nomatch hx)
    | cons s t ih =>
      intro hp hc hr x hx
      have h1 := hp.head
      have hm : 0 ≤ s * c := Int.mul_nonneg (by omega) hc
      have hcut : 0 ≤ cut2 s r ∧ 0 ≤ r - cut2 s r := by
        unfold cut2
        split <;> omega
      rcases List.mem_cons.mp hx with e | hx
      · omega
      · exact ih _ hp.tail hc hcut.2 x hx
  have hS := hp.sum1 hn
  have h1 : ∀ x ∈ alloc a sh, 0 ≤ x := pos _ _ sh hp (Int.ediv_nonneg h0 (by omega)) (Int.emod_nonneg _ (by omega))
  have le : ∀ (xs : List Int), (∀ x ∈ xs, 0 ≤ x) → 0 ≤ xs.sum ∧ ∀ x ∈ xs, x ≤ xs.sum := by
    intro xs
    induction xs with
    | nil => exact fun _ => ⟨by simp, fun x hx => nomatch hx⟩
    | cons y t ih =>
      intro h
      obtain ⟨i1, i2⟩ := ih fun x hx => h x (List.mem_cons_of_mem _ hx)
      have h2 := h y List.mem_cons_self
      rw [List.sum_cons]
      refine ⟨by omega, fun x hx => ?_⟩
      rcases List.mem_cons.mp hx with e | hx
      · omega
      · have := i2 x hx
        omega
  intro x hx
  have := (le _ h1).2 x hx
  rw [alloc_sum a sh hp hn] at this
  exact ⟨h1 x hx, this⟩
/-! ### the program's two defs -/
structure Shs (K : PySem.W.Frag) (H : Hp) (s : Addr) (sh : List Int) : Prop where
  sq : Sq K H s (sh.map V.int)
  pos : Pos sh
  ne : sh ≠ []
  sum : sh.sum ≤ 100000
theorem le_sum : ∀ {sh : List Int}, Pos sh → ∀ x ∈ sh, x ≤ sh.sum
  | [], _, x, hx => nomatch hx
  | s :: t, hp, x, hx => by
    have h1 := hp.head
    have h2 := Pos.sum0 hp.tail
    rw [List.sum_cons]
    rcases List.mem_cons.mp hx with e | hx
    · omega
    · have := le_sum hp.tail x hx
      omega
theorem len_sum : ∀ {sh : List Int}, Pos sh → (sh.length : Int) ≤ sh.sum
  | [], _ => by simp
  | s :: t, hp => by
    have h1 := hp.head
    have h2 := len_sum hp.tail
    rw [List.sum_cons, List.length_cons]
    omega
def sp_allocate (K : PySem.W.Frag) : Sp := fun vs H Q _ => ∃ (a : Int) (s : Addr) (sh : List Int), vs = [.int a, .ref s] ∧ Shs K H s sh ∧
  ∀ (p : Addr) (H' : Hp), Same H H' → H p = none → H' p = some (.tup ((alloc a sh).map V.int)) → Q (.ref p) H'
def sp_next_unit (K : PySem.W.Frag) : Sp := fun vs H Q _ => ∃ (a : Int) (s : Addr) (sh : List Int), vs = [.int a, .ref s] ∧ Shs K H s sh ∧ Q (.int ((nxt (a % sh.sum) sh : Nat) : Int)) H
theorem go_step {c r : Int} {sh : List Int} {i : Nat} {v : Int} (h : sh[i]? = some v) : go c r (sh.drop i) = (v * c + cut2 v r) :: go c (r - cut2 v r) (sh.drop (i + 1)) := by
  obtain ⟨h1, h2⟩ := List.getElem?_eq_some_iff.mp h
  rw [List.drop_eq_getElem_cons h1, h2]
  rfl
theorem nxt_step {r : Int} {sh : List Int} {i : Nat} {v : Int} (h : sh[i]? = some v) : nxt r (sh.drop i) = if r < v then 0 else nxt (r - v) (sh.drop (i + 1)) + 1 := by
  obtain ⟨h1, h2⟩ := List.getElem?_eq_some_iff.mp h
  rw [List.drop_eq_getElem_cons h1, h2]
  rfl
/-! ### the law's own two divisions -/
def sp_law_parts (K : PySem.W.Frag) : Sp := fun vs H Q _ => ∃ (a : Int) (s : Addr) (sh : List Int), vs = [.int a, .ref s] ∧ SqT K H s (sh.map V.int) ∧ Shs K H s sh ∧
  ∀ (p : Addr) (H' : Hp), Same H H' → H p = none → H' p = some (.lst ((alloc a sh).map V.int)) → Q (.ref p) H'
def sp_law_by_units (K : PySem.W.Frag) : Sp := fun vs H Q _ => ∃ (a : Nat) (s : Addr) (sh : List Int), vs = [.int (a : Int), .ref s] ∧ a ≤ 100000 ∧ SqT K H s (sh.map V.int) ∧ Shs K H s sh ∧
  ∀ (p : Addr) (H' : Hp), Same H H' → H p = none → H' p = some (.tup ((alloc a sh).map V.int)) → Q (.ref p) H'
theorem sum_mul (c : Int) : ∀ sh : List Int, (sh.map fun s => c * s).sum = c * sh.sum
  | [] => by simp
  | s :: t => by rw [List.map_cons, List.sum_cons, List.sum_cons, sum_mul c t, Int.mul_add]
theorem pick2 {x y : Int} {b : Bool} : atI [V.int x, V.int y] (if b = true then 1 else 0) = some (V.int (if b = true then y else x)) := by
  cases b <;> rfl
theorem mid_get {acc t : List Int} {i : Nat} {v : Int} (hl : acc.length = i) : (acc ++ v :: t)[i]? = some v := by
  rw [List.getElem?_append_right (by omega), hl, Nat.sub_self]
  rfl
theorem mid_set {acc t : List Int} {i : Nat} {v z : Int} (hl : acc.length = i) : (acc ++ v :: t).set i z = acc ++ z :: t := by
  rw [List.set_append_right _ _ (by omega), hl, Nat.sub_self]
  rfl
theorem map_set (xs : List Int) (i : Nat) (z : Int) : (xs.map V.int).set i (.int z) = (xs.set i z).map V.int := by
  rw [List.map_set]
theorem ixN_nat {n j : Nat} (hj : j < n) : ixN n (j : Int) = some j := by
  unfold ixN
  rw [if_pos (by omega), if_pos (by omega)]
  simp
theorem zi (i : Nat) : (0 : Int) + (i : Int) = (i : Int) := Int.zero_add _
def ordr : Nat → List Int → List Int
  | _, [] => []
  | i, s :: t => List.replicate s.toNat (i : Int) ++ ordr (i + 1) t
theorem ordr_len : ∀ (i : Nat) {sh : List Int}, Pos sh → ((ordr i sh).length : Int) = sh.sum
  | _, [], _ => by simp [ordr]
  | i, s :: t, hp => by
    have h1 := hp.head
    have h2 := ordr_len (i + 1) hp.tail
    show (((List.replicate s.toNat (i : Int) ++ ordr (i + 1) t).length : Nat) : Int) = (s :: t).sum
    rw [List.length_append, List.length_replicate, List.sum_cons]
    omega
theorem ordr_get : ∀ (i : Nat) {sh : List Int} (r : Nat), Pos sh → (r : Int) < sh.sum → (ordr i sh)[r]? = some ((i + nxt (r : Int) sh : Nat) : Int)
  | _, [], r, _, h => by
    simp at h
    omega
  | i, s :: t, r, hp, h => by
    have h1 := hp.head
    rw [List.sum_cons] at h
    show (List.replicate s.toNat (i : Int) ++ ordr (i + 1) t)[r]? = some ((i + (if (r : Int) < s then 0 else nxt ((r : Int) - s) t + 1) : Nat) : Int)
    by_cases c : (r : Int) < s
    · rw [if_pos c, List.getElem?_append_left (by rw [List.length_replicate]; omega), List.getElem?_replicate, if_pos (by omega)]
      rfl
    · rw [if_neg c, List.getElem?_append_right (by rw [List.length_replicate]; omega), List.length_replicate]
      have e : (r : Int) - s = ((r - s.toNat : Nat) : Int) := by omega
      rw [ordr_get (i + 1) (r - s.toNat) hp.tail (by omega), e]
      congr 2
      omega
theorem flat_rep (n : Nat) (v : V) : (List.replicate n [v]).flatten = List.replicate n v := by
  induction n with
  | zero => rfl
  | succ k ih => rw [List.replicate_succ, List.flatten_cons, ih, List.replicate_succ] <;> rfl
theorem map_rep (n : Nat) (v : Int) : (List.replicate n v).map V.int = List.replicate n (V.int v) := List.map_replicate
/-! ### the law -/
def sp_law (K : PySem.W.Frag) : Sp := fun vs H Q _ => ∃ (a : Addr) (ns : List Int), vs = [.ref a] ∧ SqL K H a (ns.map V.int) ∧ ns.length ≤ 63 ∧ ∀ H', Q (.bl true) H'
theorem dp_tup {K : PySem.W.Frag} {H : Hp} {p : Addr} {ns : List Int} (h : SqT K H p (ns.map V.int)) : Dp K H (.ref p) (.tuple (ns.map PyData.int)) := .tup h (DpAll.ints ns)
theorem ok_tup {ns : List Int} (h : ns.length ≤ 5000) : dOk 8 (.tuple (ns.map PyData.int)) = true := by
  show (decide ((ns.map PyData.int).length ≤ 5000) && (ns.map PyData.int).all (dOk 7)) = true
  rw [Bool.and_eq_true, List.length_map]
  exact ⟨decide_eq_true h, dOk_ints 6 ns⟩
/-- the places where the greater one differs: the next one alone -/
theorem grown_one (j : Nat) (xs : List Int) : ∀ i : Nat, i ≤ xs.length → ((List.range i).filter fun k => decide ((bump j xs)[k]? ≠ xs[k]?)) = if j < i then [j] else []
  | 0, _ => rfl
  | i + 1, h => by
    rw [List.range_succ, List.filter_append, grown_one j xs i (by omega)]
    have hx : xs[i]? = some xs[i] := List.getElem?_eq_getElem (by omega)
    have e : (bump j xs)[i]? = some (if i = j then xs[i] + 1 else xs[i]) := by
      rw [bump_get, hx]
      rfl
    by_cases c : i = j
    · subst c
      rw [if_neg (Nat.lt_irrefl i), if_pos (Nat.lt_succ_self i), List.nil_append]
      have d : decide ((bump i xs)[i]? ≠ xs[i]?) = true := decide_eq_true (by
        rw [e, hx, if_pos rfl]
        intro z
        have := Option.some.inj z
        omega)
      simp only [List.filter_cons, List.filter_nil, d, if_true]
    · have d : ¬ decide ((bump j xs)[i]? ≠ xs[i]?) = true := by
        rw [decide_eq_true_eq]
        intro z
        exact z (by rw [e, hx, if_neg c])
      simp only [List.filter_cons, List.filter_nil, if_neg d, List.append_nil]
      by_cases c2 : j < i
      · rw [if_pos c2, if_pos (by omega)]
      · rw [if_neg c2, if_neg (by omega)]

end Sd
namespace Sd
open PySem PySem.Spec PyProof.Rows L2
set_option linter.all false
section
variable {P : Program} {w : World} {K : PySem.W.Frag} {mg : Str → Option Value} {base : Heap}
theorem ok_allocate {f : Addr} {fd : FuncData} (D_allocate : Dfn K mg "allocate" s_allocate ["amount", "shares"] f fd) (T : Tx mg) :
    FnOk P w K mg base CX0 (1) f fd ["amount", "shares"] (sp_allocate K) := by
  refine D_allocate.F.ok sc_allocate (fun vs H Q E h => ?_) (fun cdv A outer s H vs Q E hr h => ?_)
  · obtain ⟨a, s, sh, rfl, hS, q⟩ := h
    rfl
  obtain ⟨a, s, sh, rfl, hS, q⟩ := h
  have S0 := hS.pos.sum1 hS.ne
  have small : ∀ v ∈ sh, -(2 ^ 64) < v ∧ v < 2 ^ 64 := fun v hv => by
    have h1 := hS.pos v hv
    have h2 := le_sum hS.pos v hv
    have h3 := hS.sum
    omega
  have hlen : sh.length ≤ 100000 := by
    have h1 := len_sum hS.pos
    have h3 := hS.sum
    omega
  have hsum := hS.sum
  obtain ⟨hsq, hpos, hne, _⟩ := hS
  rcases hsq with hq | hq
  · refine ⟨_, (pss_cons (ps_asg (pe_callB call_divmod (by rfl) T.divmod (by decide +kernel) (pa_cons (pv 0) (pa_cons (pe_callB (cr_sumS rfl) (by rfl) T.sum (by decide +kernel) (pa_cons (pv 1) pa_nil)) pa_nil))) (pg_tup rfl (pgs_cons (pg_name (i := 2) sc_allocate.nd rfl (by first | exact Or.inl rfl | exact Or.inr rfl)) (pgs_cons (pg_name (i := 3) sc_allocate.nd rfl (by first | exact Or.inl rfl | exact Or.inr rfl)) pgs_nil))))
      (pss_cons (ps_set (i := 4) sc_allocate.nd rfl (by first | exact Or.inl rfl | exact Or.inr rfl) (pe_lst pa_nil))
      (pss_cons (ps_for PassesOwn.never rfl (pi_list (pv 1)) (pg_name (i := 5) sc_allocate.nd rfl (by first | exact Or.inl rfl | exact Or.inr rfl))
      (pss_cons (ps_set (i := 6) sc_allocate.nd rfl (by first | exact Or.inl rfl | exact Or.inr rfl) (pe_callB (call_min2 rfl) (by rfl) T.min (by decide +kernel) (pa_cons (pv 5) (pa_cons (pv 3) pa_nil))))
      (pss_cons (ps_expr (pe_bm PySem.F.plainAttrs_list PySem.F.slot_list_append PySem.F.type_list_append mt_append (pv 4) (pa_cons (pe_op op_add (pe_op op_mul (pv 5) (pv 2)) (pv 6)) pa_nil)))
      (pss_one (ps_aug (i := 3) sc_allocate.nd rfl (by first | exact Or.inl rfl | exact Or.inr rfl) (pv 6) ip_sub)))))
      (pss_one (ps_ret (pe_callTy call_tuple_of (by rfl) T.tuple (by decide +kernel) (pa_cons (pv 4) pa_nil))))))), ?_⟩
    refine ⟨_, rfl, _, rfl, s, sh, rfl, .inl hq, _, _, rfl, ⟨S0, by omega⟩, fun p np => ⟨p, _, rfl, SqT.of upd_same, rfl, _, _, rfl, _, _, rfl, rfl, Nat.zero_le _, fun o no => ?_⟩⟩
    have s1 : Same H (upd (upd H p (.tup [.int (a / sh.sum), .int (a % sh.sum)])) o (.lst [])) := same_add (same_new np) no
    refine ⟨_, rfl, s, rfl, ⟨_, s1.seq hq⟩, for_list (K := K) (a := s) (xs := sh.map V.int) (fun i σ H' => ∃ (r : Int) (acc : List Int) (v1 v2 : Option V), σ = [some (.int a), some (.ref s), some (.int (a / sh.sum)), some (.int r), some (.ref o), v1, v2] ∧ Same H H' ∧
      H' o = some (.lst (acc.map V.int)) ∧ acc.length = i ∧ alloc a sh = acc ++ go (a / sh.sum) r (sh.drop i)) ⟨a % sh.sum, [], none, none, rfl, s1, upd_same, rfl, rfl⟩ (fun i σ H' _ ⟨_, _, _, _, _, sm, _⟩ => sm.seq hq) ?_ ?_⟩
    · rintro i y σ H' hi ⟨r, acc, v1, v2, rfl, sm, ho, hl, hal⟩
      obtain ⟨v, rfl, hv⟩ := of_at_map hi
      have hil := (List.getElem?_eq_some_iff.mp hv).1
      have hb := small v (List.mem_of_getElem? hv)
      rw [go_step hv] at hal
      refine ⟨_, rfl, _, rfl, _, _, rfl, ?_⟩
      refine ⟨_, rfl, .inl ⟨rfl, _, SqL.of ho⟩, _, rfl, _, rfl, _, _, rfl, rfl, .inl hb, _, rfl, _, _, rfl, rfl, o, _, _, rfl, rfl, ho, by rw [List.length_map]; exact szl (by omega), ?_⟩
      refine ⟨_, rfl, _, rfl, _, _, rfl, rfl, ?_⟩
      refine ⟨r - cut2 v r, acc ++ [v * (a / sh.sum) + cut2 v r], _, _, rfl, same_put sm (free2 np no), ?_, ?_, ?_⟩
      · rw [upd_same, List.map_append]
        rfl
      · rw [List.length_append, hl]
        rfl
      · rw [hal, List.append_assoc]
        rfl
    · rintro σ H' ⟨r, acc, v1, v2, rfl, sm, ho, hl, hal⟩
      rw [List.length_map] at hal
      rw [List.drop_eq_nil_of_le (Nat.le_refl _)] at hal
      have hal2 : alloc a sh = acc := hal.trans (List.append_nil _)
      refine ⟨_, rfl, o, _, rfl, .inl ⟨SqL.of ho, fun l nl => ?_⟩⟩
      exact q l _ (same_add sm nl) (sm.free nl) (by rw [upd_same, hal2])
  · refine ⟨_, (pss_cons (ps_asg (pe_callB call_divmod (by rfl) T.divmod (by decide +kernel) (pa_cons (pv 0) (pa_cons (pe_callB (cr_sumS rfl) (by rfl) T.sum (by decide +kernel) (pa_cons (pv 1) pa_nil)) pa_nil))) (pg_tup rfl (pgs_cons (pg_name (i := 2) sc_allocate.nd rfl (by first | exact Or.inl rfl | exact Or.inr rfl)) (pgs_cons (pg_name (i := 3) sc_allocate.nd rfl (by first | exact Or.inl rfl | exact Or.inr rfl)) pgs_nil))))
      (pss_cons (ps_set (i := 4) sc_allocate.nd rfl (by first | exact Or.inl rfl | exact Or.inr rfl) (pe_lst pa_nil))
      (pss_cons (ps_for PassesOwn.never rfl (pi_tup (pv 1)) (pg_name (i := 5) sc_allocate.nd rfl (by first | exact Or.inl rfl | exact Or.inr rfl))
      (pss_cons (ps_set (i := 6) sc_allocate.nd rfl (by first | exact Or.inl rfl | exact Or.inr rfl) (pe_callB (call_min2 rfl) (by rfl) T.min (by decide +kernel) (pa_cons (pv 5) (pa_cons (pv 3) pa_nil))))
      (pss_cons (ps_expr (pe_bm PySem.F.plainAttrs_list PySem.F.slot_list_append PySem.F.type_list_append mt_append (pv 4) (pa_cons (pe_op op_add (pe_op op_mul (pv 5) (pv 2)) (pv 6)) pa_nil)))
      (pss_one (ps_aug (i := 3) sc_allocate.nd rfl (by first | exact Or.inl rfl | exact Or.inr rfl) (pv 6) ip_sub)))))
      (pss_one (ps_ret (pe_callTy call_tuple_of (by rfl) T.tuple (by decide +kernel) (pa_cons (pv 4) pa_nil))))))), ?_⟩
    refine ⟨_, rfl, _, rfl, s, sh, rfl, .inr hq, _, _, rfl, ⟨S0, by omega⟩, fun p np => ⟨p, _, rfl, SqT.of upd_same, rfl, _, _, rfl, _, _, rfl, rfl, Nat.zero_le _, fun o no => ?_⟩⟩
    have s1 : Same H (upd (upd H p (.tup [.int (a / sh.sum), .int (a % sh.sum)])) o (.lst [])) := same_add (same_new np) no
    refine ⟨_, rfl, s, rfl, ⟨_, same_sqt s1 hq⟩, for_tup (K := K) (a := s) (xs := sh.map V.int) (fun i σ H' => ∃ (r : Int) (acc : List Int) (v1 v2 : Option V), σ = [some (.int a), some (.ref s), some (.int (a / sh.sum)), some (.int r), some (.ref o), v1, v2] ∧ Same H H' ∧
      H' o = some (.lst (acc.map V.int)) ∧ acc.length = i ∧ alloc a sh = acc ++ go (a / sh.sum) r (sh.drop i)) ⟨a % sh.sum, [], none, none, rfl, s1, upd_same, rfl, rfl⟩ (fun i σ H' _ ⟨_, _, _, _, _, sm, _⟩ => same_sqt sm hq) ?_ ?_⟩
    · rintro i y σ H' hi ⟨r, acc, v1, v2, rfl, sm, ho, hl, hal⟩
      obtain ⟨v, rfl, hv⟩ := of_at_map hi
      have hil := (List.getElem?_eq_some_iff.mp hv).1
      have hb := small v (List.mem_of_getElem? hv)
      rw [go_step hv] at hal
      refine ⟨_, rfl, _, rfl, _, _, rfl, ?_⟩
      refine ⟨_, rfl, .inl ⟨rfl, _, SqL.of ho⟩, _, rfl, _, rfl, _, _, rfl, rfl, .inl hb, _, rfl, _, _, rfl, rfl, o, _, _, rfl, rfl, ho, by rw [List.length_map]; exact szl (by omega), ?_⟩
      refine ⟨_, rfl, _, rfl, _, _, rfl, rfl, ?_⟩
      refine ⟨r - cut2 v r, acc ++ [v * (a / sh.sum) + cut2 v r], _, _, rfl, same_put sm (free2 np no), ?_, ?_, ?_⟩
      · rw [upd_same, List.map_append]
        rfl
      · rw [List.length_append, hl]
        rfl
      · rw [hal, List.append_assoc]
        rfl
    · rintro σ H' ⟨r, acc, v1, v2, rfl, sm, ho, hl, hal⟩
      rw [List.length_map] at hal
      rw [List.drop_eq_nil_of_le (Nat.le_refl _)] at hal
      have hal2 : alloc a sh = acc := hal.trans (List.append_nil _)
      refine ⟨_, rfl, o, _, rfl, .inl ⟨SqL.of ho, fun l nl => ?_⟩⟩
      exact q l _ (same_add sm nl) (sm.free nl) (by rw [upd_same, hal2])

theorem ok_next_unit {f : Addr} {fd : FuncData} (D_next_unit : Dfn K mg "next_unit" s_next_unit ["amount", "shares"] f fd) (T : Tx mg) :
    FnOk P w K mg base CX0 (1) f fd ["amount", "shares"] (sp_next_unit K) := by
  refine D_next_unit.F.ok sc_next_unit (fun vs H Q E h => ?_) (fun cdv A outer s H vs Q E hr h => ?_)
  · obtain ⟨a, s, sh, rfl, hS, q⟩ := h
    rfl
  obtain ⟨a, s, sh, rfl, hS, q⟩ := h
  refine ⟨_, (pss_cons (ps_set (i := 2) sc_next_unit.nd rfl (by first | exact Or.inl rfl | exact Or.inr rfl) (pe_op op_mod (pv 0) (pe_callB (cr_sumS rfl) (by rfl) T.sum (by decide +kernel) (pa_cons (pv 1) pa_nil))))
      (pss_cons (ps_set (i := 3) sc_next_unit.nd rfl (by first | exact Or.inl rfl | exact Or.inr rfl) pe_int)
      (pss_cons (ps_while PassesOwn.never (pt_cmpR op_ge (pv 2) (pe_ix (r := rIx K) ix_seq (pv 1) (pv 3) (fun _ _ => rfl)) (nomark _))
      (pss_cons (ps_aug (i := 2) sc_next_unit.nd rfl (by first | exact Or.inl rfl | exact Or.inr rfl) (pe_ix (r := rIx K) ix_seq (pv 1) (pv 3) (fun _ _ => rfl)) ip_sub)
      (pss_one (ps_aug (i := 3) sc_next_unit.nd rfl (by first | exact Or.inl rfl | exact Or.inr rfl) pe_int ip_add))))
      (pss_one (ps_ret (pv 3)))))), ?_⟩
  have S0 := hS.pos.sum1 hS.ne
  have r0 := Int.emod_nonneg a (show sh.sum ≠ 0 by omega)
  have r1 := Int.emod_lt_of_pos a S0
  refine ⟨_, rfl, _, rfl, s, sh, rfl, hS.sq, _, _, rfl, rfl, S0, ?_⟩
  refine ⟨fun m σ H' => ∃ (r : Int) (i : Nat), σ = [some (.int a), some (.ref s), some (.int r), some (.int (i : Int))] ∧ H' = H ∧ 0 ≤ r ∧ r < (sh.drop i).sum ∧ m = sh.length - i ∧ nxt (a % sh.sum) sh = i + nxt r (sh.drop i),
    ⟨_, a % sh.sum, 0, rfl, rfl, r0, r1, rfl, by simp⟩, ?_⟩
  rintro m σ H' ⟨r, i, rfl, rfl, h0, h1, rfl, hn⟩
  have hi : i < sh.length := by
    by_cases c : i < sh.length
    · exact c
    · rw [List.drop_eq_nil_of_le (by omega)] at h1
      simp at h1
      omega
  obtain ⟨v, hv⟩ : ∃ v, sh[i]? = some v := ⟨_, List.getElem?_eq_getElem hi⟩
  have hd : sh.drop i = v :: sh.drop (i + 1) := by
    obtain ⟨g1, g2⟩ := List.getElem?_eq_some_iff.mp hv
    rw [List.drop_eq_getElem_cons g1, g2]
  rw [hd, List.sum_cons] at h1
  refine ⟨_, rfl, _, rfl, _, rfl, sq_ix hS.sq (atI_nat (at_map hv)) ⟨_, _, rfl, rfl, _, rfl, ?_⟩⟩
  refine iteB (fun c => ?_) (fun c => ?_)
  · have c' : v ≤ r := of_decide_eq_true c
    refine ⟨fun σ' H2 => ∃ m', m' < sh.length - i ∧ _, fun _ _ h => h, ?_⟩
    refine ⟨_, rfl, _, rfl, _, rfl, sq_ix hS.sq (atI_nat (at_map hv)) ⟨_, _, rfl, rfl, ?_⟩⟩
    refine ⟨_, rfl, _, _, rfl, rfl, ?_⟩
    refine ⟨sh.length - (i + 1), by omega, r - v, i + 1, rfl, rfl, by omega, by omega, rfl, ?_⟩
    rw [hn, hd]
    show i + (if r < v then 0 else nxt (r - v) (sh.drop (i + 1)) + 1) = i + 1 + nxt (r - v) (sh.drop (i + 1))
    rw [if_neg (by omega)]
    omega
  · have c' : ¬ v ≤ r := of_decide_eq_false c
    refine ⟨_, rfl, ?_⟩
    have e : nxt (a % sh.sum) sh = i := by
      rw [hn, hd]
      show i + (if r < v then 0 else _) = i
      rw [if_pos (by omega)]
      rfl
    rw [e] at q
    exact q

theorem ok_law_cell {f : Addr} {fd : FuncData} (D_law_cell : Dfn K mg "_law_cell" s_law_cell ["script", "k"] f fd) (T : Tx mg) :
    FnOk P w K mg base CX0 (1) f fd ["script", "k"] (sp_law_cell K) := by
  refine D_law_cell.F.ok sc_law_cell (fun vs H Q E h => ?_) (fun cdv A outer s H vs Q E hr h => ?_)
  · obtain ⟨a, ns, j, rfl, hS, q⟩ := h
    rfl
  obtain ⟨a, ns, j, rfl, hS, q⟩ := h
  refine ⟨_, (pss_cons (ps_if (pt_cmpR op_lt (pv 1) (pe_callB call_len_seq (by rfl) T.len PySem.boot_len (pa_cons (pv 0) pa_nil)) (nomark _))
      (pss_one (ps_ret (pe_callTy call_int1 (by rfl) T.int (by decide +kernel) (pa_cons (pe_ix (r := rIxL K) ix_list (pv 0) (pv 1) (fun _ _ => rfl)) pa_nil))))
      pss_nil)
      (pss_one (ps_ret pe_int))), ?_⟩
  refine ⟨_, rfl, _, rfl, a, _, rfl, .inl hS, _, _, rfl, rfl, _, rfl, ?_⟩
  refine iteB (fun c => ?_) (fun c => ?_)
  · have c' : (j : Int) < ((ns.map V.int).length : Nat) := of_decide_eq_true c
    rw [List.length_map] at c'
    exact ⟨_, rfl, _, rfl, a, _, _, V.int (cell ns j), rfl, rfl, hS, atI_nat (at_map (cell_in (by omega))), .inl ⟨_, rfl, q⟩⟩
  · have c' : ¬ (j : Int) < ((ns.map V.int).length : Nat) := of_decide_eq_false c
    rw [List.length_map] at c'
    have e : cell ns j = 0 := cell_out (by omega)
    rw [e] at q
    exact q

theorem ok_law_draws {f : Addr} {fd : FuncData} (D_law_draws : Dfn K mg "_law_draws" s_law_draws ["cell", "count"] f fd) (T : Tx mg) :
    FnOk P w K mg base CX0 (1) f fd ["cell", "count"] (sp_law_draws K) := by
  refine D_law_draws.F.ok sc_law_draws (fun vs H Q E h => ?_) (fun cdv A outer s H vs Q E hr h => ?_)
  · obtain ⟨c, n, rfl, hn, q⟩ := h
    rfl
  obtain ⟨c, n, rfl, hn, q⟩ := h
  refine ⟨_, (pss_cons (ps_set (i := 2) sc_law_draws.nd rfl (by first | exact Or.inl rfl | exact Or.inr rfl) (pe_callB call_abs (by rfl) T.abs (by decide +kernel) (pa_cons (pe_callTy call_int1 (by rfl) T.int (by decide +kernel) (pa_cons (pv 0) pa_nil)) pa_nil)))
      (pss_cons (ps_set (i := 3) sc_law_draws.nd rfl (by first | exact Or.inl rfl | exact Or.inr rfl) (pe_cmpR op_ge (pv 2) (pe_op op_pow pe_int pe_int) (nomark _)))
      (pss_cons (ps_set (i := 4) sc_law_draws.nd rfl (by first | exact Or.inl rfl | exact Or.inr rfl) (pe_lst pa_nil))
      (pss_cons (ps_for PassesOwn.never rfl (pi_range1 (by rfl) T.range (pa_cons pe_int pa_nil)) (pg_name (i := 5) sc_law_draws.nd rfl (by first | exact Or.inl rfl | exact Or.inr rfl))
      (pss_one (ps_if (PW.pt (pw_and (pt_cmpR op_lt (pv 5) (pv 1) (nomark _)) (pw_and1 (pt_val (pv 3)))))
      (pss_cons (ps_expr (pe_bm PySem.F.plainAttrs_list PySem.F.slot_list_append PySem.F.type_list_append mt_append (pv 4) (pa_cons (pe_op op_mod (pv 2) pe_int) pa_nil)))
      (pss_one (ps_set (i := 2) sc_law_draws.nd rfl (by first | exact Or.inl rfl | exact Or.inr rfl) (pe_op op_fdiv (pv 2) pe_int))))
      (pss_one (ps_if (pt_cmpR op_lt (pv 5) (pv 1) (nomark _))
      (pss_cons (ps_set (i := 6) sc_law_draws.nd rfl (by first | exact Or.inl rfl | exact Or.inr rfl) (pe_op op_mod (pe_op op_add (pe_op op_add (pe_op op_mul (pe_callTy call_int1 (by rfl) T.int (by decide +kernel) (pa_cons (pv 2) pa_nil)) pe_int) (pe_op op_mul (pv 5) pe_int)) pe_int) pe_int))
      (pss_cons (ps_set (i := 6) sc_law_draws.nd rfl (by first | exact Or.inl rfl | exact Or.inr rfl) (pe_op op_mod (pe_op op_add (pe_op op_add (pe_op op_mul (pe_callTy call_int1 (by rfl) T.int (by decide +kernel) (pa_cons (pv 6) pa_nil)) (pe_callTy call_int1 (by rfl) T.int (by decide +kernel) (pa_cons (pv 6) pa_nil))) (pe_op op_mul (pv 5) pe_int)) pe_int) pe_int))
      (pss_one (ps_expr (pe_bm PySem.F.plainAttrs_list PySem.F.slot_list_append PySem.F.type_list_append mt_append (pv 4) (pa_cons (pe_op op_mod (pe_callTy call_int1 (by rfl) T.int (by decide +kernel) (pa_cons (pv 6) pa_nil)) pe_int) pa_nil))))))
      pss_nil)))))
      (pss_one (ps_ret (pv 4))))))), ?_⟩
  refine ⟨_, rfl, .inl ⟨_, rfl, _, rfl, _, rfl, _, _, rfl, rfl, ⟨by decide, by decide, by decide⟩, _, _, rfl, rfl, Nat.zero_le _, fun o no => ?_⟩⟩
  have h0 : 0 ≤ (if c < 0 then -c else c) := by split <;> omega
  generalize (if c < 0 then -c else c) = num at h0 ⊢
  obtain ⟨gr, hg⟩ : ∃ gr, decide ((10 : Int) ^ (18 : Int).toNat ≤ num) = gr := ⟨_, rfl⟩
  have h1 : gr = false → num < 1000000000000000000 := fun e => by
    rw [e] at hg
    have z := of_decide_eq_false hg
    have z2 : (10 : Int) ^ (18 : Int).toNat = 1000000000000000000 := by decide
    rw [z2] at z
    omega
  refine ⟨60, rfl, by decide, by decide, for_range (lo := 0) (n := 60) (fun i σ H' => ∃ (m : Int) (ds : List Int) (kv mv : Option V), σ = [some (.int c), some (.int (n : Int)), some (.int m), some (.bl gr), some (.ref o), kv, mv] ∧ 0 ≤ m ∧ (gr = false → m < 1000000000000000000) ∧
    Same H H' ∧ H' o = some (.lst (ds.map V.int)) ∧ ds.length = min i n ∧ ∀ x ∈ ds, 0 ≤ x ∧ x < 60) ⟨num, [], none, none, by rw [← hg]; rfl, h0, h1, same_new no, upd_same, by simp, fun x hx => (nomatch hx)⟩ ?_ ?_⟩
  · rintro i σ H' hi ⟨m, ds, kv, mv, rfl, m0, m1, sm, ho, hl, hb⟩
    have app : ∀ z : Int, ((ds ++ [z % 60]).length = ds.length + 1) := fun z => by rw [List.length_append]; rfl
    have ea : ∀ z : Int, ds.map V.int ++ [V.int (z % 60)] = (ds ++ [z % 60]).map V.int := fun z => by rw [List.map_append]; rfl
    have hz : (ds.map V.int).length < sizeLine := by rw [List.length_map]; exact szl (by omega)
    refine ⟨_, rfl, _, rfl, _, _, rfl, rfl, _, rfl, ?_⟩
    refine iteB (fun c1 => ?_) (fun c1 => ?_)
    · have c1' : (0 : Int) + (i : Int) < (n : Int) := of_decide_eq_true c1
      refine ⟨_, rfl, _, rfl, ?_⟩
      refine iteB (fun c2 => ?_) (fun c2 => ?_)
      · refine ⟨_, rfl, .inl ⟨rfl, _, SqL.of ho⟩, _, rfl, _, _, rfl, rfl, (by show (0 : Int) < 60; decide), o, _, _, rfl, rfl, ho, hz, ?_⟩
        refine ⟨_, rfl, _, _, rfl, rfl, ⟨by decide, by decide⟩, ?_⟩
        refine ⟨m / 60, ds ++ [m % 60], _, _, rfl, Int.ediv_nonneg m0 (by decide), (fun z => by rw [c2] at z; cases z), same_put sm no, by rw [upd_same, ea], by rw [app]; omega, digs_add hb⟩
      · have g1 := m1 c2
        refine ⟨_, rfl, _, rfl, _, _, rfl, rfl, _, rfl, ?_⟩
        refine iteB (fun c3 => ?_) (fun c3 => ?_)
        · refine ⟨_, rfl, .inl ⟨_, rfl, _, _, rfl, rfl, .inr (by decide), _, rfl, _, _, rfl, rfl, .inr (by decide), _, _, rfl, rfl, _, _, rfl, rfl, _, _, rfl, rfl, (by show (0 : Int) < 2147483647; decide), ?_⟩⟩
          generalize hx : ((m * 48271 + (0 + (i : Int)) * 69621 + 11) % 2147483647) = x
          have x0 : 0 ≤ x ∧ x < 2147483647 := by omega
          refine ⟨_, rfl, .inl ⟨_, rfl, _, rfl, .inl ⟨_, rfl, _, _, rfl, rfl, .inl (by constructor <;> omega), _, rfl, _, _, rfl, rfl, .inr (by decide), _, _, rfl, rfl, _, _, rfl, rfl, _, _, rfl, rfl, (by show (0 : Int) < 998244353; decide), ?_⟩⟩⟩
          refine ⟨_, rfl, .inl ⟨rfl, _, SqL.of ho⟩, _, rfl, .inl ⟨_, rfl, _, _, rfl, rfl, (by show (0 : Int) < 60; decide), o, _, _, rfl, rfl, ho, hz, ?_⟩⟩
          refine ⟨m, ds ++ [_ % 60], _, _, rfl, m0, m1, same_put sm no, by rw [upd_same, ea], by rw [app]; omega, digs_add hb⟩
        · rw [c1] at c3
          cases c3
    · have c1' : ¬ (0 : Int) + (i : Int) < (n : Int) := of_decide_eq_false c1
      refine ⟨_, rfl, _, rfl, _, _, rfl, rfl, _, rfl, ?_⟩
      refine iteB (fun c3 => ?_) (fun c3 => ?_)
      · rw [c1] at c3
        cases c3
      · exact ⟨m, ds, _, _, rfl, m0, m1, sm, ho, by omega, hb⟩
  · rintro σ H' ⟨m, ds, kv, mv, rfl, m0, m1, sm, ho, hl, hb⟩
    exact ⟨_, rfl, q o H' ds sm no ho ⟨by omega, hb⟩⟩

theorem ok_law_stream {f : Addr} {fd : FuncData} (D_law_stream : Dfn K mg "_law_stream" s_law_stream ["script", "first", "count"] f fd) (T : Tx mg) {f_law_draws : Addr} {fd_law_draws : FuncData} (D_law_draws : Dfn K mg "_law_draws" s_law_draws ["cell", "count"] f_law_draws fd_law_draws) (G_law_draws : FnOk P w K mg base CX0 (1) f_law_draws fd_law_draws ["cell", "count"] (sp_law_draws K)) {f_law_cell : Addr} {fd_law_cell : FuncData} (D_law_cell : Dfn K mg "_law_cell" s_law_cell ["script", "k"] f_law_cell fd_law_cell) (G_law_cell : FnOk P w K mg base CX0 (1) f_law_cell fd_law_cell ["script", "k"] (sp_law_cell K)) :
    FnOk P w K mg base CX0 (2) f fd ["script", "first", "count"] (sp_law_stream K) := by
  refine D_law_stream.F.ok sc_law_stream (fun vs H Q E h => ?_) (fun cdv A outer s H vs Q E hr h => ?_)
  · obtain ⟨a, ns, j, n, rfl, hS, hn0, hn, q⟩ := h
    rfl
  obtain ⟨a, ns, j, n, rfl, hS, hn0, hn, q⟩ := h
  refine ⟨_, (pss_cons (ps_set (i := 3) sc_law_stream.nd rfl (by first | exact Or.inl rfl | exact Or.inr rfl) (pe_lst pa_nil))
      (pss_cons (ps_for PassesOwn.never rfl (pi_range1 (by rfl) T.range (pa_cons (pv 2) pa_nil)) (pg_name (i := 4) sc_law_stream.nd rfl (by first | exact Or.inl rfl | exact Or.inr rfl))
      (pss_one (ps_expr (pe_bm PySem.F.plainAttrs_list PySem.F.slot_list_extend PySem.F.type_list_extend mt_extend (pv 3) (pa_cons (pe_call G_law_draws (hr.mono (by first | decide | omega)) rfl D_law_draws.m D_law_draws.F.kp D_law_draws.b .nil pass0 (pa_cons (pe_call G_law_cell (hr.mono (by first | decide | omega)) rfl D_law_cell.m D_law_cell.F.kp D_law_cell.b .nil pass0 (pa_cons (pv 0) (pa_cons (pe_op op_add (pv 1) (pv 4)) pa_nil))) (pa_cons pe_int pa_nil))) pa_nil)))))
      (pss_one (ps_ret (pe_lst (pa_cons (pv 3) (pa_cons (pe_lst (pa_cons pe_int pa_nil)) pa_nil))))))), ?_⟩
  refine ⟨Nat.zero_le _, fun o no => ?_⟩
  refine ⟨_, rfl, (n : Int), rfl, by omega, by omega, ?_⟩
  rw [show (n : Int).toNat = n by omega]
  refine for_range (lo := 0) (n := n) (fun i σ H' => ∃ (ds : List Int) (kv : Option V), σ = [some (.ref a), some (.int (j : Int)), some (.int (n : Int)), some (.ref o), kv] ∧ Same H H' ∧ H' o = some (.lst (ds.map V.int)) ∧ ds.length = 12 * i) ⟨[], none, rfl, same_new no, upd_same, rfl⟩ ?_ ?_
  · rintro i σ H' hi ⟨ds, kv, rfl, sm, ho, hl⟩
    refine ⟨_, rfl, .inl ⟨rfl, _, SqL.of ho⟩, _, rfl, _, rfl, _, rfl, _, _, rfl, rfl, a, ns, j + i, ?_, sm.seq hS, ?_⟩
    · show [V.ref a, V.int ((j : Int) + ((0 : Int) + (i : Int)))] = [V.ref a, V.int ((j + i : Nat) : Int)]
      rw [show (j : Int) + ((0 : Int) + (i : Int)) = ((j + i : Nat) : Int) by omega]
    · refine ⟨_, 12, rfl, by decide, fun o2 H2 d2 s2 n2 h2 hd => ?_⟩
      have ne : o ≠ o2 := ne_of_none ho n2
      have e1 := s2 _ _ ho
      refine ⟨o, o2, _, _, rfl, rfl, e1, h2, ?_, ?_⟩
      · rw [List.length_map, List.length_map, hl, hd.1]
        exact sz (by omega)
      · refine ⟨ds ++ d2, _, rfl, same_put (sm.trans s2) no, by rw [upd_same, List.map_append], ?_⟩
        rw [List.length_append, hl, hd.1]
        omega
  · rintro σ H' ⟨ds, kv, rfl, sm, ho, hl⟩
    refine ⟨_, rfl, sz (by show 1 ≤ 100000; decide), fun p np => ?_⟩
    refine ⟨sz (by show 2 ≤ 100000; decide), fun s ns' => ?_⟩
    have n1 : o ≠ p := ne_of_none ho np
    have n2 : s ≠ p := Bar.new upd_same ns'
    have n3 : o ≠ s := ne_of_none (by rw [upd_ne n1]; exact ho) ns'
    refine q s p _ (same_add (same_add sm np) ns') (sm.free np) ⟨o, ds, 0, upd_same, ?_, by omega, ?_, n2, n1⟩
    · rw [upd_ne n3, upd_ne n1]
      exact ho
    · rw [upd_ne n2.symm, upd_same]
      rfl

theorem ok_law_next {f : Addr} {fd : FuncData} (D_law_next : Dfn K mg "_law_next" s_law_next ["stream", "many"] f fd) (T : Tx mg) :
    FnOk P w K mg base CX0 (1) f fd ["stream", "many"] (sp_law_next K) := by
  refine D_law_next.F.ok sc_law_next (fun vs H Q E h => ?_) (fun cdv A outer s H vs Q E hr h => ?_)
  · obtain ⟨s, p, m, rfl, hm, hS, q⟩ := h
    rfl
  obtain ⟨s, p, m, rfl, hm, hS, q⟩ := h
  refine ⟨_, (pss_cons (ps_set (i := 2) sc_law_next.nd rfl (by first | exact Or.inl rfl | exact Or.inr rfl) (pe_ix (r := rIxL K) ix_list (pv 0) pe_int (fun _ _ => rfl)))
      (pss_cons (ps_set (i := 3) sc_law_next.nd rfl (by first | exact Or.inl rfl | exact Or.inr rfl) (pe_ix (r := rIxL K) ix_list (pv 0) pe_int (fun _ _ => rfl)))
      (pss_cons (ps_set (i := 4) sc_law_next.nd rfl (by first | exact Or.inl rfl | exact Or.inr rfl) (pe_op op_mod (pe_callTy call_int1 (by rfl) T.int (by decide +kernel) (pa_cons (pe_ix (r := rIxL K) ix_list (pv 2) (pe_op op_mod (pe_callTy call_int1 (by rfl) T.int (by decide +kernel) (pa_cons (pe_ix (r := rIxL K) ix_list (pv 3) pe_int (fun _ _ => rfl)) pa_nil)) (pe_callB call_len_seq (by rfl) T.len PySem.boot_len (pa_cons (pv 2) pa_nil))) (fun _ _ => rfl)) pa_nil)) (pv 1)))
      (pss_cons (ps_asg (pe_op op_add (pe_ix (r := rIxL K) ix_list (pv 3) pe_int (fun _ _ => rfl)) pe_int) (pg_sub (pv 3) pe_int set_list))
      (pss_one (ps_ret (pv 4))))))), ?_⟩
  obtain ⟨d, ds, n, a1, a2, a3, a4, a5, a6⟩ := hS.ex
  obtain ⟨v, hv⟩ := mod_at (n := n) a3
  refine ⟨_, rfl, s, _, _, .ref d, rfl, rfl, SqL.of a1, rfl, ?_⟩
  refine ⟨_, rfl, s, _, _, .ref p, rfl, rfl, SqL.of a1, rfl, ?_⟩
  refine ⟨_, rfl, _, rfl, p, _, _, .int (n : Int), rfl, rfl, SqL.of a4, rfl, .inl ⟨_, rfl, _, rfl, d, _, rfl, .inl (SqL.of a2), _, _, rfl, rfl, ?_, d, _, _, .int v, rfl, rfl, SqL.of a2, hv, .inl ⟨_, rfl, _, rfl, _, _, rfl, rfl, hm, ?_⟩⟩⟩
  · rw [List.length_map]
    show (0 : Int) < (ds.length : Int)
    omega
  refine ⟨_, rfl, p, _, _, .int (n : Int), rfl, rfl, SqL.of a4, rfl, _, _, rfl, rfl, _, rfl, p, _, 0, 0, rfl, rfl, a4, rfl, ?_⟩
  refine ⟨_, rfl, q _ _ (Int.emod_nonneg _ (by omega)) (Int.emod_lt_of_pos _ hm) (Bar.put (Bar.refl H)) ⟨d, ds, n + 1, ?_, ?_, a3, ?_, a5, a6⟩⟩
  · rw [upd_ne a5]
    exact a1
  · rw [upd_ne a6]
    exact a2
  · rw [upd_same]
    rfl

theorem ok_law_is_integer {f : Addr} {fd : FuncData} (D_law_is_integer : Dfn K mg "_law_is_integer" s_law_is_integer ["actual"] f fd) (T : Tx mg) :
    FnOk P w K mg base CX0 (1) f fd ["actual"] (sp_law_is_integer K) := by
  refine D_law_is_integer.F.ok sc_law_is_integer (fun vs H Q E h => ?_) (fun cdv A outer s H vs Q E hr h => ?_)
  · obtain ⟨i, rfl, q⟩ := h
    rfl
  obtain ⟨i, rfl, q⟩ := h
  refine ⟨_, (pss_one (ps_ret (pe_and (pe_callB call_isi (by rfl) T.isinstance (by decide +kernel) (pa_cons (pv 0) (pa_cons (pe_bltn (v := .ty "int") (by rfl) T.int (by decide +kernel) rfl) pa_nil))) (pe_one (pe_not (pe_callB call_isi (by rfl) T.isinstance (by decide +kernel) (pa_cons (pv 0) (pa_cons (pe_bltn (v := .ty "bool") (by rfl) T.bool (by decide +kernel) rfl) pa_nil)))))))), ?_⟩
  refine ⟨_, rfl, _, _, _, _, _, rfl, .ty _, .base (.int i), kit_ty (r := true) (by decide +kernel), _, rfl, ?_⟩
  refine iteT ?_
  refine ⟨_, rfl, _, _, _, _, _, rfl, .ty _, .base (.int i), kit_ty (r := false) (by decide +kernel), _, rfl, ?_⟩
  exact q

theorem ok_law_same {f : Addr} {fd : FuncData} (D_law_same : Dfn K mg "_law_same" s_law_same ["actual", "expected"] f fd) (T : Tx mg) {f_law_is_integer : Addr} {fd_law_is_integer : FuncData} (D_law_is_integer : Dfn K mg "_law_is_integer" s_law_is_integer ["actual"] f_law_is_integer fd_law_is_integer) (G_law_is_integer : FnOk P w K mg base CX0 (1) f_law_is_integer fd_law_is_integer ["actual"] (sp_law_is_integer K)) {n:Nat} (IH:FnOk P w K mg base CX0 (n+1) f fd ["actual","expected"] (sp_law_same K n)) :
    FnOk P w K mg base CX0 (n+2) f fd ["actual", "expected"] (sp_law_same K (n+1)) := by
  refine D_law_same.F.ok sc_law_same (fun vs H Q E h => ?_) (fun cdv A outer s H vs Q E hr h => ?_)
  · obtain ⟨x, y, d, rfl, hd, hx, hy, q⟩ := h
    rfl
  obtain ⟨x, y, d, rfl, hd, hx, hy, q⟩ := h
  refine ⟨_, (pss_cons (ps_if (pt_cmpR op_isN (pv 1) pe_non (nomark _))
      (pss_one (ps_ret (pe_cmpR op_isN (pv 0) pe_non (nomark _))))
      pss_nil)
      (pss_cons (ps_if (pt_val (pe_callB call_isi (by rfl) T.isinstance (by decide +kernel) (pa_cons (pv 1) (pa_cons (pe_bltn (v := .ty "bool") (by rfl) T.bool (by decide +kernel) rfl) pa_nil))))
      (pss_one (ps_ret (pe_and (pe_callB call_isi (by rfl) T.isinstance (by decide +kernel) (pa_cons (pv 0) (pa_cons (pe_bltn (v := .ty "bool") (by rfl) T.bool (by decide +kernel) rfl) pa_nil))) (pe_one (pe_cmpR op_eq (pv 0) (pv 1) (nomark _))))))
      pss_nil)
      (pss_cons (ps_if (pt_val (pe_callB call_isi (by rfl) T.isinstance (by decide +kernel) (pa_cons (pv 1) (pa_cons (pe_bltn (v := .ty "int") (by rfl) T.int (by decide +kernel) rfl) pa_nil))))
      (pss_one (ps_ret (pe_and (pe_call G_law_is_integer (hr.mono (by first | decide | omega)) rfl D_law_is_integer.m D_law_is_integer.F.kp D_law_is_integer.b .nil pass0 (pa_cons (pv 0) pa_nil)) (pe_one (pe_cmpR op_eq (pv 0) (pv 1) (nomark _))))))
      pss_nil)
      (pss_cons (ps_if (pt_val (pe_callB call_isi (by rfl) T.isinstance (by decide +kernel) (pa_cons (pv 1) (pa_cons (pe_bltn (v := .ty "str") (by rfl) T.str (by decide +kernel) rfl) pa_nil))))
      (pss_one (ps_ret (pe_and (pe_callB call_isi (by rfl) T.isinstance (by decide +kernel) (pa_cons (pv 0) (pa_cons (pe_bltn (v := .ty "str") (by rfl) T.str (by decide +kernel) rfl) pa_nil))) (pe_one (pe_cmpR op_eq (pv 0) (pv 1) (nomark _))))))
      pss_nil)
      (pss_cons (ps_if (PW.pt (pw_and (pt_val (pe_callB call_isi (by rfl) T.isinstance (by decide +kernel) (pa_cons (pv 1) (pa_cons (pe_bltn (v := .ty "tuple") (by rfl) T.tuple (by decide +kernel) rfl) pa_nil)))) (pw_and1 (pt_not (pt_val (pe_callB call_isi (by rfl) T.isinstance (by decide +kernel) (pa_cons (pv 0) (pa_cons (pe_bltn (v := .ty "tuple") (by rfl) T.tuple (by decide +kernel) rfl) pa_nil))))))))
      (pss_one (ps_ret pe_bl))
      pss_nil)
      (pss_cons (ps_if (PW.pt (pw_and (pt_val (pe_callB call_isi (by rfl) T.isinstance (by decide +kernel) (pa_cons (pv 1) (pa_cons (pe_bltn (v := .ty "list") (by rfl) T.list (by decide +kernel) rfl) pa_nil)))) (pw_and1 (pt_not (pt_val (pe_callB call_isi (by rfl) T.isinstance (by decide +kernel) (pa_cons (pv 0) (pa_cons (pe_bltn (v := .ty "list") (by rfl) T.list (by decide +kernel) rfl) pa_nil))))))))
      (pss_one (ps_ret pe_bl))
      pss_nil)
      (pss_cons (ps_if (pt_cmpR op_ne (pe_callB call_len_seq (by rfl) T.len PySem.boot_len (pa_cons (pv 0) pa_nil)) (pe_callB call_len_seq (by rfl) T.len PySem.boot_len (pa_cons (pv 1) pa_nil)) (nomark _))
      (pss_one (ps_ret pe_bl))
      pss_nil)
      (pss_cons (ps_for PassesOwn.never rfl (pi_range1 (by rfl) T.range (pa_cons (pe_callB call_len_seq (by rfl) T.len PySem.boot_len (pa_cons (pv 1) pa_nil)) pa_nil)) (pg_name (i := 2) sc_law_same.nd rfl (by first | exact Or.inl rfl | exact Or.inr rfl))
      (pss_one (ps_if (pt_not (pt_val (pe_call IH hr rfl D_law_same.m D_law_same.F.kp D_law_same.b .nil pass0 (pa_cons (pe_ix (r := rIx K) ix_seq (pv 0) (pv 2) (fun _ _ => rfl)) (pa_cons (pe_ix (r := rIx K) ix_seq (pv 1) (pv 2) (fun _ _ => rfl)) pa_nil)))))
      (pss_one (ps_ret pe_bl))
      pss_nil)))
      (pss_one (ps_ret pe_bl)))))))))), ?_⟩
  cases hx <;> cases hy
  case non.non => exact ⟨_, rfl, rfl, _, rfl, iteT ⟨_, rfl, rfl, q⟩⟩
  case bl.bl b =>
    refine ⟨_, rfl, rfl, _, rfl, iteF ⟨_, rfl, _, _, _, _, _, rfl, .ty _, .base (.bl b), kit_ty (r := true) (by decide +kernel), _, rfl, iteT ?_⟩⟩
    refine ⟨_, rfl, _, _, _, _, _, rfl, .ty _, .base (.bl b), kit_ty (r := true) (by decide +kernel), _, rfl, iteT ⟨_, rfl, _, rfl, rfl, ?_⟩⟩
    show Q (.bl (decide (V.bl b = V.bl b))) H
    rw [decide_eq_true rfl]
    exact q
  case int.int b =>
    refine ⟨_, rfl, rfl, _, rfl, iteF ⟨_, rfl, _, _, _, _, _, rfl, .ty _, .base (.int b), kit_ty (r := false) (by decide +kernel), _, rfl, iteF ?_⟩⟩
    refine ⟨_, rfl, _, _, _, _, _, rfl, .ty _, .base (.int b), kit_ty (r := true) (by decide +kernel), _, rfl, iteT ?_⟩
    refine ⟨_, rfl, b, rfl, _, rfl, iteT ⟨_, rfl, _, rfl, rfl, ?_⟩⟩
    show Q (.bl (decide (V.int b = V.int b))) H
    rw [decide_eq_true rfl]
    exact q
  case str.str b =>
    refine ⟨_, rfl, rfl, _, rfl, iteF ⟨_, rfl, _, _, _, _, _, rfl, .ty _, .base (.str b), kit_ty (r := false) (by decide +kernel), _, rfl, iteF ?_⟩⟩
    refine ⟨_, rfl, _, _, _, _, _, rfl, .ty _, .base (.str b), kit_ty (r := false) (by decide +kernel), _, rfl, iteF ?_⟩
    refine ⟨_, rfl, _, _, _, _, _, rfl, .ty _, .base (.str b), kit_ty (r := true) (by decide +kernel), _, rfl, iteT ?_⟩
    refine ⟨_, rfl, _, _, _, _, _, rfl, .ty _, .base (.str b), kit_ty (r := true) (by decide +kernel), _, rfl, iteT ⟨_, rfl, _, rfl, rfl, ?_⟩⟩
    show Q (.bl (decide (V.str b = V.str b))) H
    rw [decide_eq_true rfl]
    exact q
  case' lst.lst a xs ds ha hA b ys hb hB =>
    have ta := tyx_lst ha
    have tb := tyx_lst hb
    refine ⟨_, rfl, rfl, _, rfl, iteF ⟨_, rfl, _, _, _, _, _, rfl, .ty _, tb, kit_ty (r := false) (by decide +kernel), _, rfl, iteF ?_⟩⟩
    refine ⟨_, rfl, _, _, _, _, _, rfl, .ty _, tb, kit_ty (r := false) (by decide +kernel), _, rfl, iteF ?_⟩
    refine ⟨_, rfl, _, _, _, _, _, rfl, .ty _, tb, kit_ty (r := false) (by decide +kernel), _, rfl, iteF ?_⟩
    refine ⟨_, rfl, _, _, _, _, _, rfl, .ty _, tb, kit_ty (r := false) (by decide +kernel), _, rfl, iteF (iteF ?_)⟩
    refine ⟨_, rfl, _, _, _, _, _, rfl, .ty _, tb, kit_ty (r := true) (by decide +kernel), _, rfl, iteT ⟨_, rfl, _, _, _, _, _, rfl, .ty _, ta, kit_ty (r := true) (by decide +kernel), _, rfl, iteF ?_⟩⟩
    have hSa : Sq K H a xs := .inl ha
    have hSb : Sq K H b ys := .inl hb
    have hds2 : (decide (ds.length ≤ 5000) && ds.all (dOk n)) = true := hd
  case' tup.tup a xs ds ha hA b ys hb hB =>
    have ta := tyx_tup ha
    have tb := tyx_tup hb
    refine ⟨_, rfl, rfl, _, rfl, iteF ⟨_, rfl, _, _, _, _, _, rfl, .ty _, tb, kit_ty (r := false) (by decide +kernel), _, rfl, iteF ?_⟩⟩
    refine ⟨_, rfl, _, _, _, _, _, rfl, .ty _, tb, kit_ty (r := false) (by decide +kernel), _, rfl, iteF ?_⟩
    refine ⟨_, rfl, _, _, _, _, _, rfl, .ty _, tb, kit_ty (r := false) (by decide +kernel), _, rfl, iteF ?_⟩
    refine ⟨_, rfl, _, _, _, _, _, rfl, .ty _, tb, kit_ty (r := true) (by decide +kernel), _, rfl, iteT ⟨_, rfl, _, _, _, _, _, rfl, .ty _, ta, kit_ty (r := true) (by decide +kernel), _, rfl, iteF ?_⟩⟩
    refine ⟨_, rfl, _, _, _, _, _, rfl, .ty _, tb, kit_ty (r := false) (by decide +kernel), _, rfl, iteF (iteF ?_)⟩
    have hSa : Sq K H a xs := .inr ha
    have hSb : Sq K H b ys := .inr hb
    have hds2 : (decide (ds.length ≤ 5000) && ds.all (dOk n)) = true := hd
  all_goals
    have la : xs.length = ds.length := DpAll.len hA
    have lb : ys.length = ds.length := DpAll.len hB
    refine ⟨_, rfl, a, xs, rfl, hSa, _, rfl, b, ys, rfl, hSb, rfl, _, rfl, ?_⟩
    have e1 : decide (V.int ((xs.length : Nat) : Int) = V.int ((ys.length : Nat) : Int)) = true := decide_eq_true (by rw [la, lb])
    rw [e1]
    refine iteF ?_
    rw [Bool.and_eq_true] at hds2
    have hlen : ds.length ≤ 5000 := of_decide_eq_true hds2.1
    have hds := hds2.2
    refine ⟨_, rfl, b, ys, rfl, hSb, ((ys.length : Nat) : Int), rfl, by omega, by omega, ?_⟩
    rw [show ((ys.length : Nat) : Int).toNat = ys.length by omega]
    refine for_range (lo := 0) (n := ys.length) (fun i σ H' => ∃ kv : Option V, σ = [some (.ref a), some (.ref b), kv] ∧ H' = H) ⟨none, rfl, rfl⟩ ?_ ?_
    · rintro i σ H' hi ⟨kv, rfl, rfl⟩
      have hi2 : i < ds.length := by omega
      obtain ⟨va, ga, da⟩ := DpAll.get hA (List.getElem?_eq_getElem hi2)
      obtain ⟨vb, gb, db⟩ := DpAll.get hB (List.getElem?_eq_getElem hi2)
      have ez : (0 : Int) + (i : Int) = (i : Int) := by omega
      have hdi : dOk n ds[i] = true := List.all_eq_true.mp hds _ (List.getElem_mem hi2)
      have ia : atI xs ((0 : Int) + (i : Int)) = some va := by
        rw [ez]
        exact atI_nat ga
      have ib : atI ys ((0 : Int) + (i : Int)) = some vb := by
        rw [ez]
        exact atI_nat gb
      refine ⟨_, rfl, _, rfl, sq_ix hSa ia ?_⟩
      refine ⟨_, rfl, _, rfl, sq_ix hSb ib ?_⟩
      refine ⟨va, vb, ds[i], rfl, hdi, da, db, _, rfl, iteF ?_⟩
      exact ⟨_, rfl, rfl⟩
    · rintro σ H' ⟨kv, rfl, rfl⟩
      exact q

theorem ok_law_parts {f : Addr} {fd : FuncData} (D_law_parts : Dfn K mg "_law_parts" s_law_parts ["amount", "shares"] f fd) (T : Tx mg) :
    FnOk P w K mg base CX0 (1) f fd ["amount", "shares"] (sp_law_parts K) := by
  refine D_law_parts.F.ok sc_law_parts (fun vs H Q E h => ?_) (fun cdv A outer s H vs Q E hr h => ?_)
  · obtain ⟨a, s, sh, rfl, hq, hS, q⟩ := h
    rfl
  obtain ⟨a, s, sh, rfl, hq, hS, q⟩ := h
  refine ⟨_, (pss_cons (ps_set (i := 2) sc_law_parts.nd rfl (by first | exact Or.inl rfl | exact Or.inr rfl) (pe_op op_fdiv (pv 0) (pe_callB (cr_sumS rfl) (by rfl) T.sum (by decide +kernel) (pa_cons (pv 1) pa_nil))))
      (pss_cons (ps_setLc (i := 3) (own := [("share", 7)]) (g := gName 7) (tt := tYes) rfl sc_law_parts.nd rfl rfl (sw_true rfl rfl rfl (by decide +kernel)) (pi_tup (pv 1)) (blkOk_by (own := [("share", 7)]) (N := (["amount", "shares", "whole", "parts", "left", "k", "more", "share"] : List Str)) (sc := defScope s_law_parts) (by decide +kernel)) (fun _ _ _ _ _ => (pg_name (i := 7) sc_law_parts.nd rfl (by first | exact Or.inl rfl | exact Or.inr rfl))) (fun _ _ _ _ _ => pts_nil) (fun _ _ _ _ _ => (pe_op op_mul (pv 2) (pv 7))))
      (pss_cons (ps_set (i := 4) sc_law_parts.nd rfl (by first | exact Or.inl rfl | exact Or.inr rfl) (pe_op op_sub (pv 0) (pe_callB (cr_sumS rfl) (by rfl) T.sum (by decide +kernel) (pa_cons (pv 3) pa_nil))))
      (pss_cons (ps_for PassesOwn.never rfl (pi_range1 (by rfl) T.range (pa_cons (pe_callB call_len_seq (by rfl) T.len PySem.boot_len (pa_cons (pv 1) pa_nil)) pa_nil)) (pg_name (i := 5) sc_law_parts.nd rfl (by first | exact Or.inl rfl | exact Or.inr rfl))
      (pss_cons (ps_set (i := 6) sc_law_parts.nd rfl (by first | exact Or.inl rfl | exact Or.inr rfl) (pe_ix (r := rIxL K) ix_list (pe_lst (pa_cons (pv 4) (pa_cons (pe_ix (r := rIxT K) ix_tup (pv 1) (pv 5) (fun _ _ => rfl)) pa_nil))) (pe_callTy call_int1 (by rfl) T.int (by decide +kernel) (pa_cons (pe_cmpR op_lt (pe_ix (r := rIxT K) ix_tup (pv 1) (pv 5) (fun _ _ => rfl)) (pv 4) (nomark _)) pa_nil)) (fun _ _ => rfl)))
      (pss_cons (ps_asg (pe_op op_add (pe_ix (r := rIxL K) ix_list (pv 3) (pv 5) (fun _ _ => rfl)) (pv 6)) (pg_sub (pv 3) (pv 5) set_list))
      (pss_one (ps_set (i := 4) sc_law_parts.nd rfl (by first | exact Or.inl rfl | exact Or.inr rfl) (pe_op op_sub (pv 4) (pv 6)))))))
      (pss_one (ps_ret (pv 3))))))), ?_⟩
  have S0 := hS.pos.sum1 hS.ne
  have hlen : sh.length ≤ 100000 := by
    have h1 := len_sum hS.pos
    have h3 := hS.sum
    omega
  have hsum := hS.sum
  have small : ∀ v ∈ sh, -(2 ^ 64) < v ∧ v < 2 ^ 64 := fun v hv => by
    have h1 := hS.pos v hv
    have h2 := le_sum hS.pos v hv
    omega
  refine ⟨_, rfl, _, rfl, s, sh, rfl, .inr hq, _, _, rfl, rfl, ⟨S0, by omega⟩, ?_⟩
  refine ⟨_, rfl, s, rfl, ⟨_, hq⟩, fun D nD => lc_tup (K := K) (a := s) (xs := sh.map V.int) (fun i H' => Same H H' ∧ H' D = some (.lst (((sh.take i).map fun z => a / sh.sum * z).map V.int))) ⟨same_new nD, upd_same⟩ (fun i H' _ h => same_sqt h.1 hq) ?_ ?_⟩
  · rintro i y H' hi ⟨sm, hD⟩
    obtain ⟨v, rfl, hv⟩ := of_at_map hi
    have hil := (List.getElem?_eq_some_iff.mp hv).1
    have hb := small v (List.mem_of_getElem? hv)
    refine ⟨rfl, ⟨_, rfl, _, rfl, _, _, rfl, rfl, .inr hb, _, hD, ?_, same_put sm nD, ?_⟩⟩
    · rw [List.length_map, List.length_map, List.length_take]
      exact szl (by omega)
    · rw [upd_same, List.take_add_one, hv, List.map_append, List.map_append]
      rfl
  rintro H1 ⟨sm1, hD⟩
  rw [List.length_map, List.take_of_length_le (Nat.le_refl _)] at hD
  refine ⟨_, rfl, _, rfl, D, _, rfl, .inl (SqL.of hD), _, _, rfl, rfl, ?_⟩
  have e0 : a - (sh.map fun z => a / sh.sum * z).sum = a % sh.sum := by
    have e := Int.mul_ediv_add_emod a sh.sum
    rw [sum_mul, Int.mul_comm]
    omega
  refine ⟨_, rfl, s, _, rfl, .inr (same_sqt sm1 hq), ((sh.length : Nat) : Int), by rw [List.length_map], by omega, by omega, ?_⟩
  rw [show ((sh.length : Nat) : Int).toNat = sh.length by omega]
  refine for_range (lo := 0) (n := sh.length) (fun i σ H' => ∃ (r : Int) (acc : List Int) (v1 v2 v3 : Option V), σ = [some (.int a), some (.ref s), some (.int (a / sh.sum)), some (.ref D), some (.int r), v1, v2, v3] ∧ Same H H' ∧ acc.length = i ∧ alloc a sh = acc ++ go (a / sh.sum) r (sh.drop i) ∧
    H' D = some (.lst ((acc ++ (sh.drop i).map fun z => a / sh.sum * z).map V.int))) ⟨a - (sh.map fun z => a / sh.sum * z).sum, [], none, none, none, rfl, sm1, rfl, by rw [e0]; rfl, hD⟩ ?_ ?_
  · rintro i σ H' hi ⟨r, acc, v1, v2, v3, rfl, sm, hl, hal, hD'⟩
    obtain ⟨v, hv⟩ : ∃ v, sh[i]? = some v := ⟨_, List.getElem?_eq_getElem hi⟩
    have hd : sh.drop i = v :: sh.drop (i + 1) := by
      obtain ⟨g1, g2⟩ := List.getElem?_eq_some_iff.mp hv
      rw [List.drop_eq_getElem_cons g1, g2]
    rw [go_step hv] at hal
    rw [hd, List.map_cons] at hD'
    have hat : atI (sh.map V.int) ((0 : Int) + (i : Int)) = some (.int v) := by
      rw [zi]
      exact atI_nat (at_map hv)
    -- more
    refine ⟨_, rfl, _, rfl, _, rfl, s, _, _, _, rfl, rfl, same_sqt sm hq, hat, sz (by show 2 ≤ 100000; decide), fun p np => ?_⟩
    have sp := same_add (o := .lst [.int r, .int v]) sm np
    refine ⟨_, rfl, _, rfl, s, _, _, _, rfl, rfl, same_sqt sp hq, hat, _, rfl, _, _, rfl, rfl, .inr ⟨_, rfl, p, _, _, _, rfl, rfl, SqL.of upd_same, pick2, ?_⟩⟩
    have em : (if decide (v < r) = true then v else r) = cut2 v r := by
      unfold cut2
      by_cases z : v < r
      · rw [if_pos (decide_eq_true z), if_neg (by omega)]
      · rw [if_neg (by rw [decide_eq_true_eq]; exact z)]
        split <;> omega
    rw [em]
    have nDp : D ≠ p := ne_of_none hD' np
    have hD2 : upd H' p (.lst [.int r, .int v]) D = some (.lst ((acc ++ a / sh.sum * v :: (sh.drop (i + 1)).map fun z => a / sh.sum * z).map V.int)) := by
      rw [upd_ne nDp]
      exact hD'
    have hat2 : atI ((acc ++ a / sh.sum * v :: (sh.drop (i + 1)).map fun z => a / sh.sum * z).map V.int) ((0 : Int) + (i : Int)) = some (.int (a / sh.sum * v)) := by
      rw [zi]
      exact atI_nat (at_map (mid_get hl))
    have hlen2 : i < ((acc ++ a / sh.sum * v :: (sh.drop (i + 1)).map fun z => a / sh.sum * z).map V.int).length := by
      rw [List.length_map, List.length_append, List.length_cons]
      omega
    refine ⟨_, rfl, _, rfl, D, _, _, _, rfl, rfl, SqL.of hD2, hat2, _, rfl, _, _, rfl, rfl, _, rfl, _, rfl, D, _, _, i, rfl, rfl, hD2, by rw [zi]; exact ixN_nat hlen2, ?_⟩
    refine ⟨_, rfl, _, rfl, _, _, rfl, rfl, ?_⟩
    refine ⟨r - cut2 v r, acc ++ [v * (a / sh.sum) + cut2 v r], _, _, _, rfl, same_put sp nD, ?_, ?_, ?_⟩
    · rw [List.length_append, hl]
      rfl
    · rw [hal, List.append_assoc]
      rfl
    · rw [upd_same, map_set, mid_set hl, List.append_assoc, Int.mul_comm (a / sh.sum) v]
      rfl
  · rintro σ H' ⟨r, acc, v1, v2, v3, rfl, sm, hl, hal, hD'⟩
    rw [List.drop_eq_nil_of_le (Nat.le_refl _)] at hal hD'
    have hal2 : alloc a sh = acc := hal.trans (List.append_nil _)
    have e : acc ++ ([] : List Int).map (fun z => a / sh.sum * z) = acc := List.append_nil _
    rw [e, ← hal2] at hD'
    exact ⟨_, rfl, q D H' sm nD hD'⟩

theorem ok_law_by_units {f : Addr} {fd : FuncData} (D_law_by_units : Dfn K mg "_law_by_units" s_law_by_units ["amount", "shares"] f fd) (T : Tx mg) :
    FnOk P w K mg base CX0 (1) f fd ["amount", "shares"] (sp_law_by_units K) := by
  refine D_law_by_units.F.ok sc_law_by_units (fun vs H Q E h => ?_) (fun cdv A outer s H vs Q E hr h => ?_)
  · obtain ⟨a, s, sh, rfl, ha, hq, hS, q⟩ := h
    rfl
  obtain ⟨a, s, sh, rfl, ha, hq, hS, q⟩ := h
  refine ⟨_, (pss_cons (ps_setLc (i := 2) (own := [("share", 6)]) (g := gName 6) (tt := tYes) rfl sc_law_by_units.nd rfl rfl (sw_true rfl rfl rfl (by decide +kernel)) (pi_tup (pv 1)) (blkOk_by (own := [("share", 6)]) (N := (["amount", "shares", "parts", "order", "k", "unit", "share"] : List Str)) (sc := defScope s_law_by_units) (by decide +kernel)) (fun _ _ _ _ _ => (pg_name (i := 6) sc_law_by_units.nd rfl (by first | exact Or.inl rfl | exact Or.inr rfl))) (fun _ _ _ _ _ => pts_nil) (fun _ _ _ _ _ => pe_int))
      (pss_cons (ps_set (i := 3) sc_law_by_units.nd rfl (by first | exact Or.inl rfl | exact Or.inr rfl) (pe_lst pa_nil))
      (pss_cons (ps_for PassesOwn.never rfl (pi_range1 (by rfl) T.range (pa_cons (pe_callB call_len_seq (by rfl) T.len PySem.boot_len (pa_cons (pv 1) pa_nil)) pa_nil)) (pg_name (i := 4) sc_law_by_units.nd rfl (by first | exact Or.inl rfl | exact Or.inr rfl))
      (pss_one (ps_expr (pe_bm PySem.F.plainAttrs_list PySem.F.slot_list_extend PySem.F.type_list_extend mt_extend (pv 3) (pa_cons (pe_op op_rep (pe_lst (pa_cons (pv 4) pa_nil)) (pe_ix (r := rIxT K) ix_tup (pv 1) (pv 4) (fun _ _ => rfl))) pa_nil)))))
      (pss_cons (ps_for PassesOwn.never rfl (pi_range1 (by rfl) T.range (pa_cons (pv 0) pa_nil)) (pg_name (i := 5) sc_law_by_units.nd rfl (by first | exact Or.inl rfl | exact Or.inr rfl))
      (pss_one (ps_asg (pe_op op_add (pe_ix (r := rIxL K) ix_list (pv 2) (pe_ix (r := rIxL K) ix_list (pv 3) (pe_op op_mod (pv 5) (pe_callB call_len_seq (by rfl) T.len PySem.boot_len (pa_cons (pv 3) pa_nil))) (fun _ _ => rfl)) (fun _ _ => rfl)) pe_int) (pg_sub (pv 2) (pe_ix (r := rIxL K) ix_list (pv 3) (pe_op op_mod (pv 5) (pe_callB call_len_seq (by rfl) T.len PySem.boot_len (pa_cons (pv 3) pa_nil))) (fun _ _ => rfl)) set_list))))
      (pss_one (ps_ret (pe_callTy call_tuple_of (by rfl) T.tuple (by decide +kernel) (pa_cons (pv 2) pa_nil)))))))), ?_⟩
  have S0 := hS.pos.sum1 hS.ne
  have hlen : sh.length ≤ 100000 := by
    have h1 := len_sum hS.pos
    have h3 := hS.sum
    omega
  have hsum := hS.sum
  have hp := hS.pos
  have hol := ordr_len 0 hp
  refine ⟨_, rfl, s, rfl, ⟨_, hq⟩, fun D nD => lc_tup (K := K) (a := s) (xs := sh.map V.int) (fun i H' => Same H H' ∧ H' D = some (.lst (((sh.take i).map fun _ => (0 : Int)).map V.int))) ⟨same_new nD, upd_same⟩ (fun i H' _ h => same_sqt h.1 hq) ?_ ?_⟩
  · rintro i y H' hi ⟨sm, hD⟩
    obtain ⟨v, rfl, hv⟩ := of_at_map hi
    have hil := (List.getElem?_eq_some_iff.mp hv).1
    refine ⟨rfl, ⟨_, hD, ?_, same_put sm nD, ?_⟩⟩
    · rw [List.length_map, List.length_map, List.length_take]
      exact szl (by omega)
    · rw [upd_same, List.take_add_one, hv, List.map_append, List.map_append]
      rfl
  rintro H1 ⟨sm1, hD⟩
  rw [List.length_map, List.take_of_length_le (Nat.le_refl _), ← alloc_zero sh hp] at hD
  refine ⟨Nat.zero_le _, fun o no => ?_⟩
  have no0 := sm1.free no
  have nDo : D ≠ o := ne_of_none hD no
  refine ⟨_, rfl, s, _, rfl, .inr (same_sqt (same_add sm1 no) hq), ((sh.length : Nat) : Int), by rw [List.length_map], by omega, by omega, ?_⟩
  rw [show ((sh.length : Nat) : Int).toNat = sh.length by omega]
  refine for_range (lo := 0) (n := sh.length) (fun i σ H' => ∃ (acc : List Int) (v1 v2 v3 : Option V), σ = [some (.int (a : Int)), some (.ref s), some (.ref D), some (.ref o), v1, v2, v3] ∧ Same H H' ∧ H' o = some (.lst (acc.map V.int)) ∧ ordr 0 sh = acc ++ ordr i (sh.drop i) ∧
    H' D = some (.lst ((alloc 0 sh).map V.int))) ⟨[], none, none, none, rfl, same_add sm1 no, upd_same, rfl, by rw [upd_ne nDo]; exact hD⟩ ?_ ?_
  · rintro i σ H' hi ⟨acc, v1, v2, v3, rfl, sm, ho, hord, hD'⟩
    obtain ⟨v, hv⟩ : ∃ v, sh[i]? = some v := ⟨_, List.getElem?_eq_getElem hi⟩
    have hd : sh.drop i = v :: sh.drop (i + 1) := by
      obtain ⟨g1, g2⟩ := List.getElem?_eq_some_iff.mp hv
      rw [List.drop_eq_getElem_cons g1, g2]
    have hv1 := hp v (List.mem_of_getElem? hv)
    have hv2 := le_sum hp v (List.mem_of_getElem? hv)
    rw [hd] at hord
    have hord' : ordr 0 sh = acc ++ (List.replicate v.toNat (i : Int) ++ ordr (i + 1) (sh.drop (i + 1))) := hord
    have hll := congrArg List.length hord'
    rw [List.length_append, List.length_append, List.length_replicate] at hll
    have hat : atI (sh.map V.int) ((0 : Int) + (i : Int)) = some (.int v) := by
      rw [zi]
      exact atI_nat (at_map hv)
    refine ⟨_, rfl, .inl ⟨rfl, _, SqL.of ho⟩, _, rfl, sz (by show 1 ≤ 100000; decide), fun p np => ?_⟩
    have sp := same_add (o := .lst [.int ((0 : Int) + (i : Int))]) sm np
    refine ⟨_, rfl, _, rfl, s, _, _, _, rfl, rfl, same_sqt sp hq, hat, p, v, _, rfl, rfl, upd_same, by omega, by omega, sz (by show 1 * v.toNat ≤ 100000; omega), fun p2 np2 => ?_⟩
    have nop : o ≠ p := ne_of_none ho np
    have ho1 : upd H' p (.lst [.int ((0 : Int) + (i : Int))]) o = some (.lst (acc.map V.int)) := by
      rw [upd_ne nop]
      exact ho
    have nop2 : o ≠ p2 := ne_of_none ho1 np2
    refine ⟨o, p2, _, _, rfl, rfl, by rw [upd_ne nop2]; exact ho1, upd_same, ?_, ?_⟩
    · rw [flat_rep, List.length_map, List.length_replicate]
      exact sz (by omega)
    · refine ⟨acc ++ List.replicate v.toNat (i : Int), _, _, _, rfl, same_put (same_add sp np2) no0, ?_, ?_, ?_⟩
      · rw [upd_same, flat_rep, List.map_append, map_rep, zi]
      · rw [hord', List.append_assoc]
      · rw [upd_ne nDo, upd_ne (ne_of_none (by rw [upd_ne (ne_of_none hD' np)]; exact hD') np2), upd_ne (ne_of_none hD' np)]
        exact hD'
  rintro σ H2 ⟨acc, v1, v2, v3, rfl, sm2, ho, hord, hD2⟩
  rw [List.drop_eq_nil_of_le (Nat.le_refl _)] at hord
  have hacc : acc = ordr 0 sh := (hord.trans (List.append_nil _)).symm
  subst hacc
  refine ⟨_, rfl, (a : Int), rfl, by omega, by omega, ?_⟩
  rw [show (a : Int).toNat = a by omega]
  refine for_range (lo := 0) (n := a) (fun i σ H' => ∃ (v1 v2 v3 : Option V), σ = [some (.int (a : Int)), some (.ref s), some (.ref D), some (.ref o), v1, v2, v3] ∧ Same H H' ∧ H' o = some (.lst ((ordr 0 sh).map V.int)) ∧
    H' D = some (.lst ((alloc (i : Int) sh).map V.int))) ⟨_, _, _, rfl, sm2, ho, hD2⟩ ?_ ?_
  · rintro i σ H' hi ⟨v1, v2, v3, rfl, sm, ho', hD'⟩
    have h2 := Int.emod_nonneg (i : Int) (show sh.sum ≠ 0 by omega)
    have h3 := Int.emod_lt_of_pos (i : Int) S0
    obtain ⟨r, hr'⟩ : ∃ r : Nat, (i : Int) % sh.sum = (r : Int) := ⟨((i : Int) % sh.sum).toNat, by omega⟩
    have hk := nxt_lt _ _ h3 h2
    have hget := ordr_get 0 r hp (by omega)
    rw [Nat.zero_add] at hget
    have hat : atI ((ordr 0 sh).map V.int) (((0 : Int) + (i : Int)) % (((ordr 0 sh).map V.int).length : Nat)) = some (.int ((nxt (r : Int) sh : Nat) : Int)) := by
      rw [List.length_map, hol, zi, hr']
      exact atI_nat (at_map hget)
    rw [hr'] at hk
    obtain ⟨x, hx⟩ : ∃ x, (alloc (i : Int) sh)[nxt (r : Int) sh]? = some x := ⟨_, List.getElem?_eq_getElem (by rw [alloc_len]; exact hk)⟩
    have hpos : (0 : Int) < (((ordr 0 sh).map V.int).length : Nat) := by
      rw [List.length_map]
      omega
    have hkl : nxt (r : Int) sh < ((alloc (i : Int) sh).map V.int).length := by
      rw [List.length_map, alloc_len]
      exact hk
    refine ⟨_, rfl, _, rfl, _, rfl, _, rfl, o, _, rfl, .inl (SqL.of ho'), _, _, rfl, rfl, hpos, o, _, _, _, rfl, rfl, SqL.of ho', hat, D, _, _, _, rfl, rfl, SqL.of hD', atI_nat (at_map hx), _, _, rfl, rfl, ?_⟩
    refine ⟨_, rfl, _, rfl, _, rfl, _, rfl, o, _, rfl, .inl (SqL.of ho'), _, _, rfl, rfl, hpos, o, _, _, _, rfl, rfl, SqL.of ho', hat, D, _, _, nxt (r : Int) sh, rfl, rfl, hD', ixN_nat hkl, ?_⟩
    refine ⟨_, _, _, rfl, same_put sm nD, by rw [upd_ne nDo.symm]; exact ho', ?_⟩
    rw [upd_same, map_set, bump_set _ _ _ hx, show ((i + 1 : Nat) : Int) = (i : Int) + 1 by omega, alloc_succ _ _ hp hS.ne, hr']
  · rintro σ H' ⟨v1, v2, v3, rfl, sm, ho', hD'⟩
    refine ⟨_, rfl, D, _, rfl, .inl ⟨SqL.of hD', fun l nl => ?_⟩⟩
    exact q l _ (same_add sm nl) (sm.free nl) upd_same

theorem ok_law {f : Addr} {fd : FuncData} (D_law : Dfn K mg "law" s_law ["script"] f fd) (T : Tx mg) {f_law_stream : Addr} {fd_law_stream : FuncData} (D_law_stream : Dfn K mg "_law_stream" s_law_stream ["script", "first", "count"] f_law_stream fd_law_stream) (G_law_stream : FnOk P w K mg base CX0 (2) f_law_stream fd_law_stream ["script", "first", "count"] (sp_law_stream K)) {f_law_next : Addr} {fd_law_next : FuncData} (D_law_next : Dfn K mg "_law_next" s_law_next ["stream", "many"] f_law_next fd_law_next) (G_law_next : FnOk P w K mg base CX0 (1) f_law_next fd_law_next ["stream", "many"] (sp_law_next K)) {f_law_cell : Addr} {fd_law_cell : FuncData} (D_law_cell : Dfn K mg "_law_cell" s_law_cell ["script", "k"] f_law_cell fd_law_cell) (G_law_cell : FnOk P w K mg base CX0 (1) f_law_cell fd_law_cell ["script", "k"] (sp_law_cell K)) {f_law_same : Addr} {fd_law_same : FuncData} (D_law_same : Dfn K mg "_law_same" s_law_same ["actual", "expected"] f_law_same fd_law_same) (G_law_same : FnOk P w K mg base CX0 (9) f_law_same fd_law_same ["actual", "expected"] (sp_law_same K 8)) {f_allocate : Addr} {fd_allocate : FuncData} (D_allocate : Dfn K mg "allocate" s_allocate ["amount", "shares"] f_allocate fd_allocate) (G_allocate : FnOk P w K mg base CX0 (1) f_allocate fd_allocate ["amount", "shares"] (sp_allocate K)) {f_law_by_units : Addr} {fd_law_by_units : FuncData} (D_law_by_units : Dfn K mg "_law_by_units" s_law_by_units ["amount", "shares"] f_law_by_units fd_law_by_units) (G_law_by_units : FnOk P w K mg base CX0 (1) f_law_by_units fd_law_by_units ["amount", "shares"] (sp_law_by_units K)) {f_law_parts : Addr} {fd_law_parts : FuncData} (D_law_parts : Dfn K mg "_law_parts" s_law_parts ["amount", "shares"] f_law_parts fd_law_parts) (G_law_parts : FnOk P w K mg base CX0 (1) f_law_parts fd_law_parts ["amount", "shares"] (sp_law_parts K)) {f_next_unit : Addr} {fd_next_unit : FuncData} (D_next_unit : Dfn K mg "next_unit" s_next_unit ["amount", "shares"] f_next_unit fd_next_unit) (G_next_unit : FnOk P w K mg base CX0 (1) f_next_unit fd_next_unit ["amount", "shares"] (sp_next_unit K)) :
    FnOk P w K mg base CX0 (10) f fd ["script"] (sp_law K) := by
  refine D_law.F.ok sc_law (fun vs H Q E h => ?_) (fun cdv A outer s H vs Q E hr h => ?_)
  · obtain ⟨a, ns, rfl, hS, h63, q⟩ := h
    rfl
  obtain ⟨a, ns, rfl, hS, h63, q⟩ := h
  refine ⟨_, (pss_cons (ps_set (i := 1) sc_law.nd rfl (by first | exact Or.inl rfl | exact Or.inr rfl) (pe_call G_law_stream (hr.mono (by first | decide | omega)) rfl D_law_stream.m D_law_stream.F.kp D_law_stream.b .nil pass0 (pa_cons (pv 0) (pa_cons pe_int (pa_cons pe_int pa_nil)))))
      (pss_cons (ps_set (i := 2) sc_law.nd rfl (by first | exact Or.inl rfl | exact Or.inr rfl) (pe_callTy call_tuple_of (by rfl) T.tuple (by decide +kernel) (pa_cons (pe_lc (own := [("k", 7)]) (g := gName 7) (tt := tYes) rfl sc_law.nd (pi_range1 (by rfl) T.range (pa_cons (pe_op op_add pe_int (pe_call G_law_next (hr.mono (by first | decide | omega)) rfl D_law_next.m D_law_next.F.kp D_law_next.b .nil pass0 (pa_cons (pv 1) (pa_cons pe_int pa_nil)))) pa_nil)) (blkOk_by (own := [("k", 7)]) (N := (["script", "stream", "shares", "amount", "parts", "more", "grown", "k"] : List Str)) (sc := defScope s_law) (by decide +kernel)) (fun _ _ _ _ _ => (pg_name (i := 7) sc_law.nd rfl (by first | exact Or.inl rfl | exact Or.inr rfl))) (fun _ _ _ _ _ => pts_nil) (fun _ _ _ _ _ => (pe_op op_add pe_int (pe_op op_mul (pe_call G_law_next (hr.mono (by first | decide | omega)) rfl D_law_next.m D_law_next.F.kp D_law_next.b .nil pass0 (pa_cons (pv 1) (pa_cons pe_int pa_nil))) (pe_ix (r := rIxL K) ix_list (pe_lst (pa_cons pe_int (pa_cons pe_int pa_nil))) (pe_call G_law_next (hr.mono (by first | decide | omega)) rfl D_law_next.m D_law_next.F.kp D_law_next.b .nil pass0 (pa_cons (pv 1) (pa_cons pe_int pa_nil))) (fun _ _ => rfl)))))) pa_nil)))
      (pss_cons (ps_set (i := 3) sc_law.nd rfl (by first | exact Or.inl rfl | exact Or.inr rfl) (pe_op op_mod (pe_call G_law_cell (hr.mono (by first | decide | omega)) rfl D_law_cell.m D_law_cell.F.kp D_law_cell.b .nil pass0 (pa_cons (pv 0) (pa_cons pe_int pa_nil))) (pe_op op_add (pe_op op_pow pe_int pe_int) pe_int)))
      (pss_cons (ps_if (pt_cmpR op_eq (pe_op op_mod (pe_call G_law_cell (hr.mono (by first | decide | omega)) rfl D_law_cell.m D_law_cell.F.kp D_law_cell.b .nil pass0 (pa_cons (pv 0) (pa_cons pe_int pa_nil))) pe_int) pe_int (nomark _))
      (pss_cons (ps_set (i := 3) sc_law.nd rfl (by first | exact Or.inl rfl | exact Or.inr rfl) (pe_op op_mod (pv 3) pe_int))
      (pss_one (ps_if (pt_not (pt_val (pe_call G_law_same (hr.mono (by first | decide | omega)) rfl D_law_same.m D_law_same.F.kp D_law_same.b .nil pass0 (pa_cons (pe_call G_allocate (hr.mono (by first | decide | omega)) rfl D_allocate.m D_allocate.F.kp D_allocate.b .nil pass0 (pa_cons (pv 3) (pa_cons (pv 2) pa_nil))) (pa_cons (pe_call G_law_by_units (hr.mono (by first | decide | omega)) rfl D_law_by_units.m D_law_by_units.F.kp D_law_by_units.b .nil pass0 (pa_cons (pv 3) (pa_cons (pv 2) pa_nil))) pa_nil)))))
      (pss_one (ps_ret pe_bl))
      pss_nil)))
      pss_nil)
      (pss_cons (ps_set (i := 4) sc_law.nd rfl (by first | exact Or.inl rfl | exact Or.inr rfl) (pe_call G_allocate (hr.mono (by first | decide | omega)) rfl D_allocate.m D_allocate.F.kp D_allocate.b .nil pass0 (pa_cons (pv 3) (pa_cons (pv 2) pa_nil))))
      (pss_cons (ps_if (PW.pt (pw_or (pt_not (pt_val (pe_call G_law_same (hr.mono (by first | decide | omega)) rfl D_law_same.m D_law_same.F.kp D_law_same.b .nil pass0 (pa_cons (pv 4) (pa_cons (pe_callTy call_tuple_of (by rfl) T.tuple (by decide +kernel) (pa_cons (pe_call G_law_parts (hr.mono (by first | decide | omega)) rfl D_law_parts.m D_law_parts.F.kp D_law_parts.b .nil pass0 (pa_cons (pv 3) (pa_cons (pv 2) pa_nil))) pa_nil)) pa_nil))))) (pw_or1 (pt_cmpR op_ne (pe_callB (cr_sumS rfl) (by rfl) T.sum (by decide +kernel) (pa_cons (pv 4) pa_nil)) (pv 3) (nomark _)))))
      (pss_one (ps_ret pe_bl))
      pss_nil)
      (pss_cons (ps_set (i := 5) sc_law.nd rfl (by first | exact Or.inl rfl | exact Or.inr rfl) (pe_call G_law_parts (hr.mono (by first | decide | omega)) rfl D_law_parts.m D_law_parts.F.kp D_law_parts.b .nil pass0 (pa_cons (pe_op op_add (pv 3) pe_int) (pa_cons (pv 2) pa_nil))))
      (pss_cons (ps_setLc (i := 6) (own := [("k", 7)]) (g := gName 7) rfl sc_law.nd rfl rfl (sw_true rfl rfl rfl (by decide +kernel)) (pi_range1 (by rfl) T.range (pa_cons (pe_callB call_len_seq (by rfl) T.len PySem.boot_len (pa_cons (pv 2) pa_nil)) pa_nil)) (blkOk_by (own := [("k", 7)]) (N := (["script", "stream", "shares", "amount", "parts", "more", "grown", "k"] : List Str)) (sc := defScope s_law) (by decide +kernel)) (fun _ _ _ _ _ => (pg_name (i := 7) sc_law.nd rfl (by first | exact Or.inl rfl | exact Or.inr rfl))) (fun _ _ _ _ _ => (pts_one (pt_cmpR op_ne (pe_ix (r := rIxL K) ix_list (pv 5) (pv 7) (fun _ _ => rfl)) (pe_ix (r := rIxT K) ix_tup (pv 4) (pv 7) (fun _ _ => rfl)) (nomark _)))) (fun _ _ _ _ _ => (pv 7)))
      (pss_one (ps_ret (pe_and (pe_cmpR op_eq (pe_callB call_len_seq (by rfl) T.len PySem.boot_len (pa_cons (pv 6) pa_nil)) pe_int (nomark _)) (pe_and (pe_call G_law_same (hr.mono (by first | decide | omega)) rfl D_law_same.m D_law_same.F.kp D_law_same.b .nil pass0 (pa_cons (pe_call G_next_unit (hr.mono (by first | decide | omega)) rfl D_next_unit.m D_next_unit.F.kp D_next_unit.b .nil pass0 (pa_cons (pv 3) (pa_cons (pv 2) pa_nil))) (pa_cons (pe_ix (r := rIxL K) ix_list (pv 6) pe_int (fun _ _ => rfl)) pa_nil))) (pe_one (pe_call G_law_same (hr.mono (by first | decide | omega)) rfl D_law_same.m D_law_same.F.kp D_law_same.b .nil pass0 (pa_cons (pe_call G_allocate (hr.mono (by first | decide | omega)) rfl D_allocate.m D_allocate.F.kp D_allocate.b .nil pass0 (pa_cons (pv 3) (pa_cons (pe_callTy call_list_of (by rfl) T.list (by decide +kernel) (pa_cons (pv 2) pa_nil)) pa_nil))) (pa_cons (pv 4) pa_nil)))))))))))))))), ?_⟩
  -- the stream
  refine ⟨_, rfl, a, ns, 0, 2, rfl, hS, by decide, by decide, fun s p H1 sm1 np hst => ?_⟩
  have sA : ∀ {H'}, Bar p H1 H' → Same H H' := fun b => Bar.keep np ((Bar.of sm1).trans b)
  -- the shares
  refine ⟨_, rfl, s, p, 6, rfl, by decide, hst, fun z H2 z0 z6 b2 hst2 => ⟨_, _, rfl, rfl, (1 + z), rfl, by omega, by omega, ?_⟩⟩
  obtain ⟨n, hn⟩ : ∃ n : Nat, z + 1 = (n : Int) := ⟨(z + 1).toNat, by omega⟩
  rw [show ((1 : Int) + z).toNat = n by omega]
  intro D nD
  have nDp : D ≠ p := hst2.ne nD
  have nD0 : H D = none := (sA b2).free nD
  refine lc_range (lo := 0) (n := n) (fun i H' => Bar p H1 H' ∧ Strm s p H' ∧ ∃ sh : List Int, sh.length = i ∧ Pos sh ∧ sh.sum ≤ 60 * (i : Int) ∧ H' D = some (.lst (sh.map V.int))) ⟨Bar.add b2 nD, hst2.same (same_new nD), [], rfl, (fun x hx => nomatch hx), by simp, upd_same⟩ ?_ ?_
  · rintro i H' hi ⟨b, hs', sh, hl, hp, hsum, hD⟩
    refine ⟨rfl, ?_⟩
    refine ⟨_, rfl, s, p, 60, rfl, by decide, hs', fun x H3 x0 x60 b3 hs3 => ?_⟩
    refine ⟨sz (by show 2 ≤ 100000; decide), fun l nl => ?_⟩
    have nlp : l ≠ p := hs3.ne nl
    refine ⟨_, rfl, s, p, 2, rfl, by decide, hs3.same (same_new nl), fun y H4 y0 y2 b4 hs4 => ?_⟩
    have hl4 := b4 l _ nlp upd_same
    have hD3 := b3 D _ nDp hD
    have hD4 : H4 D = some (.lst (sh.map V.int)) := b4 D _ nDp (by rw [upd_ne (ne_of_none hD3 nl)]; exact hD3)
    obtain ⟨v, hv, v0⟩ : ∃ v : Int, atI [V.int 1, V.int 0] y = some (.int v) ∧ (v = 0 ∨ v = 1) := by
      have hy : y = 0 ∨ y = 1 := by omega
      rcases hy with rfl | rfl
      · exact ⟨1, rfl, .inr rfl⟩
      · exact ⟨0, rfl, .inl rfl⟩
    have bb : Bar p H1 H4 := (b.trans b3).trans ((Bar.of (same_new nl)).trans b4)
    have xv : 1 ≤ 1 + x * v ∧ 1 + x * v ≤ 60 := by
      rcases v0 with rfl | rfl
      · rw [Int.mul_zero]
        omega
      · rw [Int.mul_one]
        omega
    refine ⟨l, _, _, _, rfl, rfl, SqL.of hl4, hv, _, _, rfl, rfl, .inl (by omega), _, _, rfl, rfl, _, hD4, by rw [List.length_map]; exact szl (by omega), ?_⟩
    have hnone : H1 D = none := b2.free nDp nD
    refine ⟨bb.put2 hnone, ?_, sh ++ [1 + x * v], ?_, ?_, ?_, ?_⟩
    · exact hst.put bb hs4 hnone nDp
    · rw [List.length_append, hl]
      rfl
    · intro u hu
      rcases List.mem_append.mp hu with hu | hu
      · exact hp u hu
      · have := List.mem_singleton.mp hu
        omega
    · rw [List.sum_append]
      show sh.sum + (1 + x * v + 0) ≤ 60 * ((i + 1 : Nat) : Int)
      omega
    · rw [upd_same, List.map_append]
      rfl
  rintro H3 ⟨b3, hs3, sh, hl, hp, hsum, hD⟩
  have sm3 := sA b3
  refine ⟨D, _, rfl, .inl ⟨SqL.of hD, fun t nt => ?_⟩⟩
  have hne : sh ≠ [] := fun e => by
    rw [e] at hl
    simp at hl
    omega
  obtain ⟨H5, h5⟩ : ∃ H5, upd H3 t (.tup (sh.map V.int)) = H5 := ⟨_, rfl⟩
  rw [h5]
  have sm5 : Same H H5 := by
    rw [← h5]
    exact same_add sm3 nt
  have hT : H5 t = some (.tup (sh.map V.int)) := by
    rw [← h5]
    exact upd_same
  have SH : ∀ {H'}, Same H5 H' → Shs K H' t sh := fun e => ⟨.inr (SqT.of (e _ _ hT)), hp, hne, by omega⟩
  have al : ∀ x : Int, (alloc x sh).length ≤ 5000 := fun x => by
    rw [alloc_len]
    omega
  -- the amount
  refine ⟨_, rfl, a, ns, 3, rfl, sm5.seq hS, _, _, rfl, rfl, ⟨by decide, by decide, by decide⟩, _, _, rfl, rfl, _, _, rfl, rfl, (by show (0 : Int) < 10 ^ 24 + 1; decide), ?_⟩
  have A0 := Int.emod_nonneg (cell ns 3) (show ((10 : Int) ^ (24 : Int).toNat + 1) ≠ 0 by decide)
  refine nx_to ?_
  dsimp only
  refine with_rest (t := tIfS _ _ _) (u := tSeq _ _) (fun σ' H6 => ∃ A : Int, σ' = [some (.ref a), some (.ref s), some (.ref t), some (.int A), none, none, none, none] ∧ 0 ≤ A ∧ Same H5 H6) ?_ (fun R => ?_)
  · rintro σ' H6 ⟨A, rfl, hA, s6⟩
    -- parts
    refine ⟨_, rfl, _, rfl, A, t, sh, rfl, SH s6, fun p1 H7 s7 n7 h7 => ?_⟩
    refine ⟨_, rfl, _, rfl, _, rfl, A, t, sh, rfl, SqT.of ((s6.trans s7) _ _ hT), SH (s6.trans s7), fun p2 H8 s8 n8 h8 => ⟨p2, _, rfl, .inl ⟨SqL.of h8, fun l nl => ?_⟩⟩⟩
    have s89 := same_add (o := .tup ((alloc A sh).map V.int)) s8 nl
    have s9 := s6.trans (s7.trans s89)
    have h71 := s89 _ _ h7
    refine ⟨_, _, _, rfl, ok_tup (al A), dp_tup (SqT.of h71), dp_tup (SqT.of upd_same), _, rfl, iteF ?_⟩
    refine ⟨_, rfl, p1, _, rfl, .inr (SqT.of h71), _, rfl, rfl, _, rfl, ?_⟩
    rw [alloc_sum A sh hp hne]
    have e1 : (!decide (V.int A = V.int A)) = false := by rw [decide_eq_true rfl]; rfl
    rw [e1]
    refine iteF ?_
    -- more, grown
    refine ⟨_, rfl, _, _, rfl, rfl, _, rfl, A + 1, t, sh, rfl, SqT.of (s9 _ _ hT), SH s9, fun p3 H9 s10 n9 h9 => ?_⟩
    have s11 := s9.trans s10
    have hp1 := s10 _ _ h71
    refine ⟨_, rfl, t, _, rfl, .inr (SqT.of (s11 _ _ hT)), ((sh.length : Nat) : Int), by rw [List.length_map], by omega, by omega, ?_⟩
    rw [show ((sh.length : Nat) : Int).toNat = sh.length by omega]
    have S0 := hp.sum1 hne
    have m0 := Int.emod_nonneg A (show sh.sum ≠ 0 by omega)
    have m1 := Int.emod_lt_of_pos A S0
    have hk := nxt_lt _ _ m1 m0
    obtain ⟨j, hj⟩ : ∃ j, nxt (A % sh.sum) sh = j := ⟨_, rfl⟩
    have hmore := alloc_succ A sh hp hne
    rw [hj] at hmore hk
    rw [hmore] at h9
    intro G nG
    refine lc_range (lo := 0) (n := sh.length) (fun i H' => Same H9 H' ∧ H' G = some (.lst (((List.range i).filter fun k => decide ((bump j (alloc A sh))[k]? ≠ (alloc A sh)[k]?)).map fun k : Nat => V.int ((k : Nat) : Int)))) ⟨same_new nG, upd_same⟩ ?_ ?_
    · rintro i H' hi ⟨sm, hG⟩
      obtain ⟨x, hx⟩ : ∃ x, (alloc A sh)[i]? = some x := ⟨_, List.getElem?_eq_getElem (by rw [alloc_len]; exact hi)⟩
      obtain ⟨y, hy⟩ : ∃ y, (bump j (alloc A sh))[i]? = some y := ⟨_, List.getElem?_eq_getElem (by rw [bump_len, alloc_len]; exact hi)⟩
      refine ⟨rfl, ?_⟩
      refine ⟨_, rfl, _, rfl, p3, _, _, .int y, rfl, rfl, SqL.of (sm _ _ h9), by rw [zi]; exact atI_nat (at_map hy), _, rfl, _, rfl, p1, _, _, .int x, rfl, rfl, SqT.of (sm _ _ hp1), by rw [zi]; exact atI_nat (at_map hx), rfl, _, rfl, ?_⟩
      refine iteB (fun c => ?_) (fun c => ?_)
      · have d : decide ((bump j (alloc A sh))[i]? ≠ (alloc A sh)[i]?) = true := decide_eq_true (by
          rw [hx, hy]
          intro z
          rw [Option.some.inj z, decide_eq_true rfl] at c
          cases c)
        refine ⟨_, rfl, _, hG, ?_, same_put sm nG, ?_⟩
        · rw [List.length_map]
          exact szl (Nat.lt_of_le_of_lt (List.length_filter_le _ _) (by rw [List.length_range]; omega))
        · rw [upd_same, List.range_succ, List.filter_append, List.map_append]
          simp only [List.filter_cons, List.filter_nil, d, if_true]
          rw [zi]
          rfl
      · have d : ¬ decide ((bump j (alloc A sh))[i]? ≠ (alloc A sh)[i]?) = true := by
          rw [decide_eq_true_eq]
          intro z
          apply z
          rw [hx, hy]
          by_cases e : y = x
          · rw [e]
          · rw [decide_eq_false (fun q => e (V.int.inj q))] at c
            cases c
        refine ⟨sm, ?_⟩
        rw [hG, List.range_succ, List.filter_append]
        simp only [List.filter_cons, List.filter_nil, if_neg d, List.append_nil]
    rintro H10 ⟨sm10, hG⟩
    rw [grown_one j (alloc A sh) sh.length (by rw [alloc_len]; exact Nat.le_refl _), if_pos hk] at hG
    have s12 := s11.trans sm10
    refine ⟨_, rfl, G, _, rfl, .inl (SqL.of hG), rfl, _, rfl, iteT ?_⟩
    refine ⟨_, rfl, _, rfl, A, t, sh, rfl, SH s12, _, rfl, G, _, _, _, rfl, rfl, SqL.of hG, rfl, ?_⟩
    rw [hj]
    refine ⟨_, _, .int (j : Int), rfl, rfl, .int _, .int _, _, rfl, iteT ?_⟩
    refine ⟨_, rfl, _, rfl, t, _, rfl, .inr (SqT.of (s12 _ _ hT)), fun l2 nl2 => ?_⟩
    refine ⟨A, l2, sh, rfl, ⟨.inl (SqL.of upd_same), hp, hne, by omega⟩, fun p4 H11 s13 n11 h11 => ?_⟩
    refine ⟨_, rfl, _, _, _, rfl, ok_tup (al A), dp_tup (SqT.of h11), dp_tup (SqT.of (s13 _ _ (same_new nl2 _ _ (sm10 _ _ hp1)))), ?_⟩
    exact q _
  · refine ⟨_, rfl, a, ns, 4, rfl, sm5.seq hS, _, _, rfl, rfl, (by show (0 : Int) < 2; decide), rfl, _, rfl, ?_⟩
    refine iteB (fun c => ?_) (fun c => ?_)
    · refine ⟨_, rfl, _, _, rfl, rfl, (by show (0 : Int) < 400; decide), ?_⟩
      obtain ⟨A1, hA1⟩ : ∃ A1 : Nat, cell ns 3 % (10 ^ (24 : Int).toNat + 1) % 400 = (A1 : Int) := ⟨(cell ns 3 % (10 ^ (24 : Int).toNat + 1) % 400).toNat, by omega⟩
      have A1b : A1 ≤ 100000 := by omega
      refine ⟨_, rfl, _, rfl, (A1 : Int), t, sh, ?_, SH (Same.refl _), fun p1 H7 s7 n7 h7 => ?_⟩
      · exact congrArg (fun z : Int => [V.int z, V.ref t]) hA1
      refine ⟨_, rfl, _, rfl, A1, t, sh, ?_, A1b, SqT.of (s7 _ _ hT), SH s7, fun p2 H8 s8 n8 h8 => ?_⟩
      · exact congrArg (fun z : Int => [V.int z, V.ref t]) hA1
      refine ⟨_, _, _, rfl, ok_tup (al A1), dp_tup (SqT.of (s8 _ _ h7)), dp_tup (SqT.of h8), _, rfl, iteF ?_⟩
      refine R _ _ ⟨(A1 : Int), ?_, by omega, s7.trans s8⟩
      rw [← hA1]
      rfl
    · exact R _ _ ⟨_, rfl, A0, Same.refl _⟩

theorem same_all {f : Addr} {fd : FuncData} (D_law_same : Dfn K mg "_law_same" s_law_same ["actual", "expected"] f fd) (T : Tx mg) {f_law_is_integer : Addr} {fd_law_is_integer : FuncData} (D_law_is_integer : Dfn K mg "_law_is_integer" s_law_is_integer ["actual"] f_law_is_integer fd_law_is_integer)
    (G_law_is_integer : FnOk P w K mg base CX0 1 f_law_is_integer fd_law_is_integer ["actual"] (sp_law_is_integer K)) : ∀ n : Nat, FnOk P w K mg base CX0 (n + 1) f fd ["actual", "expected"] (sp_law_same K n)
  | 0 => by
    have no : ∀ vs H Q E, ¬ sp_law_same K 0 vs H Q E := fun vs H Q E h => by
      obtain ⟨x, y, d, _, h1, _⟩ := h
      simp [dOk] at h1
    exact ⟨fun vs H Q E h => absurd h (no vs H Q E), fun A outer s H args us vs Q E _ _ _ _ h => absurd h (no vs H Q E)⟩
  | n + 1 => ok_law_same D_law_same T D_law_is_integer G_law_is_integer (same_all D_law_same T D_law_is_integer G_law_is_integer n)
end
end Sd
/-! ### the end -/
namespace Sd
open PySem PySem.Spec PyProof.Rows L2
theorem all_mk {l : PySem.W.OpenLaw} {w : World} {K : PySem.W.Frag} {h : Heap} {mg : Str → Option Value} {fa f1 f2 f3 f4 f5 f6 f7 f8 f9 f10 f11 : Addr} (X : K.In h) (G : h.Ns mainGlobals mg) (hfa : mg "law" = some (.ref fa))
    {od1 an1 : Option Addr} {sl1 : Array (Option Value)} {oc1 kV1 dc1 pm1 cd1 ct1 : Value}
    {od2 an2 : Option Addr} {sl2 : Array (Option Value)} {oc2 kV2 dc2 pm2 cd2 ct2 : Value}
    {od3 an3 : Option Addr} {sl3 : Array (Option Value)} {oc3 kV3 dc3 pm3 cd3 ct3 : Value}
    {od4 an4 : Option Addr} {sl4 : Array (Option Value)} {oc4 kV4 dc4 pm4 cd4 ct4 : Value}
    {od5 an5 : Option Addr} {sl5 : Array (Option Value)} {oc5 kV5 dc5 pm5 cd5 ct5 : Value}
    {od6 an6 : Option Addr} {sl6 : Array (Option Value)} {oc6 kV6 dc6 pm6 cd6 ct6 : Value}
    {od7 an7 : Option Addr} {sl7 : Array (Option Value)} {oc7 kV7 dc7 pm7 cd7 ct7 : Value}
    {od8 an8 : Option Addr} {sl8 : Array (Option Value)} {oc8 kV8 dc8 pm8 cd8 ct8 : Value}
    {od9 an9 : Option Addr} {sl9 : Array (Option Value)} {oc9 kV9 dc9 pm9 cd9 ct9 : Value}
    {od10 an10 : Option Addr} {sl10 : Array (Option Value)} {oc10 kV10 dc10 pm10 cd10 ct10 : Value}
    {od11 an11 : Option Addr} {sl11 : Array (Option Value)} {oc11 kV11 dc11 pm11 cd11 ct11 : Value}
    (a1 : PySem.W.nsIn K mainGlobals "allocate" = some (some (.ref f1))) (l1 : K.lookup f1 = some ⟨oc1, od1, .func (PySem.W.fnOf "allocate" "allocate" (defArgs s_allocate) (defBody s_allocate) (defScope s_allocate) .none kV1 dc1 pm1 an1 cd1 ct1), sl1⟩) (c1 : PySem.W.codeIn K cd1 "allocate" = true) (k1 : PySem.W.keepIn K (.ref f1) = true)
    (a2 : PySem.W.nsIn K mainGlobals "next_unit" = some (some (.ref f2))) (l2 : K.lookup f2 = some ⟨oc2, od2, .func (PySem.W.fnOf "next_unit" "next_unit" (defArgs s_next_unit) (defBody s_next_unit) (defScope s_next_unit) .none kV2 dc2 pm2 an2 cd2 ct2), sl2⟩) (c2 : PySem.W.codeIn K cd2 "next_unit" = true) (k2 : PySem.W.keepIn K (.ref f2) = true)
    (a3 : PySem.W.nsIn K mainGlobals "_law_cell" = some (some (.ref f3))) (l3 : K.lookup f3 = some ⟨oc3, od3, .func (PySem.W.fnOf "_law_cell" "_law_cell" (defArgs s_law_cell) (defBody s_law_cell) (defScope s_law_cell) .none kV3 dc3 pm3 an3 cd3 ct3), sl3⟩) (c3 : PySem.W.codeIn K cd3 "_law_cell" = true) (k3 : PySem.W.keepIn K (.ref f3) = true)
    (a4 : PySem.W.nsIn K mainGlobals "_law_draws" = some (some (.ref f4))) (l4 : K.lookup f4 = some ⟨oc4, od4, .func (PySem.W.fnOf "_law_draws" "_law_draws" (defArgs s_law_draws) (defBody s_law_draws) (defScope s_law_draws) .none kV4 dc4 pm4 an4 cd4 ct4), sl4⟩) (c4 : PySem.W.codeIn K cd4 "_law_draws" = true) (k4 : PySem.W.keepIn K (.ref f4) = true)
    (a5 : PySem.W.nsIn K mainGlobals "_law_stream" = some (some (.ref f5))) (l5 : K.lookup f5 = some ⟨oc5, od5, .func (PySem.W.fnOf "_law_stream" "_law_stream" (defArgs s_law_stream) (defBody s_law_stream) (defScope s_law_stream) .none kV5 dc5 pm5 an5 cd5 ct5), sl5⟩) (c5 : PySem.W.codeIn K cd5 "_law_stream" = true) (k5 : PySem.W.keepIn K (.ref f5) = true)
    (a6 : PySem.W.nsIn K mainGlobals "_law_next" = some (some (.ref f6))) (l6 : K.lookup f6 = some ⟨oc6, od6, .func (PySem.W.fnOf "_law_next" "_law_next" (defArgs s_law_next) (defBody s_law_next) (defScope s_law_next) .none kV6 dc6 pm6 an6 cd6 ct6), sl6⟩) (c6 : PySem.W.codeIn K cd6 "_law_next" = true) (k6 : PySem.W.keepIn K (.ref f6) = true)
    (a7 : PySem.W.nsIn K mainGlobals "_law_is_integer" = some (some (.ref f7))) (l7 : K.lookup f7 = some ⟨oc7, od7, .func (PySem.W.fnOf "_law_is_integer" "_law_is_integer" (defArgs s_law_is_integer) (defBody s_law_is_integer) (defScope s_law_is_integer) .none kV7 dc7 pm7 an7 cd7 ct7), sl7⟩) (c7 : PySem.W.codeIn K cd7 "_law_is_integer" = true) (k7 : PySem.W.keepIn K (.ref f7) = true)
    (a8 : PySem.W.nsIn K mainGlobals "_law_same" = some (some (.ref f8))) (l8 : K.lookup f8 = some ⟨oc8, od8, .func (PySem.W.fnOf "_law_same" "_law_same" (defArgs s_law_same) (defBody s_law_same) (defScope s_law_same) .none kV8 dc8 pm8 an8 cd8 ct8), sl8⟩) (c8 : PySem.W.codeIn K cd8 "_law_same" = true) (k8 : PySem.W.keepIn K (.ref f8) = true)
    (a9 : PySem.W.nsIn K mainGlobals "_law_parts" = some (some (.ref f9))) (l9 : K.lookup f9 = some ⟨oc9, od9, .func (PySem.W.fnOf "_law_parts" "_law_parts" (defArgs s_law_parts) (defBody s_law_parts) (defScope s_law_parts) .none kV9 dc9 pm9 an9 cd9 ct9), sl9⟩) (c9 : PySem.W.codeIn K cd9 "_law_parts" = true) (k9 : PySem.W.keepIn K (.ref f9) = true)
    (a10 : PySem.W.nsIn K mainGlobals "_law_by_units" = some (some (.ref f10))) (l10 : K.lookup f10 = some ⟨oc10, od10, .func (PySem.W.fnOf "_law_by_units" "_law_by_units" (defArgs s_law_by_units) (defBody s_law_by_units) (defScope s_law_by_units) .none kV10 dc10 pm10 an10 cd10 ct10), sl10⟩) (c10 : PySem.W.codeIn K cd10 "_law_by_units" = true) (k10 : PySem.W.keepIn K (.ref f10) = true)
    (a11 : PySem.W.nsIn K mainGlobals "law" = some (some (.ref f11))) (l11 : K.lookup f11 = some ⟨oc11, od11, .func (PySem.W.fnOf "law" "law" (defArgs s_law) (defBody s_law) (defScope s_law) .none kV11 dc11 pm11 an11 cd11 ct11), sl11⟩) (c11 : PySem.W.codeIn K cd11 "law" = true) (k11 : PySem.W.keepIn K (.ref f11) = true)
    (z_divmod : PySem.W.nsIn K mainGlobals "divmod" = some none) (z_sum : PySem.W.nsIn K mainGlobals "sum" = some none) (z_min : PySem.W.nsIn K mainGlobals "min" = some none) (z_tuple : PySem.W.nsIn K mainGlobals "tuple" = some none) (z_len : PySem.W.nsIn K mainGlobals "len" = some none) (z_int : PySem.W.nsIn K mainGlobals "int" = some none) (z_abs : PySem.W.nsIn K mainGlobals "abs" = some none) (z_range : PySem.W.nsIn K mainGlobals "range" = some none) (z_isinstance : PySem.W.nsIn K mainGlobals "isinstance" = some none) (z_bool : PySem.W.nsIn K mainGlobals "bool" = some none) (z_str : PySem.W.nsIn K mainGlobals "str" = some none) (z_list : PySem.W.nsIn K mainGlobals "list" = some none) :
    ∃ fd : FuncData, (∀ (s : Shared) (v : Value), BindsTo s fd ⟨[v], []⟩ [("script", v)]) ∧ ∀ base : Heap, K.In base → base.Ns mainGlobals mg → FnOk l.prog w K mg base CX0 10 fa fd ["script"] (sp_law K) := by
  have e := hfa.symm.trans (PySem.W.mg_of X G a11)
  cases e
  have T : Tx mg := ⟨PySem.W.mg_none_of X G z_divmod, PySem.W.mg_none_of X G z_sum, PySem.W.mg_none_of X G z_min, PySem.W.mg_none_of X G z_tuple, PySem.W.mg_none_of X G z_len, PySem.W.mg_none_of X G z_int, PySem.W.mg_none_of X G z_abs, PySem.W.mg_none_of X G z_range, PySem.W.mg_none_of X G z_isinstance, PySem.W.mg_none_of X G z_bool, PySem.W.mg_none_of X G z_str, PySem.W.mg_none_of X G z_list⟩
  have F1 := fun_mk (st := s_allocate) l1 c1 k1
  have D_allocate : Dfn K mg "allocate" s_allocate ["amount", "shares"] f1 _ := ⟨F1, F1.binds (ps := ["amount", "shares"]) fun _ _ _ _ _ _ us hl => match us, hl with | [_, _], _ => rfl, PySem.W.mg_of X G a1⟩
  have F2 := fun_mk (st := s_next_unit) l2 c2 k2
  have D_next_unit : Dfn K mg "next_unit" s_next_unit ["amount", "shares"] f2 _ := ⟨F2, F2.binds (ps := ["amount", "shares"]) fun _ _ _ _ _ _ us hl => match us, hl with | [_, _], _ => rfl, PySem.W.mg_of X G a2⟩
  have F3 := fun_mk (st := s_law_cell) l3 c3 k3
  have D_law_cell : Dfn K mg "_law_cell" s_law_cell ["script", "k"] f3 _ := ⟨F3, F3.binds (ps := ["script", "k"]) fun _ _ _ _ _ _ us hl => match us, hl with | [_, _], _ => rfl, PySem.W.mg_of X G a3⟩
  have F4 := fun_mk (st := s_law_draws) l4 c4 k4
  have D_law_draws : Dfn K mg "_law_draws" s_law_draws ["cell", "count"] f4 _ := ⟨F4, F4.binds (ps := ["cell", "count"]) fun _ _ _ _ _ _ us hl => match us, hl with | [_, _], _ => rfl, PySem.W.mg_of X G a4⟩
  have F5 := fun_mk (st := s_law_stream) l5 c5 k5
  have D_law_stream : Dfn K mg "_law_stream" s_law_stream ["script", "first", "count"] f5 _ := ⟨F5, F5.binds (ps := ["script", "first", "count"]) fun _ _ _ _ _ _ us hl => match us, hl with | [_, _, _], _ => rfl, PySem.W.mg_of X G a5⟩
  have F6 := fun_mk (st := s_law_next) l6 c6 k6
  have D_law_next : Dfn K mg "_law_next" s_law_next ["stream", "many"] f6 _ := ⟨F6, F6.binds (ps := ["stream", "many"]) fun _ _ _ _ _ _ us hl => match us, hl with | [_, _], _ => rfl, PySem.W.mg_of X G a6⟩
  have F7 := fun_mk (st := s_law_is_integer) l7 c7 k7
  have D_law_is_integer : Dfn K mg "_law_is_integer" s_law_is_integer ["actual"] f7 _ := ⟨F7, F7.binds (ps := ["actual"]) fun _ _ _ _ _ _ us hl => match us, hl with | [_], _ => rfl, PySem.W.mg_of X G a7⟩
  have F8 := fun_mk (st := s_law_same) l8 c8 k8
  have D_law_same : Dfn K mg "_law_same" s_law_same ["actual", "expected"] f8 _ := ⟨F8, F8.binds (ps := ["actual", "expected"]) fun _ _ _ _ _ _ us hl => match us, hl with | [_, _], _ => rfl, PySem.W.mg_of X G a8⟩
  have F9 := fun_mk (st := s_law_parts) l9 c9 k9
  have D_law_parts : Dfn K mg "_law_parts" s_law_parts ["amount", "shares"] f9 _ := ⟨F9, F9.binds (ps := ["amount", "shares"]) fun _ _ _ _ _ _ us hl => match us, hl with | [_, _], _ => rfl, PySem.W.mg_of X G a9⟩
  have F10 := fun_mk (st := s_law_by_units) l10 c10 k10
  have D_law_by_units : Dfn K mg "_law_by_units" s_law_by_units ["amount", "shares"] f10 _ := ⟨F10, F10.binds (ps := ["amount", "shares"]) fun _ _ _ _ _ _ us hl => match us, hl with | [_, _], _ => rfl, PySem.W.mg_of X G a10⟩
  have DL : Dfn K mg "law" s_law ["script"] fa _ := ⟨fun_mk (st := s_law) l11 c11 k11, (fun_mk (st := s_law) l11 c11 k11).binds (ps := ["script"]) fun _ _ _ _ _ _ us hl => match us, hl with | [_], _ => rfl, PySem.W.mg_of X G a11⟩
  refine ⟨PySem.W.fnOf "law" "law" (defArgs s_law) (defBody s_law) (defScope s_law) .none kV11 dc11 pm11 an11 cd11 ct11, fun s v => .of_eq rfl, fun base _ _ => ?_⟩
  have G_allocate := ok_allocate (P := l.prog) (w := w) (base := base) D_allocate T
  have G_next_unit := ok_next_unit (P := l.prog) (w := w) (base := base) D_next_unit T
  have G_law_cell := ok_law_cell (P := l.prog) (w := w) (base := base) D_law_cell T
  have G_law_draws := ok_law_draws (P := l.prog) (w := w) (base := base) D_law_draws T
  have G_law_stream := ok_law_stream (P := l.prog) (w := w) (base := base) D_law_stream T D_law_draws G_law_draws D_law_cell G_law_cell
  have G_law_next := ok_law_next (P := l.prog) (w := w) (base := base) D_law_next T
  have G_law_is_integer := ok_law_is_integer (P := l.prog) (w := w) (base := base) D_law_is_integer T
  have G_law_same := same_all (P:=l.prog) (w:=w) (base:=base) D_law_same T D_law_is_integer G_law_is_integer 8
  have G_law_parts := ok_law_parts (P := l.prog) (w := w) (base := base) D_law_parts T
  have G_law_by_units := ok_law_by_units (P := l.prog) (w := w) (base := base) D_law_by_units T
  exact ok_law DL T D_law_stream G_law_stream D_law_next G_law_next D_law_cell G_law_cell D_law_same G_law_same D_allocate G_allocate D_law_by_units G_law_by_units D_law_parts G_law_parts D_next_unit G_next_unit
theorem walk {l : PySem.W.OpenLaw} {q : Program} {loose : List Str} {XP : (Str → Option Value) → Heap → Prop} {YP : World → Heap → Prop} {d : DefRec} {K : Params → PySem.W.Frag} (hn : l.most = some 63) (hdf : d.params.defaults = [])
    (hY : ∀ (w : World) (h : Heap), YP w h → (K w.params).In h)
    (F : ∀ (w : World) (mg : Str → Option Value) (fa : Addr) (h : Heap), (K w.params).In h → h.Ns mainGlobals mg → mg d.name = some (.ref fa) →
      ∃ fd : FuncData, (∀ (s : Shared) (u : Value), BindsTo s fd ⟨[u], []⟩ [("script", u)]) ∧ ∀ base : Heap, (K w.params).In base → base.Ns mainGlobals mg → FnOk l.prog w (K w.params) mg base CX0 10 fa fd ["script"] (sp_law (K w.params))) :
    PySem.W.WalkO q loose XP YP l.row.toRowW d [] (fun f vs => PySem.call f vs) :=
  L2.walk_of (n := 63) (k := 10) (x := "script") (CX := fun _ => CX0) (sp := fun w => sp_law (K w.params)) hn (by decide) hdf ⟨rfl, by decide, by decide⟩ hY F (fun _ _ a ns hl _ hS => ⟨a, ns, rfl, hS, hl, fun _ => rfl⟩) fun _ _ _ _ _ z => z
end Sd

open PySem PySem.W PyProof.Rows in
set_option maxRecDepth 100000 in
set_option maxHeartbeats 0 in
theorem PySem.Challenge.cw_spiraldue_k00_allocation_holds : PySem.Challenge.rw_spiraldue_k00_allocation.Holds := by
  w_on; o_law; k_head; (case hw => w_witness2)
  k_fill
  refine Sd.walk (l := PySem.Challenge.rw_spiraldue_k00_allocation) rfl rfl (fun w h Y => PySem.W.kIn_of Y) ?F
  case F =>
    intro w mg fa h KX G hmg
    refine' Sd.all_mk KX G hmg ?a1 ?l1 ?c1 ?k1 ?a2 ?l2 ?c2 ?k2 ?a3 ?l3 ?c3 ?k3 ?a4 ?l4 ?c4 ?k4 ?a5 ?l5 ?c5 ?k5 ?a6 ?l6 ?c6 ?k6 ?a7 ?l7 ?c7 ?k7 ?a8 ?l8 ?c8 ?k8 ?a9 ?l9 ?c9 ?k9 ?a10 ?l10 ?c10 ?k10 ?a11 ?l11 ?c11 ?k11 ?z_divmod ?z_sum ?z_min ?z_tuple ?z_len ?z_int ?z_abs ?z_range ?z_isinstance ?z_bool ?z_str ?z_list
    (case a1 => k_is)
    (case l1 => k_is)
    (case c1 => k_is)
    (case k1 => k_is)
    (case a2 => k_is)
    (case l2 => k_is)
    (case c2 => k_is)
    (case k2 => k_is)
    (case a3 => k_is)
    (case l3 => k_is)
    (case c3 => k_is)
    (case k3 => k_is)
    (case a4 => k_is)
    (case l4 => k_is)
    (case c4 => k_is)
    (case k4 => k_is)
    (case a5 => k_is)
    (case l5 => k_is)
    (case c5 => k_is)
    (case k5 => k_is)
    (case a6 => k_is)
    (case l6 => k_is)
    (case c6 => k_is)
    (case k6 => k_is)
    (case a7 => k_is)
    (case l7 => k_is)
    (case c7 => k_is)
    (case k7 => k_is)
    (case a8 => k_is)
    (case l8 => k_is)
    (case c8 => k_is)
    (case k8 => k_is)
    (case a9 => k_is)
    (case l9 => k_is)
    (case c9 => k_is)
    (case k9 => k_is)
    (case a10 => k_is)
    (case l10 => k_is)
    (case c10 => k_is)
    (case k10 => k_is)
    (case a11 => k_is)
    (case l11 => k_is)
    (case c11 => k_is)
    (case k11 => k_is)
    (case z_divmod => k_is)
    (case z_sum => k_is)
    (case z_min => k_is)
    (case z_tuple => k_is)
    (case z_len => k_is)
    (case z_int => k_is)
    (case z_abs => k_is)
    (case z_range => k_is)
    (case z_isinstance => k_is)
    (case z_bool => k_is)
    (case z_str => k_is)
    (case z_list => k_is)
