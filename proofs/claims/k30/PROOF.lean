import PyProof.Rows.All
import Wide.All
import OpenK.AllK
import Wide.FinOn
import HandS.ForMost
import HandS.Flow
import HandS.IsInst
import HandS.Wide
import HandS.WideBits
import HandS.TupAny
import HandS.Exc
import HandS.TryOnly
import HandS.ExcOwn
import HandS.WordsExc
import HandS.ExcIs
import KE.KUnpackStar
import KE.GoesNew
import KE.GoesEnum
import KE.GoesMore
import HandS.Walk
import KE.KDictZip
import HandS.OwnIter
import PySem.Challenge.RW_spiraldue_k30_schedules
set_option Elab.async false
set_option maxRecDepth 100000
set_option maxHeartbeats 4000000
/-! ### P1. heaps -/
namespace Sd
open PySem PySem.Spec PyProof.Rows L2
set_option linter.all false
theorem same_new {H : Hp} {p : Addr} {o : HO} (h : H p = none) : Same H (upd H p o) := fun b u q => by
  rw [upd_ne (ne_of_none q h)]
  exact q
theorem same_put {H H' : Hp} {p : Addr} {o : HO} (s : Same H H') (h : H p = none) : Same H (upd H' p o) := fun b u q => by
  rw [upd_ne (ne_of_none q h)]
  exact s b u q
theorem same_add {H H' : Hp} {p : Addr} {o : HO} (s : Same H H') (h : H' p = none) : Same H (upd H' p o) := s.trans (same_new h)
theorem same_sqt {K : PySem.W.Frag} {H H' : Hp} {a : Addr} {xs : List V} (e : Same H H') (h : SqT K H a xs) : SqT K H' a xs := by
  rcases h with (h | ⟨o, h⟩) | h
  · exact .inl (.inl (e _ _ h))
  · exact .inl (.inr ⟨o, e _ _ h⟩)
  · exact .inr h
/-- a list or a tuple of xs -/
def Sq (K : PySem.W.Frag) (H : Hp) (a : Addr) (xs : List V) : Prop := SqL K H a xs ∨ SqT K H a xs
theorem same_sq {K : PySem.W.Frag} {H H' : Hp} {a : Addr} {xs : List V} (e : Same H H') (h : Sq K H a xs) : Sq K H' a xs := by
  rcases h with h | h
  · exact .inl (e.seq h)
  · exact .inr (same_sqt e h)
/-- all but p stands as it stood -/
def Bar (p : Addr) (H H' : Hp) : Prop := ∀ b o, b ≠ p → H b = some o → H' b = some o
theorem Bar.refl {p : Addr} (H : Hp) : Bar p H H := fun _ _ _ h => h
theorem Bar.trans {p : Addr} {H H1 H2 : Hp} (a : Bar p H H1) (b : Bar p H1 H2) : Bar p H H2 := fun c o n h => b c o n (a c o n h)
theorem Bar.of {p : Addr} {H H' : Hp} (s : Same H H') : Bar p H H' := fun b o _ h => s b o h
theorem Bar.put {p : Addr} {H H' : Hp} {o : HO} (s : Bar p H H') : Bar p H (upd H' p o) := fun b u n q => by
  rw [upd_ne n]
  exact s b u n q
theorem Bar.add {p q : Addr} {H H' : Hp} {o : HO} (s : Bar p H H') (h : H' q = none) : Bar p H (upd H' q o) := s.trans (Bar.of (same_new h))
theorem Bar.keep {p : Addr} {H0 H : Hp} (h : H0 p = none) (s : Bar p H0 H) : Same H0 H := fun b o q => s b o (ne_of_none q h) q
theorem Bar.free {p q : Addr} {H H' : Hp} (s : Bar p H H') (n : q ≠ p) (h : H' q = none) : H q = none := by
  cases e : H q with
  | none => rfl
  | some o =>
    rw [s q o n e] at h
    cases h
theorem Bar.new {p q : Addr} {H : Hp} {o : HO} (hp : H p = some o) (h : H q = none) : q ≠ p := (ne_of_none hp h).symm

theorem free2 {H : Hp} {p o : Addr} {u : HO} (np : H p = none) (no : upd H p u o = none) : H o = none := (same_new np).free no

/-! ### P2. rules -/
/-- sum(xs) of a list or a tuple of ints -/
def rSumS (K : PySem.W.Frag) : List V → Hp → VK → Prop := fun vs H Q => ∃ (a : Addr) (ns : List Int), vs = [V.ref a] ∧ Sq K H a (ns.map V.int) ∧ Q (.int ns.sum) H
theorem cr_sumS {X : Cx} (hc : X.calm = true) : CallR X (.builtin "sum") (rSumS X.K) := by
  intro pins s σ H vs us Q I r h
  obtain ⟨a, ns, rfl, hs | hs, q⟩ := h
  · exact cr_sum hc pins s σ H _ us Q I r ⟨a, ns, rfl, hs, q⟩
  · obtain ⟨its, rv, ⟨ob, ho, hcl, n, hd⟩, _⟩ := I.tuple hs
    rw [Vals.ref1 r]
    have hi := rv.ints
    have ht : s.heap.IsTuple a its.toArray := ⟨ob, ho, hcl, n, hd⟩
    obtain ⟨xs, e⟩ := hi.allInts.items
    have hn : numsOf (intItems xs).toList = ns := by rw [← e]; exact hi.numsOf
    rw [nums_intItems] at hn
    rw [e] at ht
    refine PySem.W.ktm_sumG (I.ok.hd hc) ht fun h' tk t' hk => ?_
    rw [preSum_eq, List.take_of_length_le (by simp), hn]
    exact ⟨.int _, H, I.kept hk, ⟨_, rfl⟩, q⟩
/-- what isinstance asks -/
theorem tyx_lst {K : PySem.W.Frag} {H : Hp} {a : Addr} {xs : List V} (h : SqL K H a xs) : TyX K H (.ref a) (.type "list") := by
  rcases h with (h | ⟨o, h⟩) | ⟨o, its, n, hk, hc, _⟩
  · exact .base (.lst h)
  · exact .base (.frz h)
  · exact .kList hk hc
theorem tyx_tup {K : PySem.W.Frag} {H : Hp} {a : Addr} {xs : List V} (h : SqT K H a xs) : TyX K H (.ref a) (.type "tuple") := by
  rcases h with (h | ⟨o, h⟩) | ⟨o, its, n, hk, hc, _⟩
  · exact .base (.tup h)
  · exact .fTuple h
  · exact .kTuple hk hc
/-- tuple + tuple, whichever is empty -/
theorem cat_any {K : PySem.W.Frag} {H : Hp} {a b : Addr} {xs ys : List V} {Q : VK} (ha : SqT K H a xs) (hb : SqT K H b ys) (hz : xs.length + ys.length ≤ sizeLine) (q : ∀ p H', Same H H' → SqT K H' p (xs ++ ys) → Q (.ref p) H') : rCatA K (.ref a) (.ref b) H Q := by
  refine ⟨a, b, xs, ys, rfl, rfl, ha, hb, hz, fun e => ?_, fun _ e => ?_, fun _ _ p np => q p _ (same_new np) (SqT.of upd_same)⟩
  · subst e
    exact q b H (Same.refl H) hb
  · subst e
    rw [List.append_nil] at q
    exact q a H (Same.refl H) ha
theorem pe_gi {X : Cx} {x : Str} {n : Int} {pos : Pos} (hg : Gl X x) (h : ∃ t, X.mg x = some (Value.int n t)) (hd : (x == ("__debug__" : Str)) = false := by decide) : PE X (.Name x pos) (tC (.int n)) :=
  let ⟨t, e⟩ := h
  pe_glob (v := .int n) hg e ⟨t, rfl⟩ hd
theorem pe_gs {X : Cx} {x : Str} {n : Str} {pos : Pos} (hg : Gl X x) (h : ∃ t, X.mg x = some (Value.str n t)) (hd : (x == ("__debug__" : Str)) = false := by decide) : PE X (.Name x pos) (tC (.str n)) :=
  let ⟨t, e⟩ := h
  pe_glob (v := .str n) hg e ⟨t, rfl⟩ hd
/-- an own error: a class over ValueError without a making of its own -/
structure ExF (K : PySem.W.Frag) (mg : Str → Option Value) (x : Str) (C : Addr) : Prop where
  g : mg x = some (.ref C)
  x : PySem.W.excIn K C [.type "ValueError", .type "Exception", .type "BaseException", .type "object"] "ValueError.__new__" = true
  k : PySem.W.keepIn K (.ref C) = true
  b : PySem.W.subIn K (.ref C) (.type "BaseException") = some true
  t : PySem.W.typeIn K (.ref C) = some (.type "type")
  e : PySem.W.exmOne K (.ref C) (.ref C) = some true
/-- isinstance of the error that a suite holds -/
theorem call_isEx {X : Cx} {a : Addr} {oe : Obj} {cls : Value} {d : Option Addr} {pn : List (Addr × Obj)} (hz : Zc cls d oe) (hf : ∃ vs, oe.data = .fields vs) :
    CallR (X.suite a ((a, oe) :: pn)) (.builtin "isinstance") (fun xs H Q => ∃ D, cls = .ref D ∧ d = none ∧ ExcC X.K D ∧ rIsE X.K D a xs H Q) := by
  intro pins s σ H xs us Q I r h
  obtain ⟨D, rfl, rfl, C, h⟩ := h
  exact call_isE C hz hf pins s σ H xs us Q I r h
/-- a def of the module: where it stands, how it binds, its name -/
structure Dfn (K : PySem.W.Frag) (mg : Str → Option Value) (x : Str) (st : Stmt) (ps : List Str) (f : Addr) (fd : FuncData) : Prop where
  F : Fun K x x st f fd
  b : Binds K fd ps []
  m : mg x = some (.ref f)
theorem at_map {ns : List Int} {j : Nat} {v : Int} (h : ns[j]? = some v) : (ns.map V.int)[j]? = some (V.int v) := by
  rw [List.getElem?_map, h] <;> rfl
theorem of_at_map {ns : List Int} {j : Nat} {y : V} (h : (ns.map V.int)[j]? = some y) : ∃ v, y = V.int v ∧ ns[j]? = some v := by
  rw [List.getElem?_map] at h
  cases e : ns[j]? with
  | none =>
    rw [e] at h
    cases h
  | some v =>
    rw [e] at h
    exact ⟨v, (Option.some.inj h).symm, rfl⟩
theorem sz {n : Nat} (h : n ≤ 100000) : n ≤ sizeLine := Nat.le_trans h (by decide)
theorem szl {n : Nat} (h : n < 100000) : n < sizeLine := Nat.lt_of_lt_of_le h (by decide)
theorem iteB {A B : Prop} {b : Bool} (h1 : b = true → A) (h2 : b = false → B) : if b = true then A else B := by
  cases b with
  | true => exact iteT (h1 rfl)
  | false => exact iteF (h2 rfl)
/-- behind a statement with several ways: what holds there in all of them -/
theorem with_rest {t u : TS} {D : Ends} {σ : L2.St} {H : Hp} (M : L2.St → Hp → Prop) (h2 : ∀ σ' H', M σ' H' → u D σ' H') (h1 : (∀ σ' H', M σ' H' → u D σ' H') → t { D with nx := u D } σ H) : tSeq t u D σ H := h1 h2
theorem nx_to {i : Nat} {v : V} {σ : L2.St} {H : Hp} {Q : L2.St → Hp → Prop} (h : Q (σ.set i (some v)) H) : gName i v σ H Q := h
theorem next_to {D : Ends} {σ : L2.St} {H : Hp} (h : D.nx σ H) : tNext D σ H := h
theorem seq_to {t u : TS} {D : Ends} {σ : L2.St} {H : Hp} (h : t { D with nx := u D } σ H) : tSeq t u D σ H := h
theorem asg_to {te : TE} {g : TG} {D : Ends} {σ : L2.St} {H : Hp} (h : te σ H fun x H1 => g x σ H1 D.nx) : tAsg te g D σ H := h
theorem op_to {r : R2} {ta tb : TE} {σ : L2.St} {H : Hp} {Q : VK} (h : ta σ H fun x H1 => tb σ H1 fun y H2 => r x y H2 Q) : tOp r ta tb σ H Q := h
theorem sq_ix {K : PySem.W.Frag} {H : Hp} {a : Addr} {xs : List V} {i : Int} {v : V} {Q : VK} (h : Sq K H a xs) (ha : atI xs i = some v) (q : Q v H) : rIx K (.ref a) (.int i) H Q := by
  rcases h with h | h
  · exact .inl ⟨a, xs, i, v, rfl, rfl, h, ha, q⟩
  · exact .inr (.inl ⟨a, xs, i, v, rfl, rfl, h, ha, q⟩)
end Sd

namespace Sd
open PySem PySem.Spec PyProof.Rows L2
set_option linter.all false
/-! ### the places -/
def top (i : Nat) : Stmt := PySem.Challenge.pw_spiraldue_k30_schedules.main.body.getD i (.Pass ⟨0, 0, 0, 0⟩)
abbrev s_packed : Stmt := top 2
abbrev s_schedule_of : Stmt := top 3
abbrev s_amount_at : Stmt := top 4
abbrev s_amounts_of : Stmt := top 5
abbrev s_law_cell : Stmt := top 7
abbrev s_law_draws : Stmt := top 8
abbrev s_law_stream : Stmt := top 9
abbrev s_law_next : Stmt := top 10
abbrev s_law_is_integer : Stmt := top 11
abbrev s_law_same : Stmt := top 12
abbrev s_law_row : Stmt := top 13
abbrev s_law_pairs : Stmt := top 14
abbrev s_law : Stmt := top 15
structure Tx (mg : Str → Option Value) : Prop where
  tuple : mg "tuple" = none
  list : mg "list" = none
  enumerate : mg "enumerate" = none
  range : mg "range" = none
  len : mg "len" = none
  int : mg "int" = none
  abs : mg "abs" = none
  isinstance : mg "isinstance" = none
  bool : mg "bool" = none
  str : mg "str" = none
  g_LAST_ROUND : ∃ t, mg "LAST_ROUND" = some (Value.int 200 t)
theorem sc_packed : FnScope ["rows", "pairs", "ahead", "number", "amount"] ["rows"] (defScope s_packed) := ⟨rfl, rfl, rfl, by decide +kernel, rfl, by decide +kernel, by decide +kernel⟩
theorem sc_schedule_of : FnScope ["amounts"] ["amounts"] (defScope s_schedule_of) := ⟨rfl, rfl, rfl, by decide +kernel, rfl, by decide +kernel, by decide +kernel⟩
theorem sc_amount_at : FnScope ["schedule", "number", "found", "start", "amount"] ["schedule", "number"] (defScope s_amount_at) := ⟨rfl, rfl, rfl, by decide +kernel, rfl, by decide +kernel, by decide +kernel⟩
theorem sc_amounts_of : FnScope ["schedule", "number"] ["schedule"] (defScope s_amounts_of) := ⟨rfl, rfl, rfl, by decide +kernel, rfl, by decide +kernel, by decide +kernel⟩
theorem sc_law_cell : FnScope ["script", "k"] ["script", "k"] (defScope s_law_cell) := ⟨rfl, rfl, rfl, by decide +kernel, rfl, by decide +kernel, by decide +kernel⟩
theorem sc_law_draws : FnScope ["cell", "count", "number", "great", "found", "k", "mixed"] ["cell", "count"] (defScope s_law_draws) := ⟨rfl, rfl, rfl, by decide +kernel, rfl, by decide +kernel, by decide +kernel⟩
theorem sc_law_stream : FnScope ["script", "first", "count", "found", "k"] ["script", "first", "count"] (defScope s_law_stream) := ⟨rfl, rfl, rfl, by decide +kernel, rfl, by decide +kernel, by decide +kernel⟩
theorem sc_law_next : FnScope ["stream", "many", "digits", "place", "value"] ["stream", "many"] (defScope s_law_next) := ⟨rfl, rfl, rfl, by decide +kernel, rfl, by decide +kernel, by decide +kernel⟩
theorem sc_law_is_integer : FnScope ["actual"] ["actual"] (defScope s_law_is_integer) := ⟨rfl, rfl, rfl, by decide +kernel, rfl, by decide +kernel, by decide +kernel⟩
theorem sc_law_same : FnScope ["actual", "expected", "k"] ["actual", "expected"] (defScope s_law_same) := ⟨rfl, rfl, rfl, by decide +kernel, rfl, by decide +kernel, by decide +kernel⟩
theorem sc_law_row : FnScope ["stream", "row", "amount", "turns", "number", "k"] ["stream"] (defScope s_law_row) := ⟨rfl, rfl, rfl, by decide +kernel, rfl, by decide +kernel, by decide +kernel⟩
theorem sc_law_pairs : FnScope ["row", "k"] ["row"] (defScope s_law_pairs) := ⟨rfl, rfl, rfl, by decide +kernel, rfl, by decide +kernel, by decide +kernel⟩
theorem sc_law : FnScope ["script", "stream", "rows", "row", "due", "number", "other"] ["script"] (defScope s_law) := ⟨rfl, rfl, rfl, by decide +kernel, rfl, by decide +kernel, by decide +kernel⟩
/-! ### C1. a cell of the script -/
def cell (ns : List Int) (j : Nat) : Int := ns.getD j 0
theorem cell_in {ns : List Int} {j : Nat} (h : j < ns.length) : ns[j]? = some (cell ns j) := by
  unfold cell
  rw [List.getElem?_eq_getElem h, List.getD_eq_getElem?_getD, List.getElem?_eq_getElem h]
  rfl
theorem cell_out {ns : List Int} {j : Nat} (h : ¬ j < ns.length) : cell ns j = 0 := by
  unfold cell
  rw [List.getD_eq_getElem?_getD, List.getElem?_eq_none (by omega)]
  rfl
def sp_law_cell (K : PySem.W.Frag) : Sp := fun vs H Q _ => ∃ (a : Addr) (ns : List Int) (j : Nat), vs = [.ref a, .int (j : Int)] ∧ SqL K H a (ns.map V.int) ∧ Q (.int (cell ns j)) H
/-! ### C2. digits of a cell: as many as are asked, each from 0 to 59 -/
def Digs (n : Nat) (ds : List Int) : Prop := ds.length = n ∧ ∀ x ∈ ds, 0 ≤ x ∧ x < 60
def sp_law_draws (K : PySem.W.Frag) : Sp := fun vs H Q _ => ∃ (c : Int) (n : Nat), vs = [.int c, .int (n : Int)] ∧ n ≤ 60 ∧
  ∀ (o : Addr) (H' : Hp) (ds : List Int), Same H H' → H o = none → H' o = some (.lst (ds.map V.int)) → Digs n ds → Q (.ref o) H'
theorem digs_add {ds : List Int} {z : Int} (h : ∀ x ∈ ds, 0 ≤ x ∧ x < 60) : ∀ x ∈ ds ++ [z % 60], 0 ≤ x ∧ x < 60 := by
  intro x hx
  rcases List.mem_append.mp hx with hx | hx
  · exact h x hx
  · have e := List.mem_singleton.mp hx
    omega
/-! ### C3. a stream of digits: the digits and the place; only the place changes -/
structure Strm (s p : Addr) (H : Hp) : Prop where
  ex : ∃ (d : Addr) (ds : List Int) (n : Nat), H s = some (.lst [.ref d, .ref p]) ∧ H d = some (.lst (ds.map V.int)) ∧ 0 < ds.length ∧ H p = some (.lst [.int (n : Int)]) ∧ s ≠ p ∧ d ≠ p
theorem Strm.same {s p : Addr} {H H' : Hp} (S : Strm s p H) (e : Same H H') : Strm s p H' := by
  obtain ⟨d, ds, n, a1, a2, a3, a4, a5, a6⟩ := S.ex
  exact ⟨d, ds, n, e _ _ a1, e _ _ a2, a3, e _ _ a4, a5, a6⟩
theorem Strm.p {s p : Addr} {H : Hp} (S : Strm s p H) : ∃ o, H p = some o := by
  obtain ⟨d, ds, n, a1, a2, a3, a4, a5, a6⟩ := S.ex
  exact ⟨_, a4⟩
theorem Strm.ne {s p q : Addr} {H : Hp} (S : Strm s p H) (h : H q = none) : q ≠ p := by
  obtain ⟨o, e⟩ := S.p
  exact Bar.new e h
/-- the stream goes on: what was read stands, the place is a number -/
theorem Strm.go {s p : Addr} {H H' H2 : Hp} (S : Strm s p H) (b : Bar p H H') (S2 : Strm s p H2) (e : H' p = H2 p) : Strm s p H' := by
  obtain ⟨d, ds, n, a1, a2, a3, a4, a5, a6⟩ := S.ex
  obtain ⟨_, _, m, _, _, _, b4, _, _⟩ := S2.ex
  exact ⟨d, ds, m, b s _ a5 a1, b d _ a6 a2, a3, e.trans b4, a5, a6⟩
/-- an object that was new behind the stream's making is changed -/
theorem Strm.put {s p D : Addr} {H H' : Hp} {o : HO} (S : Strm s p H) (b : Bar p H H') (S2 : Strm s p H') (h : H D = none) (n : D ≠ p) : Strm s p (upd H' D o) :=
  S.go (fun c u ne q => by rw [upd_ne (ne_of_none q h)]; exact b c u ne q) S2 (upd_ne n.symm)
theorem Bar.put2 {p D : Addr} {H H' : Hp} {o : HO} (b : Bar p H H') (h : H D = none) : Bar p H (upd H' D o) := fun c u ne q => by
  rw [upd_ne (ne_of_none q h)]
  exact b c u ne q
def sp_law_stream (K : PySem.W.Frag) : Sp := fun vs H Q _ => ∃ (a : Addr) (ns : List Int) (j n : Nat), vs = [.ref a, .int (j : Int), .int (n : Int)] ∧ SqL K H a (ns.map V.int) ∧ 0 < n ∧ n ≤ 63 ∧
  ∀ (s p : Addr) (H' : Hp), Same H H' → H p = none → Strm s p H' → Q (.ref s) H'
def sp_law_next (K : PySem.W.Frag) : Sp := fun vs H Q _ => ∃ (s p : Addr) (m : Int), vs = [.ref s, .int m] ∧ 0 < m ∧ Strm s p H ∧
  ∀ (z : Int) (H' : Hp), 0 ≤ z → z < m → Bar p H H' → Strm s p H' → Q (.int z) H'
theorem mod_at {ds : List Int} {n : Nat} (h : 0 < ds.length) : ∃ v, atI (ds.map V.int) ((n : Int) % ((ds.map V.int).length : Nat)) = some (V.int v) := by
  rw [List.length_map]
  have e : (n : Int) % (ds.length : Int) = ((n % ds.length : Nat) : Int) := by omega
  have hlt : n % ds.length < ds.length := Nat.mod_lt _ h
  rw [e]
  exact ⟨ds[n % ds.length], atI_nat (at_map (List.getElem?_eq_getElem hlt))⟩
/-! ### C4. the same data -/
def dOk : Nat → PyData → Bool
  | 0, _ => false
  | _ + 1, .none => true
  | _ + 1, .bool _ => true
  | _ + 1, .int _ => true
  | _ + 1, .str _ => true
  | n + 1, .list ds => decide (ds.length ≤ 5000) && ds.all (dOk n)
  | n + 1, .tuple ds => decide (ds.length ≤ 5000) && ds.all (dOk n)
  | _ + 1, _ => false
def sp_law_is_integer (K : PySem.W.Frag) : Sp := fun vs H Q _ => ∃ i : Int, vs = [.int i] ∧ Q (.bl true) H
def sp_law_same (K : PySem.W.Frag) (n : Nat) : Sp := fun vs H Q _ => ∃ (x y : V) (d : PyData), vs = [x, y] ∧ dOk n d = true ∧ Dp K H x d ∧ Dp K H y d ∧ Q (.bl true) H
theorem DpAll.len {K : PySem.W.Frag} {H : Hp} : ∀ {xs : List V} {ds : List PyData}, DpAll K H xs ds → xs.length = ds.length
  | _, _, .nil => rfl
  | _, _, .cons _ t => congrArg Nat.succ (DpAll.len t)
theorem DpAll.get {K : PySem.W.Frag} {H : Hp} : ∀ {xs : List V} {ds : List PyData} {i : Nat} {d : PyData}, DpAll K H xs ds → ds[i]? = some d → ∃ v, xs[i]? = some v ∧ Dp K H v d
  | _, _, _, _, .nil, h => by simp at h
  | _, _, 0, _, .cons r _, h => by
    have e := Option.some.inj h
    subst e
    exact ⟨_, rfl, r⟩
  | _, _, i + 1, _, .cons _ t, h => DpAll.get (i := i) t h
theorem DpAll.ints {K : PySem.W.Frag} {H : Hp} : ∀ ns : List Int, DpAll K H (ns.map V.int) (ns.map PyData.int)
  | [] => .nil
  | n :: r => .cons (.int n) (DpAll.ints r)
theorem dOk_ints (n : Nat) (ns : List Int) : (ns.map PyData.int).all (dOk (n + 1)) = true := by
  rw [List.all_eq_true]
  intro d hd
  obtain ⟨i, _, e⟩ := List.mem_map.mp hd
  subst e
  rfl
/-- isinstance of a value by its data -/
theorem dp_ty {K : PySem.W.Frag} {H : Hp} {x : V} {d : PyData} (h : Dp K H x d) : ∃ t, TyX K H x t ∧ (match d with | .none => t = .type "NoneType" | .bool _ => t = .type "bool" | .int _ => t = .type "int" | .str _ => t = .type "str" | .list _ => t = .type "list" | .tuple _ => t = .type "tuple" | _ => True) := by
  cases h with
  | non => exact ⟨_, .base .non, rfl⟩
  | bl b => exact ⟨_, .base (.bl b), rfl⟩
  | int i => exact ⟨_, .base (.int i), rfl⟩
  | str s => exact ⟨_, .base (.str s), rfl⟩
  | lst h _ => exact ⟨_, tyx_lst h, rfl⟩
  | tup h _ => exact ⟨_, tyx_tup h, rfl⟩
/-! ### I1. enumerate(v), whatever v is -/
section
variable {prog : Program} {w : World} {A : Around} {E : Value → Shared → Prop} {s : Shared}
set_option maxHeartbeats 1000000 in
theorem enum_new1 {v : Value} {o : Obj} {S : Heap → Prop} (B : Begins v o S) :
    Meets (Builtin.«enumerate.__new__» ⟨[.type "enumerate", v], []⟩) (fun _ R s => S s.heap ∧
      R (.ok (.ret (.ref (s.heap.push o).objs.size)))
        { s with heap := (s.heap.push o).push { cls := .type "enumerate", data := .fields #[.none, .bool false, .ref s.heap.objs.size, rawInt 0, .none, .none] } }) :=
  .of_wp fun prog w A R s h => by
    obtain ⟨hp, gs, dr, tk, os⟩ := s
    obtain ⟨src, h⟩ := h
    have hsub := sub_enumerate
    have first : ∀ {A' : Around} {E' : Value → Shared → Prop} {Q' : Value → Shared → Prop},
        Q' (.ref hp.objs.size) ⟨hp.push o, gs, dr, tk, os⟩ → wpAny (model prog w) A' (pyIter v) Q' E' ⟨hp, gs, dr, tk, os⟩ :=
      fun q => B.iter prog w _ _ ⟨hp, gs, dr, tk, os⟩ _ src q
    wp_walk using first
    refine wpAny_stack_any fun _ =>
      wpAny_pure ?_
    split
    · rename_i c _ _ _ _ _
      cases (c == Value.type "enumerate") <;>
        (wp_walk using first; exact ⟨_, rfl, h⟩)
    · wp_walk using first
      exact ⟨_, rfl, h⟩
theorem enum_begins1 {v : Value} {o : Obj} {S : Heap → Prop} {Q : Value → Shared → Prop} (B : Begins v o S) (src : S s.heap)
    (q : ∀ h', IsEnum h' (s.heap.objs.size + 1) s.heap.objs.size 0 .none → h'.get? s.heap.objs.size = some o →
      (∀ b u, s.heap.get? b = some u → h'.get? b = some u) → Q (.ref (s.heap.objs.size + 1)) { s with heap := h' }) :
    wpAny (model prog w) A (call (.type "enumerate") [v]) Q E s := by
  refine callType_new F.called_enumerate (by decide) (F.typeCall_enumerate_1 _)
    (F.newCall_enumerate_1 _) (fun obj => F.args_object_init_2 obj _) F.entry_enumerate_new (enum_new1 B) ⟨src, ?_⟩
  have size1 : (s.heap.push o).objs.size = s.heap.objs.size + 1 := Heap.size_push ..
  show _ ∧ _
  rw [size1]
  have made : IsEnum ((s.heap.push o).push { cls := .type "enumerate", data := .fields #[.none, .bool false, .ref s.heap.objs.size, rawInt 0, .none, .none] })
      (s.heap.objs.size + 1) s.heap.objs.size 0 .none := by
    have z := Heap.get?_push_size (s.heap.push o)
      (o := { cls := .type "enumerate", data := .fields #[.none, .bool false, .ref s.heap.objs.size, rawInt 0, .none, .none] }) rfl
    rw [size1] at z
    exact z
  exact ⟨⟨_, made, rfl⟩, q _ made (Heap.get?_push_of_some _ (Heap.get?_push_size _ B.free))
    fun b u e => Heap.get?_push_of_some _ (Heap.get?_push_of_some _ e)⟩
end
/-! ### I2. a list or a tuple that is walked; tp: is it a tuple -/
def SqK (tp : Bool) (K : PySem.W.Frag) (H : Hp) (a : Addr) (xs : List V) : Prop := match tp with
  | true => SqT K H a xs
  | false => SqL K H a xs
def SAt (tp : Bool) (h : Heap) (a : Addr) (its : Array Value) : Prop := match tp with
  | true => h.IsTuple a its
  | false => h.IsList a its
def SIt (tp : Bool) (h : Heap) (it a : Addr) (i : Nat) : Prop := match tp with
  | true => h.IsTupleIter it a i
  | false => h.IsListIter it a i
def sObj (tp : Bool) (a : Addr) : Obj := match tp with
  | true => { cls := .type "tuple_iterator", data := .fields #[.ref a, .int 0 0] }
  | false => { cls := .type "list_iterator", data := .fields #[.ref a, .int 0 0] }
theorem s_begins (tp : Bool) (a : Addr) (its : Array Value) : Begins (.ref a) (sObj tp a) fun h => SAt tp h a its := by
  cases tp with
  | true => exact begins_tuple a its
  | false => exact begins_list a its
theorem s_it0 {tp : Bool} {h : Heap} {it a : Addr} (e : h.get? it = some (sObj tp a)) : SIt tp h it a 0 := by
  cases tp with
  | true => exact ⟨_, e, rfl, rfl⟩
  | false => exact ⟨_, e, rfl, rfl⟩
theorem s_obj {tp : Bool} {h : Heap} {it a : Addr} {i : Nat} (x : SIt tp h it a i) : ∃ o, h.get? it = some o ∧ ∀ v, o.data ≠ .cell v := by
  cases tp with
  | true =>
    obtain ⟨o, e, _, d⟩ := x
    exact ⟨o, e, fun v q => by rw [d] at q; cases q⟩
  | false =>
    obtain ⟨o, e, _, d⟩ := x
    exact ⟨o, e, fun v q => by rw [d] at q; cases q⟩
theorem s_keep {tp : Bool} {h h' : Heap} {it a : Addr} {i : Nat} (x : SIt tp h it a i) (k : ∀ o, h.get? it = some o → h'.get? it = some o) : SIt tp h' it a i := by
  cases tp with
  | true => exact Heap.IsTupleIter.at x k
  | false => exact Heap.IsListIter.at x k
theorem s_draws {prog : Program} {w : World} {A : Around} (tp : Bool) (calm : A.handled = none) (it a : Addr) (ne : a ≠ it) (its : Array Value) :
    Draws prog w A it [it, a] its.size (fun i v => its[i]? = some v) (fun i h => SIt tp h it a i ∧ SAt tp h a its) := by
  cases tp with
  | true => exact Draws.tuple calm it a ne its
  | false => exact Draws.list calm it a ne its
section
variable {X : Cx} {pins : List (Addr × Obj)} {σ : L2.St} {H : Hp} {s : Shared}
theorem src_of {tp : Bool} {a : Addr} {xs : List V} (I : Inv X pins σ H s) (h : SqK tp X.K H a xs) : ∃ its : List Value, Vals xs its ∧ SAt tp s.heap a its.toArray ∧ a < s.heap.objs.size := by
  cases tp with
  | true =>
    obtain ⟨its, rv, p, _⟩ := I.tuple h
    obtain ⟨o, e, _⟩ := id p
    exact ⟨its, rv, p, Heap.lt_size e⟩
  | false =>
    obtain ⟨its, rv, p, _⟩ := I.list h
    exact ⟨its, rv, p.isList, p.lt⟩
theorem src_inj {tp : Bool} {a : Addr} {xs ys : List V} (I : Inv X pins σ H s) (h : SqK tp X.K H a xs) (h' : SqK tp X.K H a ys) : xs = ys := by
  cases tp with
  | true => exact I.tuple_inj h h'
  | false => exact I.list_inj h h'
/-- a turn that hands out a new pair -/
theorem item_pair {tg : Expr} {it : Addr} {fp' wr fp : List Addr} {n i : Nat} {Y : Nat → Heap → Value → Heap → Prop} {St : Nat → Heap → Prop} {E : Value → Shared → Prop} {x y : V} {tn : Nat → Heap → Prop}
    (W : GoesN X.prog X.w X.A tg it fp' wr n Y St) (I : Inv X pins σ H s) (hf : ∀ b ∈ fp, FpOk X pins H b) (hw : ∀ b ∈ wr, b ∈ fp) (old : ∀ b ∈ fp, b < s.heap.objs.size) (hi : i < n) (st : St i s.heap)
    (hY : ∀ v h', Y i s.heap v h' → ∃ T u1 u2, v = .ref T ∧ s.heap.objs.size ≤ T ∧ h'.IsTuple T #[u1, u2] ∧ RelV x u1 ∧ RelV y u2) (ht : ∀ h', St (i + 1) h' → tn (i + 1) h') :
    wpAny (model X.prog X.w) X.A (pyNext (.ref it)) (fun r s1 => ∃ u, r = some u ∧ wpAny (model X.prog X.w) X.A (letOwnedTupleGo tg (.ref it) u)
      (fun _ s2 => ∃ v H', Inv X pins σ H' s2 ∧ RelV v u ∧ (∃ T, v = .ref T ∧ H T = none ∧ H' = upd H T (.tup [x, y])) ∧ tn (i + 1) s2.heap ∧ ∀ b ∈ fp, H' b = none) E s1) E s := by
  refine W.goes i s _ E hi st fun v h' tk hy st' hk _ => ?_
  obtain ⟨T, u1, u2, rfl, big, ⟨o, ho, hc, m, hd⟩, r1, r2⟩ := hY v h' hy
  have new : ObjOk X.prog X.w (upd H T (.tup [x, y])) h' T (.tup [x, y]) := ⟨by show 2 ≤ sizeLine; decide, [u1, u2], .cons r1 (.cons r2 .nil), ⟨o, ho, hc, m, hd⟩⟩
  have J : Inv X pins σ (upd H T (.tup [x, y])) { s with heap := h', toks := tk } := I.turnedNew (t' := tk) (ch := fp) (fun b u hb e => hk b u (fun z => hb (hw b z)) e) hf big new
  refine ⟨.ref T, _, J, rfl, ⟨T, rfl, I.hok.fresh big, rfl⟩, ht _ st', fun b hb => ?_⟩
  rw [upd_ne (Nat.ne_of_lt (Nat.lt_of_lt_of_le (old b hb) big))]
  exact (hf b hb).1
theorem item_done {it : Addr} {tg : Expr} {fp' wr fp : List Addr} {n : Nat} {Y : Nat → Heap → Value → Heap → Prop} {St : Nat → Heap → Prop} {E : Value → Shared → Prop}
    (W : GoesN X.prog X.w X.A tg it fp' wr n Y St) (I : Inv X pins σ H s) (hf : ∀ b ∈ fp, FpOk X pins H b) (hw : ∀ b ∈ wr, b ∈ fp) (st : St n s.heap) :
    wpAny (model X.prog X.w) X.A (pyNext (.ref it)) (fun r s1 => r = none ∧ Inv X pins σ H s1) E s :=
  W.stops s _ E st fun h' tk hk _ => I.turnedL (t' := tk) (ch := fp) (fun b u hb e => hk b u (fun z => hb (hw b z)) e) hf
end
/-! ### I3. for i, x in enumerate(list or tuple) -/
def ItE (K : PySem.W.Frag) (tp : Bool) (a : Addr) : It :=
  ⟨fun i H => ∃ (xs : List V) (x : V), SqK tp K H a xs ∧ xs[i]? = some x,
    fun i H v H' => ∃ T x, v = .ref T ∧ H T = none ∧ H' = upd H T (.tup [.int (i : Nat), x]) ∧ ∀ xs, SqK tp K H a xs → xs[i]? = some x,
    fun i H => ∃ xs : List V, SqK tp K H a xs ∧ xs.length = i⟩
theorem turn_E {P : Program} {w : World} {K : PySem.W.Frag} {elts : List Expr} {kk : Nat} {tpos : PySem.Pos} {tp : Bool} {a e it : Addr} (h1 : e ≠ it) (h2 : e ≠ a) (h3 : a ≠ it) :
    Turn P w K (.Tuple elts kk tpos) (ItE K tp a) [e, it] e (fun i h => (∃ old, IsEnum h e it (0 + (i : Int)) old) ∧ SIt tp h it a i) where
  mem := List.mem_cons_self
  obj := fun i h st b hb => by
    obtain ⟨⟨old, he⟩, hi⟩ := st
    rcases List.mem_cons.mp hb with rfl | hb
    · exact ⟨_, he, fun v q => nomatch q⟩
    · cases List.mem_singleton.mp hb
      exact s_obj hi
  keep := fun i h h' st k => by
    obtain ⟨⟨old, he⟩, hi⟩ := st
    exact ⟨⟨old, k e List.mem_cons_self _ he⟩, s_keep hi fun o q => k it (List.mem_cons_of_mem _ List.mem_cons_self) o q⟩
  item := by
    intro X hP hw hK hc i pins s σ H E I hf st hg
    subst hP hw hK
    obtain ⟨xs, x, hq, hx⟩ := hg
    obtain ⟨its, rv, src, _⟩ := src_of I hq
    obtain ⟨u, hu, ru⟩ := rv.get hx
    have D := s_draws (prog := X.prog) (w := X.w) (A := X.A.in1) tp (I.ok.hd hc) it a h3 its.toArray
    have W := GoesN.enumFrom (elts := elts) (x1 := kk) (pos := tpos) 0 D e h1 (by simp [h1, h2]) List.mem_cons_self
    obtain ⟨⟨old, he⟩, hi⟩ := id st
    have old2 : ∀ b ∈ [e, it], b < s.heap.objs.size := fun b hb => by
      rcases List.mem_cons.mp hb with rfl | hb
      · exact Heap.lt_size he
      · cases List.mem_singleton.mp hb
        obtain ⟨o, eo, _⟩ := s_obj hi
        exact Heap.lt_size eo
    have hlt : i < its.toArray.size := by
      have := (List.getElem?_eq_some_iff.mp hu).1
      rw [List.size_toArray]
      exact this
    refine thn (item_pair (tn := fun i h => (∃ old, IsEnum h e it (0 + (i : Int)) old) ∧ SIt tp h it a i) (x := .int (i : Nat)) (y := x) W I hf (fun b hb => hb) old2 hlt ⟨st.1, st.2, src⟩ ?_ (fun h' z => (⟨z.1, z.2.1⟩ : (∃ old, IsEnum h' e it (0 + ((i + 1 : Nat) : Int)) old) ∧ SIt tp h' it a (i + 1)))) fun r s1 h => ?_
    · rintro v h' ⟨T, t, y, rfl, big, hy, hT⟩
      refine ⟨T, _, _, rfl, big, hT, ⟨t, ?_⟩, ?_⟩
      · rw [Int.zero_add]
      · have hy2 : its[i]? = some y := by simpa using hy
        rw [hu] at hy2
        cases hy2
        exact ru
    · obtain ⟨u', hr, h⟩ := h
      refine ⟨u', hr, thn h fun _ s2 h => ?_⟩
      obtain ⟨v, H', J, rvu, ⟨T, e1, e2, e3⟩, t1, t2⟩ := h
      exact ⟨v, H', J, rvu, ⟨T, x, e1, e2, e3, fun ys hys => by rw [src_inj I hys hq]; exact hx⟩, t1, t2⟩
  done := by
    intro X hP hw hK hc i pins s σ H E I hf st hg
    subst hP hw hK
    obtain ⟨xs, hq, hl⟩ := hg
    obtain ⟨its, rv, src, _⟩ := src_of I hq
    have D := s_draws (prog := X.prog) (w := X.w) (A := X.A.in1) tp (I.ok.hd hc) it a h3 its.toArray
    have W := GoesN.enumFrom (elts := elts) (x1 := kk) (pos := tpos) 0 D e h1 (by simp [h1, h2]) List.mem_cons_self
    have en : its.toArray.size = i := by rw [List.size_toArray, ← rv.length, hl]
    refine item_done W I hf (fun b hb => hb) ?_
    rw [en]
    exact ⟨st.1, st.2, src⟩
  self := fun A i s Q E st h => by
    obtain ⟨⟨old, he⟩, _⟩ := st
    exact wpAny_pyIter_enum he h
def iEnumS (K : PySem.W.Frag) (tp : Bool) (ta : TA) : TI := fun σ H R => ta σ H fun vs H1 => ∃ a xs, vs = [.ref a] ∧ SqK tp K H1 a xs ∧ R (ItE K tp a) H1
theorem pi_enumS (tp : Bool) {X : Cx} {e : Expr} {ta : TA} {p pos tpos : PySem.Pos} {elts : List Expr} {kk : Nat} (hg : Gl X "enumerate") (hm : X.mg "enumerate" = none) (ha : PA X [e] ta) (hs : starEach [e] X.env = [(false, eval e X.env)] := by rfl) :
    PI X (.Tuple elts kk tpos) (.Call (.Name "enumerate" p) [e] [] pos) (iEnumS X.K tp ta) := by
  refine ⟨fun pins s σ H R I h => ?_⟩
  refine Call_ (ld_blt I hg hm boot_enumerate (PyProof.Rows.callWith_type1 (thn (ha.run pos pins s σ H _ I h) fun us s1 ⟨vs, H1, I1, r1, q1⟩ => ?_) hs rfl))
  obtain ⟨a, xs, rfl, hq, q⟩ := q1
  cases r1 with
  | cons r rr =>
    cases rr
    cases r
    obtain ⟨its, rv, src, lt⟩ := src_of I1 hq
    refine enum_begins1 (s_begins tp a its.toArray) src fun h' he hit hk => wpAny_pyIter_enum he ?_
    have I2 : Inv X pins σ H1 { s1 with heap := h' } := I1.kept (t' := s1.toks) hk
    refine ⟨s1.heap.objs.size + 1, [s1.heap.objs.size + 1, s1.heap.objs.size], _, _, H1, rfl, I2, turn_E (tp := tp) (a := a) (Nat.succ_ne_self _) (Nat.ne_of_gt (Nat.lt_succ_of_lt lt)) (Nat.ne_of_lt lt), ⟨⟨.none, he⟩, s_it0 hit⟩, fun b hb => ?_, q⟩
    have hle : s1.heap.objs.size ≤ b := by
      rcases List.mem_cons.mp hb with rfl | hb
      · exact Nat.le_succ _
      · cases List.mem_singleton.mp hb
        exact Nat.le_refl _
    exact I1.fpOk hle (I1.hok.fresh hle)
theorem walk_E {K : PySem.W.Frag} {tp : Bool} {a : Addr} {xs : List V} : Walk (ItE K tp a) xs.length (fun H => SqK tp K H a xs) (YPair (fun i => some (.int (i : Nat))) (fun i => xs[i]?)) := by
  refine ⟨fun i H hi q => ⟨xs, xs[i], q, by simp [hi]⟩, fun H q => ⟨xs, q, rfl⟩, fun i H v H' hi q y => ?_⟩
  obtain ⟨T, x, e1, e2, e3, e4⟩ := y
  exact ⟨T, _, x, e1, e2, e3, rfl, e4 xs q⟩
/-! ### I4. for x, y in zip(list or tuple, list or tuple) -/
def ItZ (K : PySem.W.Frag) (t1 t2 : Bool) (a b : Addr) : It :=
  ⟨fun i H => ∃ (xs ys : List V) (x y : V), SqK t1 K H a xs ∧ SqK t2 K H b ys ∧ xs[i]? = some x ∧ ys[i]? = some y,
    fun i H v H' => ∃ T x y, v = .ref T ∧ H T = none ∧ H' = upd H T (.tup [x, y]) ∧ (∀ xs, SqK t1 K H a xs → xs[i]? = some x) ∧ ∀ ys, SqK t2 K H b ys → ys[i]? = some y,
    fun i H => ∃ xs ys : List V, SqK t1 K H a xs ∧ SqK t2 K H b ys ∧ min xs.length ys.length = i⟩
theorem turn_Z {P : Program} {w : World} {K : PySem.W.Frag} {elts : List Expr} {kk : Nat} {tpos : PySem.Pos} {t1 t2 : Bool} {a b z TI TO i1 i2 : Addr} (S : ZipSep2 z TI TO i1 i2 [i1, a] [i2, b]) (n1 : a ≠ i1) (n2 : b ≠ i2) :
    Turn P w K (.Tuple elts kk tpos) (ItZ K t1 t2 a b) [z, TI, TO, i1, i2] z (fun i h => IsZip h z TI TO .none ∧ IsTupOf2 h TI (.ref i1) (.ref i2) ∧ (∃ a1 a2, IsTupOf2 h TO a1 a2) ∧ SIt t1 h i1 a i ∧ SIt t2 h i2 b i) where
  mem := List.mem_cons_self
  obj := fun i h st c hc => by
    obtain ⟨hz, hTI, ⟨x, y, hTO⟩, g1, g2⟩ := st
    simp only [List.mem_cons, List.not_mem_nil, or_false] at hc
    rcases hc with rfl | rfl | rfl | rfl | rfl
    · exact ⟨_, hz, fun v q => nomatch q⟩
    · exact ⟨_, hTI, fun v q => nomatch q⟩
    · exact ⟨_, hTO, fun v q => nomatch q⟩
    · exact s_obj g1
    · exact s_obj g2
  keep := fun i h h' st k => by
    obtain ⟨hz, hTI, ⟨x, y, hTO⟩, g1, g2⟩ := st
    exact ⟨k z (by simp) _ hz, k TI (by simp) _ hTI, ⟨x, y, k TO (by simp) _ hTO⟩, s_keep g1 fun o q => k i1 (by simp) o q, s_keep g2 fun o q => k i2 (by simp) o q⟩
  item := by
    intro X hP hw hK hc i pins s σ H E I hf st hg
    subst hP hw hK
    obtain ⟨xs, ys, x, y, hqx, hqy, hx, hy⟩ := hg
    obtain ⟨its, rv, src, _⟩ := src_of I hqx
    obtain ⟨its2, rv2, src2, _⟩ := src_of I hqy
    obtain ⟨u, hu, ru⟩ := rv.get hx
    obtain ⟨u2, hu2, ru2⟩ := rv2.get hy
    have D1 := s_draws (prog := X.prog) (w := X.w) (A := X.A.in1) t1 (I.ok.hd hc) i1 a n1 its.toArray
    have D2 := s_draws (prog := X.prog) (w := X.w) (A := X.A.in1) t2 (I.ok.hd hc) i2 b n2 its2.toArray
    have W := GoesN.zip2 (elts := elts) (x1 := kk) (pos := tpos) S D1 D2
    obtain ⟨hz, hTI, ⟨x0, y0, hTO⟩, g1, g2⟩ := id st
    have old2 : ∀ c ∈ [z, TI, TO, i1, i2], c < s.heap.objs.size := fun c hc => by
      simp only [List.mem_cons, List.not_mem_nil, or_false] at hc
      rcases hc with rfl | rfl | rfl | rfl | rfl
      · exact Heap.lt_size hz
      · exact Heap.lt_size hTI
      · exact Heap.lt_size hTO
      · obtain ⟨o, eo, _⟩ := s_obj g1
        exact Heap.lt_size eo
      · obtain ⟨o, eo, _⟩ := s_obj g2
        exact Heap.lt_size eo
    have hlt : i < min its.toArray.size its2.toArray.size := by
      have e1 := (List.getElem?_eq_some_iff.mp hu).1
      have e2 := (List.getElem?_eq_some_iff.mp hu2).1
      rw [List.size_toArray, List.size_toArray]
      omega
    have sub : ∀ c ∈ [z, TO, i1, i2], c ∈ [z, TI, TO, i1, i2] := fun c hc => by
      simp only [List.mem_cons, List.not_mem_nil, or_false] at hc ⊢
      rcases hc with h | h | h | h
      · exact .inl h
      · exact .inr (.inr (.inl h))
      · exact .inr (.inr (.inr (.inl h)))
      · exact .inr (.inr (.inr (.inr h)))
    refine thn (item_pair (tn := fun i h => IsZip h z TI TO .none ∧ IsTupOf2 h TI (.ref i1) (.ref i2) ∧ (∃ a1 a2, IsTupOf2 h TO a1 a2) ∧ SIt t1 h i1 a i ∧ SIt t2 h i2 b i) (x := x) (y := y) W I hf sub old2 hlt ⟨hz, hTI, ⟨x0, y0, hTO⟩, ⟨g1, src⟩, ⟨g2, src2⟩⟩ ?_ (fun h' q => (⟨q.1, q.2.1, q.2.2.1, q.2.2.2.1.1, q.2.2.2.2.1⟩ : IsZip h' z TI TO .none ∧ IsTupOf2 h' TI (.ref i1) (.ref i2) ∧ (∃ a1 a2, IsTupOf2 h' TO a1 a2) ∧ SIt t1 h' i1 a (i + 1) ∧ SIt t2 h' i2 b (i + 1)))) fun r s1 h => ?_
    · rintro v h' ⟨T, y1, y2, rfl, big, hy1, hy2, hT⟩
      refine ⟨T, _, _, rfl, big, hT, ?_, ?_⟩
      · have e : its[i]? = some y1 := by simpa using hy1
        rw [hu] at e
        cases e
        exact ru
      · have e : its2[i]? = some y2 := by simpa using hy2
        rw [hu2] at e
        cases e
        exact ru2
    · obtain ⟨u', hr, h⟩ := h
      refine ⟨u', hr, thn h fun _ s2 h => ?_⟩
      obtain ⟨v, H', J, rvu, ⟨T, e1, e2, e3⟩, q1, q2⟩ := h
      exact ⟨v, H', J, rvu, ⟨T, x, y, e1, e2, e3, fun l hl => by rw [src_inj I hl hqx]; exact hx, fun l hl => by rw [src_inj I hl hqy]; exact hy⟩, q1, q2⟩
  done := by
    intro X hP hw hK hc i pins s σ H E I hf st hg
    subst hP hw hK
    obtain ⟨xs, ys, hqx, hqy, hl⟩ := hg
    obtain ⟨its, rv, src, _⟩ := src_of I hqx
    obtain ⟨its2, rv2, src2, _⟩ := src_of I hqy
    have D1 := s_draws (prog := X.prog) (w := X.w) (A := X.A.in1) t1 (I.ok.hd hc) i1 a n1 its.toArray
    have D2 := s_draws (prog := X.prog) (w := X.w) (A := X.A.in1) t2 (I.ok.hd hc) i2 b n2 its2.toArray
    have W := GoesN.zip2 (elts := elts) (x1 := kk) (pos := tpos) S D1 D2
    have en : min its.toArray.size its2.toArray.size = i := by rw [List.size_toArray, List.size_toArray, ← rv.length, ← rv2.length, hl]
    have sub : ∀ c ∈ [z, TO, i1, i2], c ∈ [z, TI, TO, i1, i2] := fun c hc => by
      simp only [List.mem_cons, List.not_mem_nil, or_false] at hc ⊢
      rcases hc with h | h | h | h
      · exact .inl h
      · exact .inr (.inr (.inl h))
      · exact .inr (.inr (.inr (.inl h)))
      · exact .inr (.inr (.inr (.inr h)))
    refine item_done W I hf sub ?_
    rw [en]
    obtain ⟨hz, hTI, hTO, g1, g2⟩ := st
    exact ⟨hz, hTI, hTO, ⟨g1, src⟩, ⟨g2, src2⟩⟩
  self := fun A i s Q E st h => wpAny_pyIter_zip st.1 h
def iZipS (K : PySem.W.Frag) (t1 t2 : Bool) (ta : TA) : TI := fun σ H R => ta σ H fun vs H1 => ∃ a b xs ys, vs = [.ref a, .ref b] ∧ SqK t1 K H1 a xs ∧ SqK t2 K H1 b ys ∧ R (ItZ K t1 t2 a b) H1
theorem pi_zipS (t1 t2 : Bool) {X : Cx} {e e2 : Expr} {ta : TA} {p pos tpos : PySem.Pos} {elts : List Expr} {kk : Nat} (hg : Gl X "zip") (hm : X.mg "zip" = none) (ha : PA X [e, e2] ta)
    (hs : starEach [e, e2] X.env = (false, eval e X.env) :: starEach [e2] X.env := by rfl) (hpl : (backTo pos (starEach [e2] X.env)).any (·.1) = false := by rfl) :
    PI X (.Tuple elts kk tpos) (.Call (.Name "zip" p) [e, e2] [] pos) (iZipS X.K t1 t2 ta) := by
  refine ⟨fun pins s σ H R I h => ?_⟩
  refine Call_ (ld_blt I hg hm PyProof.Rows.boot_zip (PyProof.Rows.callWith_type1 (thn (ha.run pos pins s σ H _ I h) fun us s1 ⟨vs, H1, I1, r1, q1⟩ => ?_) hs hpl))
  obtain ⟨a, b, xs, ys, rfl, hqx, hqy, q⟩ := q1
  cases r1 with
  | cons r rr =>
    cases rr with
    | cons r' rr =>
      cases rr
      cases r
      cases r'
      obtain ⟨its, rv, src, lt⟩ := src_of I1 hqx
      obtain ⟨its2, rv2, src2, lt2⟩ := src_of I1 hqy
      refine zip_begins2 (s_begins t1 a its.toArray) (s_begins t2 b its2.toArray) src src2 fun h' hz hTI hTO g1 g2 _ hk => wpAny_pyIter_zip hz ?_
      have I2 : Inv X pins σ H1 { s1 with heap := h' } := I1.kept (t' := s1.toks) hk
      have S := zip_sep2 (N := s1.heap.objs.size) (fp1 := [a]) (fp2 := [b]) (fun c hc => by cases List.mem_singleton.mp hc; exact lt) (fun c hc => by cases List.mem_singleton.mp hc; exact lt2)
      refine ⟨s1.heap.objs.size + 4, [s1.heap.objs.size + 4, s1.heap.objs.size + 2, s1.heap.objs.size + 3, s1.heap.objs.size, s1.heap.objs.size + 1], _, _, H1, rfl, I2,
        turn_Z (t1 := t1) (t2 := t2) S (Nat.ne_of_lt lt) (Nat.ne_of_lt (Nat.lt_succ_of_lt lt2)), ⟨hz, hTI, ⟨_, _, hTO⟩, s_it0 g1, s_it0 g2⟩, fun c hc => ?_, q⟩
      have hle : s1.heap.objs.size ≤ c := by
        simp only [List.mem_cons, List.not_mem_nil, or_false] at hc
        rcases hc with rfl | rfl | rfl | rfl | rfl
        · exact Nat.le_add_right _ _
        · exact Nat.le_add_right _ _
        · exact Nat.le_add_right _ _
        · exact Nat.le_refl _
        · exact Nat.le_add_right _ _
      exact I1.fpOk hle (I1.hok.fresh hle)
theorem walk_Z {K : PySem.W.Frag} {t1 t2 : Bool} {a b : Addr} {xs ys : List V} {n : Nat} (hn : n = min xs.length ys.length) :
    Walk (ItZ K t1 t2 a b) n (fun H => SqK t1 K H a xs ∧ SqK t2 K H b ys) (YPair (fun i => xs[i]?) (fun i => ys[i]?)) := by
  subst hn
  refine ⟨fun i H hi q => ?_, fun H q => ⟨xs, ys, q.1, q.2, rfl⟩, fun i H v H' hi q y => ?_⟩
  · have e1 : i < xs.length := by omega
    have e2 : i < ys.length := by omega
    exact ⟨xs, ys, xs[i], ys[i], q.1, q.2, by simp [e1], by simp [e2]⟩
  · obtain ⟨T, x, y, e1, e2, e3, e4, e5⟩ := y
    exact ⟨T, x, y, e1, e2, e3, e4 xs q.1, e5 ys q.2⟩
/-- the values ys, one by one, are what R says of the data ls -/
def AllAt {α : Type} (R : Hp → V → α → Prop) (H : Hp) (ys : List V) (ls : List α) : Prop := ys.length = ls.length ∧ ∀ (i : Nat) l, ls[i]? = some l → ∃ y, ys[i]? = some y ∧ R H y l
section
variable {α : Type} {R : Hp → V → α → Prop} {H H' : Hp} {ys : List V} {ls : List α}
theorem AllAt.same (m : ∀ {H H' : Hp} {x : V} {t : α}, Same H H' → R H x t → R H' x t) (e : Same H H') (h : AllAt R H ys ls) : AllAt R H' ys ls :=
  ⟨h.1, fun i l hl => let ⟨y, h1, h2⟩ := h.2 i l hl; ⟨y, h1, m e h2⟩⟩
theorem AllAt.nil : AllAt R H [] [] := ⟨rfl, fun i l hl => by simp at hl⟩
theorem AllAt.add (h : AllAt R H ys ls) {y : V} {l : α} (r : R H y l) : AllAt R H (ys ++ [y]) (ls ++ [l]) := by
  refine ⟨by rw [List.length_append, List.length_append, h.1]; rfl, fun i k hk => ?_⟩
  rw [List.getElem?_append] at hk ⊢
  rw [h.1]
  by_cases hi : i < ls.length
  · rw [if_pos hi] at hk ⊢
    exact h.2 i k hk
  · rw [if_neg hi] at hk ⊢
    obtain ⟨e1, e2⟩ := List.getElem?_eq_some_iff.mp hk
    have e3 : i - ls.length = 0 := by simpa using e1
    rw [e3] at hk ⊢
    cases hk
    exact ⟨y, rfl, r⟩
theorem AllAt.get (h : AllAt R H ys ls) {i : Nat} {y : V} (hy : ys[i]? = some y) : ∃ l, ls[i]? = some l ∧ R H y l := by
  have hi := (List.getElem?_eq_some_iff.mp hy).1
  have hi2 : i < ls.length := by
    rw [← h.1]
    exact hi
  have hl : ls[i]? = some ls[i] := List.getElem?_eq_getElem hi2
  obtain ⟨y2, h1, h2⟩ := h.2 i _ hl
  rw [hy] at h1
  cases h1
  exact ⟨_, hl, h2⟩
end
theorem AllAt.imp {α : Type} {R S : Hp → V → α → Prop} {H H' : Hp} {ys : List V} {ls : List α} (h : AllAt R H ys ls) (f : ∀ y l, R H y l → S H' y l) : AllAt S H' ys ls :=
  ⟨h.1, fun i l hl => let ⟨y, h1, h2⟩ := h.2 i l hl; ⟨y, h1, f _ _ h2⟩⟩
theorem sqt_put {K : PySem.W.Frag} {H : Hp} {D a : Addr} {zs xs : List V} {o : HO} (hD : H D = some (.lst zs)) (h : SqT K H a xs) : SqT K (upd H D o) a xs := by
  rcases h with (h | ⟨u, h⟩) | h
  · refine .inl (.inl ?_)
    rw [upd_ne (fun e => by rw [e, hD] at h; cases h)]
    exact h
  · refine .inl (.inr ⟨u, ?_⟩)
    rw [upd_ne (fun e => by rw [e, hD] at h; cases h)]
    exact h
  · exact .inr h
/-- one turn of a comprehension whose items are ys -/
theorem acc_to {ys : List V} {D : Addr} {H1 H4 : Hp} {i : Nat} {y : V} (nD : H1 D = none) (sm : Same H1 H4) (hD : H4 D = some (.lst (ys.take i))) (hy : ys[i]? = some y) (hz : ys.length ≤ 100000) :
    ∃ acc, H4 D = some (.lst acc) ∧ acc.length < sizeLine ∧ (Same H1 (upd H4 D (.lst (acc ++ [y]))) ∧ upd H4 D (.lst (acc ++ [y])) D = some (.lst (ys.take (i + 1)))) := by
  have hi := (List.getElem?_eq_some_iff.mp hy).1
  refine ⟨_, hD, ?_, same_put sm nD, ?_⟩
  · rw [List.length_take]
    exact szl (by omega)
  · rw [upd_same, List.take_add_one, hy]
    rfl
theorem acc_all {ys : List V} {D : Addr} {H : Hp} {n : Nat} (hn : n = ys.length) (h : H D = some (.lst (ys.take n))) : H D = some (.lst ys) := by
  rw [h, hn, List.take_of_length_le (Nat.le_refl _)]
/-! ### list(enumerate(a list or a tuple)) -/
section
variable {prog : Program} {w : World} {A : Around} {E : Value → Shared → Prop} {s : Shared}
theorem enum_no_len : typeLookup (.type "enumerate") "__len__" = pure none := am_miss_of_fast (by decide +kernel)
theorem enum_no_hint : typeLookup (.type "enumerate") "__length_hint__" = pure none := am_miss_of_fast (by decide +kernel)
/-- the next pair while the first one that was given out is still there -/
theorem held_next {e it T : Addr} {fp : List Addr} {n i : Nat} {c : Int} {P : Nat → Value → Prop} {St : Nat → Heap → Prop} {old : Value} {f : Bool} {oT : Obj} {Q : Value → Shared → Prop}
    (D : Draws prog w A it fp n P St) (he : IsEnumHeld s.heap e it c old T f) (hT : s.heap.get? T = some oT) (n1 : T ≠ e) (n2 : T ≠ it) (st : St i s.heap) (lt : i < n) (n3 : e ≠ it) (n4 : e ∉ fp)
    (q : ∀ x h' tk, P i x → IsEnumHeld h' e it (c + 1) old T true → St (i + 1) h' → h'.get? s.heap.objs.size = some { cls := .type "tuple", data := .seq #[.int c tk, x] } →
      (∀ b o, b ≠ e → b ≠ it → s.heap.get? b = some o → h'.get? b = some o) → Q (.ref s.heap.objs.size) { s with heap := h', toks := tk + 1 }) :
    wpAny (model prog w) A (Builtin.«enumerate.__next__» ⟨[.ref e], []⟩) (fun fin s' => ∃ v, fin = .done (.ret v) ∧ Q v s') E s := by
  obtain ⟨h0, gs, dr, t0, os⟩ := s
  show wpAny _ _ (field (.ref e) 2 >>= _) _ _ _
  refine wpAny_bind (wpAny_field he rfl (x := .ref it) rfl (wpAny_bind (D.item i _ _ _ lt st fun x h1 tk px st1 sb1 => ?_)))
  have sb1 : Heap.SameBut it h0 h1 := sb1
  have e1 : IsEnumHeld h1 e it c old T f := (sb1.2 e n3).trans he
  show wpAny _ _ (field (.ref e) 3 >>= _) _ _ ⟨h1, gs, dr, tk, os⟩
  refine wpAny_bind (wpAny_field e1 rfl (x := rawInt c) rfl ?_)
  show wpAny _ _ (field (.ref e) 4 >>= _) _ _ ⟨h1, gs, dr, tk, os⟩
  refine wpAny_bind (wpAny_field e1 rfl (x := .none) rfl ?_)
  show wpAny _ _ (mkInt c >>= _) _ _ ⟨h1, gs, dr, tk, os⟩
  refine wpAny_bind (wpAny_mkInt ?_)
  show wpAny _ _ (setField (.ref e) 3 (rawInt (c + 1)) >>= _) _ _ ⟨h1, gs, dr, tk + 1, os⟩
  refine wpAny_bind (wpAny_setField_rec e1 (by simp) fun h2 e2 sb2 => ?_)
  have sb2 : Heap.SameBut e h1 h2 := sb2
  have e2 : IsEnumHeld h2 e it (c + 1) old T f := e2
  show wpAny _ _ (setField (.ref e) 4 .none >>= _) _ _ ⟨h2, gs, dr, tk + 1, os⟩
  refine wpAny_bind (wpAny_setField_rec e2 (by simp) fun h3 e3 sb3 => ?_)
  have sb3 : Heap.SameBut e h2 h3 := sb3
  have e3 : IsEnumHeld h3 e it (c + 1) old T f := e3
  show wpAny _ _ (newTuple [.int c tk, x] >>= _) _ _ ⟨h3, gs, dr, tk + 1, os⟩
  refine wpAny_bind (wpAny_newTuple ?_)
  obtain ⟨h4, eh4⟩ : ∃ h4, h3.push { cls := .type "tuple", data := .seq #[.int c tk, x] } = h4 := ⟨_, rfl⟩
  have e4 : IsEnumHeld h4 e it (c + 1) old T f := by
    rw [← eh4]
    exact Heap.get?_push_of_some _ e3
  have z3 : h3.objs.size = h0.objs.size := by rw [sb3.1, sb2.1, sb1.1]
  have t4 : h4.get? h0.objs.size = some { cls := .type "tuple", data := .seq #[.int c tk, x] } := by
    rw [← eh4, ← z3]
    exact Heap.get?_push_size _ rfl
  have k4 : ∀ b o, b ≠ e → b ≠ it → h0.get? b = some o → h4.get? b = some o := fun b o ne ni g => by
    rw [← eh4]
    exact Heap.get?_push_of_some _ (sb3.extBut b o ne (sb2.extBut b o ne (sb1.extBut b o ni g)))
  have st4 : St (i + 1) h4 := D.frame _ _ _ st1 fun b hb o g => by
    have ne : b ≠ e := fun z => n4 (z ▸ hb)
    rw [← eh4]
    exact Heap.get?_push_of_some _ (sb3.extBut b o ne (sb2.extBut b o ne g))
  show wpAny _ _ (Builtin.SmallTypes.ownedTupleIsFree (.ref e) >>= _) _ _ ⟨h3.push _, gs, dr, tk + 1, os⟩
  rw [eh4, z3]
  refine wpAny_bind (wpAny_tupleHeld_enum (s := ⟨h4, gs, dr, tk + 1, os⟩) e4 (k4 T oT n1 n2 hT) fun h5 e5 sb5 => ?_)
  have sb5 : Heap.SameBut e h4 h5 := sb5
  have ne : h0.objs.size ≠ e := Nat.ne_of_gt (Heap.lt_size he)
  simp only [Bool.false_eq_true, if_false]
  refine wpAny_pure ⟨_, rfl, q x h5 tk px e5 (D.frame _ _ _ st4 fun b hb o g => sb5.extBut b o (fun z => n4 (z ▸ hb)) g) (sb5.extBut _ _ ne t4) fun b o hb hi g => sb5.extBut b o hb (k4 b o hb hi g)⟩
/-- an enumerate object at e: the first pair is still there, if one was given out -/
def EnSt (e it S : Addr) (c : Int) (h : Heap) : Prop := (∃ old, IsEnum h e it c old) ∨ ∃ old T f oT, IsEnumHeld h e it c old T f ∧ h.get? T = some oT ∧ T ≠ e ∧ T ≠ it ∧ T ≠ S
theorem EnSt.ty {e it S : Addr} {c : Int} (h : EnSt e it S c s.heap) : s.TypeIs (.ref e) "enumerate" := by
  rcases h with ⟨_, h⟩ | ⟨_, _, _, _, h, _⟩
  · exact ⟨_, h, rfl⟩
  · exact ⟨_, h, rfl⟩
theorem EnSt.lt {e it S : Addr} {c : Int} {h : Heap} (x : EnSt e it S c h) : e < h.objs.size := by
  rcases x with ⟨_, x⟩ | ⟨_, _, _, _, x, _⟩
  · exact Heap.lt_size x
  · exact Heap.lt_size x
theorem EnSt.keep {e it S : Addr} {c : Int} {h h' : Heap} (x : EnSt e it S c h) (ne : e ≠ S) (k : ∀ b o, b ≠ S → h.get? b = some o → h'.get? b = some o) : EnSt e it S c h' := by
  rcases x with ⟨o, x⟩ | ⟨o, T, f, oT, x, hT, a1, a2, a3⟩
  · exact .inl ⟨o, k _ _ ne x⟩
  · exact .inr ⟨o, T, f, oT, k _ _ ne x, k _ _ a3 hT, a1, a2, a3⟩
theorem en_item {e it S : Addr} {fp : List Addr} {n i : Nat} {c : Int} {P : Nat → Value → Prop} {St : Nat → Heap → Prop} {Q : Option Value → Shared → Prop}
    (D : Draws prog w A.in1 it fp n P St) (he : EnSt e it S c s.heap) (st : St i s.heap) (lt : i < n) (n3 : e ≠ it) (n4 : e ∉ fp) (hS : S < s.heap.objs.size)
    (q : ∀ x h' tk, P i x → EnSt e it S (c + 1) h' → St (i + 1) h' → h'.get? s.heap.objs.size = some { cls := .type "tuple", data := .seq #[.int c tk, x] } →
      (∀ b o, b ≠ e → b ≠ it → s.heap.get? b = some o → h'.get? b = some o) → Q (some (.ref s.heap.objs.size)) { s with heap := h', toks := tk + 1 }) :
    wpAny (model prog w) A (pyNext (.ref e)) Q E s := by
  have nS : s.heap.objs.size ≠ S := Nat.ne_of_gt hS
  have ne : s.heap.objs.size ≠ e := Nat.ne_of_gt he.lt
  have ni : s.heap.objs.size ≠ it := by
    obtain ⟨o, g⟩ := D.live _ _ st
    exact Nat.ne_of_gt (Heap.lt_size g)
  rcases he with ⟨old, he⟩ | ⟨old, T, f, oT, he, hT, a1, a2, a3⟩
  · refine wpAny_pyNext_enum_itemC D he st lt n3 n4 fun x h' tk px ho st' ht _ k => ?_
    exact q x h' tk px (.inr ⟨x, s.heap.objs.size, false, _, ho, ht, ne, ni, nS⟩) st' ht k
  · have hTy : s.TypeIs (.ref e) "enumerate" := ⟨_, he, rfl⟩
    unfold pyNext
    refine wpAny_bind (wpAny_attempt (wpAny_callSpecial?_slot (name := Str.ofString "__next__") hTy F.slot_enumerate_next (wpAny_call_entry F.slot_enumerate_next hTy F.entry_enumerate_next ?_ (F.args_enumerate_next_1 _))))
    refine held_next D he hT a1 a2 st lt n3 n4 fun x h' tk px ho st' ht k => wpAny_pure ?_
    exact q x h' tk px (.inr ⟨old, T, true, oT, ho, k T oT a1 a2 hT, a1, a2, a3⟩) st' ht k
theorem en_end {e it S : Addr} {fp : List Addr} {n : Nat} {c : Int} {P : Nat → Value → Prop} {St : Nat → Heap → Prop} {Q : Option Value → Shared → Prop}
    (D : Draws prog w A.in1 it fp n P St) (he : EnSt e it S c s.heap) (st : St n s.heap) (q : ∀ h', Heap.ExtBut it s.heap h' → Q none { s with heap := h' }) :
    wpAny (model prog w) A (pyNext (.ref e)) Q E s := by
  rcases he with ⟨old, he⟩ | ⟨old, T, f, oT, he, _⟩
  · exact wpAny_pyNext_enum_endD D he st q
  · have hTy : s.TypeIs (.ref e) "enumerate" := ⟨_, he, rfl⟩
    unfold pyNext
    refine wpAny_bind (wpAny_attempt (wpAny_callSpecial?_slot (name := Str.ofString "__next__") hTy F.slot_enumerate_next (wpAny_call_entry F.slot_enumerate_next hTy F.entry_enumerate_next ?_ (F.args_enumerate_next_1 _))))
    show wpAny _ _ (field (.ref e) 2 >>= _) _ _ _
    refine wpAny_bind (wpAny_field he rfl (x := .ref it) rfl (wpAny_bind (D.done _ _ _ st fun h' x hk hx => ?_)))
    obtain ⟨o, ho, hc⟩ := hx
    refine wpAny_bind (wpAny_isInstance (T := "StopIteration") (b := true) ⟨o, ho, hc⟩ isSubtype_stop (wpAny_pure (q _ hk)))
end
section
variable {X : Cx} {pins : List (Addr × Obj)} {σ : L2.St} {H : Hp} {s : Shared}
theorem fp_to {H' : Hp} {b : Addr} (h : FpOk X pins H b) (n : H' b = none) : FpOk X pins H' b := ⟨n, h.2⟩
/-- the pairs (i, x) that were made, in a list at S -/
def EnList (H : Hp) (S : Addr) (xs : List V) (k : Nat) : Prop := ∃ ts : List Addr, H S = some (.lst (ts.map V.ref)) ∧ ts.length = k ∧ ∀ (i : Nat) t, ts[i]? = some t → ∃ x, xs[i]? = some x ∧ H t = some (.tup [.int (i : Int), x])
theorem en_loop {A1 : Around} {tp : Bool} {a e it S : Addr} {xs : List V} {its : List Value} {H0 : Hp} {Rs : Result → Shared → Prop} (hA : A1.in1.in1.handled = none) (n1 : e ≠ it) (n2 : e ≠ a) (n3 : a ≠ it) (n4 : e ≠ S) (n5 : it ≠ S) (n6 : a ≠ S) (hx : Vals xs its) (hz : xs.length ≤ 100000)
    (done : ∀ H s, Inv X pins σ H s → Bar S H0 H → EnList H S xs xs.length → Rs (.ok (.ret .none)) s) :
    ∀ (m k : Nat) (H : Hp) (s : Shared), k + m = xs.length → Inv X pins σ H s → FpOk X pins H e → FpOk X pins H it → Bar S H0 H → EnList H S xs k → EnSt e it S ((k : Nat) : Int) s.heap → SIt tp s.heap it a k → SAt tp s.heap a its.toArray →
      codeAny (model X.prog X.w) A1 (.builtin "list.extend.loop" ⟨[.ref S, .ref e, .none], []⟩) Rs s := by
  intro m
  induction m with
  | zero =>
    intro k H s hk I fe fi hb hl he hi ha
    refine codeAny_builtin PySem.F.entry_extend_loop ?_
    rw [Around.under_plainId PySem.F.plain_extend_loop _]
    show wpAny _ A1.in1 (pyNext (.ref e) >>= _) _ _ s
    have D := s_draws (prog := X.prog) (w := X.w) (A := A1.in1.in1) tp hA it a n3 its.toArray
    have ek : its.toArray.size = k := by
      rw [List.size_toArray, ← hx.length]
      omega
    refine wpAny_bind (en_end D he (by rw [ek]; exact ⟨hi, ha⟩) fun h' hk' => ?_)
    have I' : Inv X pins σ H { s with heap := h' } := I.turnedL (t' := s.toks) (ch := [it]) (fun b u nb g => hk' b u (fun z => nb (List.mem_singleton.mpr z)) g) fun b hb => by
      cases List.mem_singleton.mp hb
      exact fi
    have e0 : k = xs.length := by omega
    subst e0
    exact wpAny_pure (done _ _ I' hb hl)
  | succ m ih =>
    intro k H s hk I fe fi hb hl he hi ha
    refine codeAny_builtin PySem.F.entry_extend_loop ?_
    rw [Around.under_plainId PySem.F.plain_extend_loop _]
    show wpAny _ A1.in1 (pyNext (.ref e) >>= _) _ _ s
    have D := s_draws (prog := X.prog) (w := X.w) (A := A1.in1.in1) tp hA it a n3 its.toArray
    obtain ⟨ts, hS, htl, hT⟩ := hl
    obtain ⟨zS, sits, nS, rS, lS, gS⟩ := I.lstM hS
    have lt : k < its.toArray.size := by
      rw [List.size_toArray, ← hx.length]
      omega
    obtain ⟨x, hxk⟩ : ∃ x, xs[k]? = some x := ⟨_, List.getElem?_eq_getElem (by omega)⟩
    obtain ⟨u, hu, ru⟩ := hx.get hxk
    refine wpAny_bind (en_item D he ⟨hi, ha⟩ lt n1 (by simp [n1, n2]) (Heap.lt_size gS) fun y h' tk py he' st' ht kp => ?_)
    have ey : y = u := by
      have py2 : its[k]? = some y := by simpa using py
      rw [hu] at py2
      exact (Option.some.inj py2).symm
    subst ey
    obtain ⟨p, hp⟩ : ∃ p, s.heap.objs.size = p := ⟨_, rfl⟩
    have np : H p = none := by
      rw [← hp]
      exact I.fresh
    have new : ObjOk X.prog X.w (upd H p (.tup [.int ((k : Nat) : Int), x])) h' p (.tup [.int ((k : Nat) : Int), x]) :=
      ⟨by show 2 ≤ sizeLine; decide, [_, _], .cons ⟨tk, rfl⟩ (.cons ru .nil), ⟨_, by rw [← hp]; exact ht, rfl, _, rfl⟩⟩
    have J : Inv X pins σ (upd H p (.tup [.int ((k : Nat) : Int), x])) { s with heap := h', toks := tk + 1 } := I.turnedNew (t' := tk + 1) (ch := [e, it]) (fun b u nb g => kp b u (fun z => nb (by simp [z])) (fun z => nb (by simp [z])) g) (fun b hb => by
      rcases List.mem_cons.mp hb with rfl | hb
      · exact fe
      · cases List.mem_singleton.mp hb
        exact fi) (by rw [hp]; exact Nat.le_refl _) new
    have nSp : S ≠ p := ne_of_none hS np
    have hS1 : upd H p (.tup [.int ((k : Nat) : Int), x]) S = some (.lst (ts.map V.ref)) := by
      rw [upd_ne nSp]
      exact hS
    have nep : e ≠ p := by
      rw [← hp]
      exact Nat.ne_of_lt he.lt
    have nip : it ≠ p := by
      obtain ⟨o, g⟩ := D.live _ _ ⟨hi, ha⟩
      rw [← hp]
      exact Nat.ne_of_lt (Heap.lt_size g)
    obtain ⟨z1, its1, m1, r1, l1, g1⟩ := J.lstM hS1
    show wpAny _ A1.in1 (updateSeq S (·.push (Value.ref s.heap.objs.size)) >>= _) _ _ _
    rw [hp]
    have l2 : its1.length = k := by
      rw [← l1, List.length_map, htl]
    refine wpAny_bind (wpAny_updateSeq g1 rfl (wpAny_pure ⟨plainId_quiet PySem.F.plain_extend_loop _, ?_⟩) (by rw [List.size_toArray, l2, sizeLine_eq]; omega) (by show (its1.toArray.push _).size ≤ sizeLine + 1; rw [Array.size_push, List.size_toArray, l2, sizeLine_eq]; omega))
    have J2 := J.lset (its' := its1 ++ [Value.ref p]) (ys := ts.map V.ref ++ [V.ref p]) (f := (·.push (Value.ref p))) (t' := tk + 1) hS1 g1 (by simp) (r1.append (.cons rfl .nil)) (by rw [List.length_append, List.length_map, htl, sizeLine_eq]; show k + 1 ≤ _; omega)
    have kS : ∀ b o, b ≠ S → h'.get? b = some o → (h'.update S (Obj.mapSeq (·.push (Value.ref p)))).get? b = some o := fun b o nb g => (Heap.get?_update_other _ _ (Ne.symm nb)).trans g
    have e1 : upd (upd H p (.tup [.int ((k : Nat) : Int), x])) S (.lst (ts.map V.ref ++ [V.ref p])) p = some (.tup [.int ((k : Nat) : Int), x]) := by
      rw [upd_ne nSp.symm, upd_same]
    refine ih (k + 1) _ _ (by omega) J2 (fp_to fe ?_) (fp_to fi ?_) ((hb.add np).put) ⟨ts ++ [p], ?_, ?_, ?_⟩ ((he'.keep n4 kS)) (s_keep st'.1 fun o g => kS it o n5 g) ?_
    · rw [upd_ne n4, upd_ne nep]
      exact fe.1
    · rw [upd_ne n5, upd_ne nip]
      exact fi.1
    · rw [upd_same, List.map_append]
      rfl
    · rw [List.length_append, htl]
      rfl
    · intro i t hit
      by_cases hi2 : i < ts.length
      · rw [List.getElem?_append_left hi2] at hit
        obtain ⟨z, hz1, hz2⟩ := hT i t hit
        have ntS : t ≠ S := ne_of hz2 hS (by intro z; cases z)
        refine ⟨z, hz1, ?_⟩
        rw [upd_ne ntS, upd_ne (ne_of_none hz2 np)]
        exact hz2
      · rw [List.getElem?_append_right (by omega)] at hit
        have i0 : i - ts.length = 0 := by
          cases h : i - ts.length with
          | zero => rfl
          | succ j =>
            rw [h] at hit
            simp at hit
        rw [i0] at hit
        cases Option.some.inj hit
        have ei : i = k := by omega
        subst ei
        exact ⟨x, hxk, e1⟩
    · cases tp with
      | true => exact Heap.IsTuple.at st'.2 fun o g => kS a o n6 g
      | false => exact Heap.IsList.at st'.2 fun o g => kS a o n6 g
end
def tListE (K : PySem.W.Frag) (tp : Bool) (ta : TA) : TE := fun σ H Q => ta σ H fun vs H1 => ∃ a xs, vs = [.ref a] ∧ SqK tp K H1 a xs ∧ xs.length ≤ 100000 ∧ ∀ S H', Same H1 H' → H1 S = none → EnList H' S xs xs.length → Q (.ref S) H'
theorem pe_listEnum (tp : Bool) {X : Cx} {e : Expr} {ta : TA} {p p2 pos pos2 : PySem.Pos} (hc : X.calm = true) (hgl : Gl X "list") (hml : X.mg "list" = none) (hg : Gl X "enumerate") (hm : X.mg "enumerate" = none) (ha : PA X [e] ta)
    (hs : starEach [e] X.env = [(false, eval e X.env)] := by rfl) (na : starEach [Expr.Call (.Name "enumerate" p2) [e] [] pos2] X.env = (false, eval (.Call (.Name "enumerate" p2) [e] [] pos2) X.env) :: starEach [] X.env := by rfl) :
    PE X (.Call (.Name "list" p) [.Call (.Name "enumerate" p2) [e] [] pos2] [] pos) (tListE X.K tp ta) := by
  refine ⟨fun pins s σ H Q I h => ?_⟩
  refine Call_ (ld_blt I hgl hml PyProof.Rows.boot_list ?_)
  refine PyProof.Rows.callWith_type1 (PyProof.Rows.args_cons ?_ na) na rfl
  refine Call_ (ld_blt I hg hm boot_enumerate (PyProof.Rows.callWith_type1 (thn (ha.run pos2 pins s σ H _ I h) fun us s1 ⟨vs, H1, I1, r1, q1⟩ => ?_) hs rfl))
  obtain ⟨a, xs, rfl, hq, hlen, q⟩ := q1
  obtain ⟨u, rfl, ru⟩ := r1.one
  cases ru
  obtain ⟨its, rv, src, lt⟩ := src_of I1 hq
  refine enum_begins1 (s_begins tp a its.toArray) src fun h1 he hit hk => PyProof.Rows.args_nil ?_
  have I2 : Inv X pins σ H1 { s1 with heap := h1 } := I1.kept (t' := s1.toks) hk
  obtain ⟨e0, ee⟩ : ∃ e0, s1.heap.objs.size + 1 = e0 := ⟨_, rfl⟩
  obtain ⟨i0, ei⟩ : ∃ i0, s1.heap.objs.size = i0 := ⟨_, rfl⟩
  have fe : FpOk X pins H1 e0 := I1.fpOk (by omega) (I1.hok.fresh (by omega))
  have fi : FpOk X pins H1 i0 := I1.fpOk (by omega) (I1.hok.fresh (by omega))
  rw [ee] at he ⊢
  rw [ei] at he hit
  have n1 : e0 ≠ i0 := by omega
  have n2 : e0 ≠ a := by
    rw [← ee]
    exact Nat.ne_of_gt (Nat.lt_succ_of_lt lt)
  have n3 : a ≠ i0 := by
    rw [← ei]
    exact Nat.ne_of_lt lt
  refine callType_codes (Q₁ := fun obj s₁ => obj = .ref h1.objs.size ∧ s₁ = { s1 with heap := h1.push { cls := .type "list", data := .seq #[] } }) PySem.F.called_list (PySem.F.typeCall_list_1 _) PySem.F.entry_list_init (code_list_new _ ⟨rfl, rfl⟩) fun obj s₁ g => ?_
  obtain ⟨rfl, rfl⟩ := g
  obtain ⟨S, eS⟩ : ∃ S, h1.objs.size = S := ⟨_, rfl⟩
  have l1 : e0 < h1.objs.size := Heap.lt_size he
  have l2 : i0 < h1.objs.size := Heap.lt_size hit
  have l3 : a < h1.objs.size := Nat.lt_trans lt (by rw [ei]; exact l2)
  have hS : (h1.push { cls := .type "list", data := .seq #[] }).get? h1.objs.size = some { cls := .type "list", data := .seq #[] } := Heap.get?_push_size _ rfl
  refine ⟨⟨_, hS, rfl⟩, PySem.F.args_list_init_2 _ _, ?_⟩
  have fr : H1 h1.objs.size = none := I2.fresh
  have J1 : Inv X pins σ (upd H1 h1.objs.size (.lst [])) { s1 with heap := h1.push { cls := .type "list", data := .seq #[] } } := I2.lnew (its := []) (t' := s1.toks) .nil (Nat.zero_le _)
  show wpAny _ _ (do let old ← Builtin.List.listItems (.ref h1.objs.size); Builtin.List.listUpdate (.ref h1.objs.size) (fun _ => #[]); letGo old.toList.reverse; Builtin.List.listExtendWith (.ref h1.objs.size) (.ref e0) .none) _ _ _
  refine wpAny_bind ?_
  unfold Builtin.List.listItems
  refine wpAny_bind (wpAny_seqItems hS rfl (wpAny_pure ?_))
  show wpAny _ _ (updateSeq h1.objs.size (fun _ => #[]) >>= fun _ => letGo (#[] : Array Value).toList.reverse >>= fun _ => Builtin.List.listExtendWith (.ref h1.objs.size) (.ref e0) .none) _ _ _
  refine wpAny_bind (wpAny_updateSeq hS rfl ?_)
  have J2 := J1.lset (f := fun _ => #[]) (its := []) (its' := []) (ys := []) (t' := s1.toks) upd_same hS rfl .nil (Nat.zero_le _)
  rw [upd_upd] at J2
  refine wpAny_bind (wpAny_letGo ?_)
  have up : ∀ (h : Heap) (f : Obj → Obj), (∀ b o, b ≠ S → h1.get? b = some o → h.get? b = some o) → ∀ b o, b ≠ S → h1.get? b = some o → (h.update h1.objs.size f).get? b = some o := fun h f k b o nb g => (Heap.get?_update_other _ _ (by rw [eS]; exact Ne.symm nb)).trans (k b o nb g)
  have k1 := up (h1.push { cls := .type "list", data := .seq #[] }) (Obj.mapSeq (fun _ => (#[] : Array Value))) (fun b o _ g => Heap.get?_push_of_some _ g)
  unfold Builtin.List.listExtendWith
  have m1 : e0 ≠ S := by omega
  have m2 : i0 ≠ S := by omega
  have m3 : a ≠ S := by
    rw [← eS]
    exact Nat.ne_of_lt l3
  have hTy : ∀ {s' : Shared}, (∀ b o, b ≠ S → h1.get? b = some o → s'.heap.get? b = some o) → s'.TypeIs (.ref e0) "enumerate" := fun k => ⟨_, k _ _ m1 he, rfl⟩
  refine wpAny_bind (wpAny_typeOf (hTy k1) ?_)
  have z1 : Builtin.List.listSameRef (.ref h1.objs.size) (.ref e0) = false := by
    have : h1.objs.size ≠ e0 := by omega
    simp [Builtin.List.listSameRef, this]
  have z2 : (Value.type "enumerate" == Value.type "list") = false := by decide
  have z3 : (Value.type "enumerate" == Value.type "tuple") = false := by decide
  simp only [z1, z2, z3, Bool.or_false, Bool.false_eq_true, if_false]
  refine wpAny_bind (wpAny_pyIter_enum (k1 _ _ m1 he) ?_)
  refine wpAny_bind (wpAny_holding ?_)
  unfold Builtin.List.listLengthHint
  refine wpAny_bind (wpAny_specialOf (hTy k1) enum_no_len ?_)
  show wpAny _ _ (specialOf (Value.ref e0) (Str.ofString "__length_hint__") >>= _) _ _ _
  refine wpAny_bind (wpAny_specialOf (hTy k1) enum_no_hint (wpAny_pure ?_))
  show wpAny _ _ (rule "list.extend.makes-room" >>= fun _ => Builtin.List.listTouch (.ref h1.objs.size) >>= fun _ => again (.builtin "list.extend.loop" ⟨[.ref h1.objs.size, .ref e0, .none], []⟩)) _ _ _
  refine wpAny_bind (wpAny_rule (wpAny_bind ?_))
  obtain ⟨zS, itS, nS, rS, lS, gS⟩ := J2.lstM upd_same
  cases rS
  show wpAny _ _ (updateSeq h1.objs.size (·.push .none) >>= fun _ => updateSeq h1.objs.size (·.pop)) _ _ _
  refine wpAny_bind (wpAny_updateSeq gS rfl ?_)
  have J3 := J2.lset (f := (·.push Value.none)) (its' := [Value.none]) (ys := [.non]) (t' := s1.toks) upd_same gS (by simp) (.cons rfl .nil) (by rw [List.length_singleton, sizeLine_eq]; decide)
  rw [upd_upd] at J3
  obtain ⟨z4, it4, n4, r4, l4, g4⟩ := J3.lstM upd_same
  obtain ⟨u4, rfl, ru4⟩ := r4.one
  refine wpAny_updateSeq g4 rfl ?_ (by show 1 ≤ sizeLine; rw [sizeLine_eq]; decide) (by show 0 ≤ sizeLine + 1; exact Nat.zero_le _)
  have J4 := J3.lset (f := (·.pop)) (its := [u4]) (its' := []) (ys := []) (t' := s1.toks) upd_same g4 (by rfl) .nil (Nat.zero_le _)
  rw [upd_upd] at J4
  have k4 := up _ (Obj.mapSeq (·.pop)) (up _ (Obj.mapSeq (·.push Value.none)) k1)
  refine wpAny_pure ⟨plainId_quiet PySem.F.plain_extend_loop _, ?_⟩
  rw [eS] at fr J4 k4 ⊢
  have kk : ∀ {b : Addr}, b ≠ S → H1 b = none → upd H1 S (.lst []) b = none := fun nb g => by
    rw [upd_ne nb]
    exact g
  refine en_loop (X := X) (pins := pins) (σ := σ) (A1 := X.A.in1) (H0 := H1) (tp := tp) (a := a) (xs := xs) (its := its) (Rs := wants (fun r s₂ => r = .none ∧ _) X.xe) (I1.ok.hd hc) n1 n2 n3 m1 m2 m3 rv hlen (fun H' s' I' b' l' => ⟨rfl, ?_⟩) xs.length 0 _ _ (by omega) J4 (fp_to fe (kk m1 fe.1)) (fp_to fi (kk m2 fi.1)) (Bar.put (Bar.refl H1)) ⟨[], upd_same, rfl, fun i t z => by simp at z⟩ (.inl ⟨_, k4 _ _ m1 he⟩) (s_keep (s_it0 hit) fun o g => k4 _ _ m2 g) ?_
  · exact ⟨.ref S, H', I', rfl, q S H' (Bar.keep fr b') fr l'⟩
  · have ha2 : SAt tp h1 a its.toArray := by
      cases tp with
      | true => exact Heap.IsTuple.at src fun o g => hk a o g
      | false => exact Heap.IsList.at src fun o g => hk a o g
    cases tp with
    | true => exact Heap.IsTuple.at ha2 fun o g => k4 a o m3 g
    | false => exact Heap.IsList.at ha2 fun o g => k4 a o m3 g
/-! ### literals: what an expression gives in any heap behind H0, and what stays known of it -/
def Yl (σ : L2.St) (te : TE) (H0 : Hp) (P : Hp → V → Prop) : Prop := ∀ (H : Hp) (Q : VK), Same H0 H → (∀ v H', Same H H' → (∀ H2, Same H' H2 → P H2 v) → Q v H') → te σ H Q
def Ya (σ : L2.St) (t : TA) (H0 : Hp) (P : Hp → List V → Prop) : Prop := ∀ (H : Hp) (Q : List V → Hp → Prop), Same H0 H → (∀ v H', Same H H' → (∀ H2, Same H' H2 → P H2 v) → Q v H') → t σ H Q
section
variable {K : PySem.W.Frag} {σ : L2.St} {H0 : Hp} {te : TE} {t : TA} {P : Hp → V → Prop} {R : Hp → List V → Prop}
theorem yl_c {v : V} : Yl σ (tC v) H0 (fun _ x => x = v) := fun H Q _ q => q v H (Same.refl H) fun _ _ => rfl
theorem yl_var {i : Nat} {v : V} (h : σ[i]? = some (some v)) (hP : ∀ H, Same H0 H → P H v) : Yl σ (tVar i) H0 P := fun H Q s q => ⟨v, h, q v H (Same.refl H) fun H2 s2 => hP H2 (s.trans s2)⟩
theorem ya_nil : Ya σ tNil H0 (fun _ x => x = []) := fun H Q _ q => q [] H (Same.refl H) fun _ _ => rfl
theorem ya_cons (h : Yl σ te H0 P) (r : Ya σ t H0 R) : Ya σ (tCons te t) H0 (fun H vs => ∃ x xs, vs = x :: xs ∧ P H x ∧ R H xs) := fun H Q s q =>
  h H _ s fun v H1 s1 p1 => r H1 _ (s.trans s1) fun vs H2 s2 p2 => q (v :: vs) H2 (s1.trans s2) fun H3 s3 => ⟨v, vs, rfl, p1 H3 (s2.trans s3), p2 H3 s3⟩
theorem yl_tup (h : Ya σ t H0 R) (hz : ∀ H vs, R H vs → vs.length ≤ 100000) : Yl σ (tTup t) H0 (fun H v => ∃ p xs, v = .ref p ∧ H p = some (.tup xs) ∧ R H xs) := fun H Q s q =>
  h H _ s fun xs H1 s1 p1 => ⟨sz (hz H1 xs (p1 H1 (Same.refl _))), fun p np => q (.ref p) _ (s1.trans (same_new np)) fun H3 s3 => ⟨p, xs, rfl, s3 _ _ upd_same, p1 H3 ((same_new np).trans s3)⟩⟩
theorem yl_lst (h : Ya σ t H0 R) (hz : ∀ H vs, R H vs → vs.length ≤ 100000) : Yl σ (tLst t) H0 (fun H v => ∃ p xs, v = .ref p ∧ H p = some (.lst xs) ∧ R H xs) := fun H Q s q =>
  h H _ s fun xs H1 s1 p1 => ⟨sz (hz H1 xs (p1 H1 (Same.refl _))), fun p np => q (.ref p) _ (s1.trans (same_new np)) fun H3 s3 => ⟨p, xs, rfl, s3 _ _ upd_same, p1 H3 ((same_new np).trans s3)⟩⟩
/-! written data -/
theorem yd_int {i : Int} : Yl σ (tC (.int i)) H0 (fun H x => Dp K H x (.int i)) := fun H Q _ q => q _ H (Same.refl H) fun _ _ => .int i
theorem yd_str {i : Str} : Yl σ (tC (.str i)) H0 (fun H x => Dp K H x (.str i)) := fun H Q _ q => q _ H (Same.refl H) fun _ _ => .str i
theorem yd_non : Yl σ (tC .non) H0 (fun H x => Dp K H x .none) := fun H Q _ q => q _ H (Same.refl H) fun _ _ => .non
theorem yda_nil : Ya σ tNil H0 (fun H x => DpAll K H x []) := fun H Q _ q => q [] H (Same.refl H) fun _ _ => .nil
theorem yda_cons {d : PyData} {ds : List PyData} (h : Yl σ te H0 (fun H x => Dp K H x d)) (r : Ya σ t H0 (fun H x => DpAll K H x ds)) : Ya σ (tCons te t) H0 (fun H vs => DpAll K H vs (d :: ds)) := fun H Q s q =>
  h H _ s fun v H1 s1 p1 => r H1 _ (s.trans s1) fun vs H2 s2 p2 => q (v :: vs) H2 (s1.trans s2) fun H3 s3 => .cons (p1 H3 (s2.trans s3)) (p2 H3 s3)
theorem yd_tup {ds : List PyData} (h : Ya σ t H0 (fun H x => DpAll K H x ds)) (hz : ds.length ≤ 100000) : Yl σ (tTup t) H0 (fun H v => Dp K H v (.tuple ds)) := fun H Q s q =>
  h H _ s fun xs H1 s1 p1 => ⟨sz (by rw [DpAll.len (p1 H1 (Same.refl _))]; exact hz), fun p np => q (.ref p) _ (s1.trans (same_new np)) fun H3 s3 => .tup (SqT.of (s3 _ _ upd_same)) (p1 H3 ((same_new np).trans s3))⟩
theorem yd_lst {ds : List PyData} (h : Ya σ t H0 (fun H x => DpAll K H x ds)) (hz : ds.length ≤ 100000) : Yl σ (tLst t) H0 (fun H v => ∃ p xs, v = .ref p ∧ H p = some (.lst xs) ∧ DpAll K H xs ds) := fun H Q s q =>
  h H _ s fun xs H1 s1 p1 => ⟨sz (by rw [DpAll.len (p1 H1 (Same.refl _))]; exact hz), fun p np => q (.ref p) _ (s1.trans (same_new np)) fun H3 s3 => ⟨p, xs, rfl, s3 _ _ upd_same, p1 H3 ((same_new np).trans s3)⟩⟩
theorem yd_lst' {ds : List PyData} (h : Ya σ t H0 (fun H x => DpAll K H x ds)) (hz : ds.length ≤ 100000) : Yl σ (tLst t) H0 (fun H v => Dp K H v (.list ds)) := fun H Q s q =>
  h H _ s fun xs H1 s1 p1 => ⟨sz (by rw [DpAll.len (p1 H1 (Same.refl _))]; exact hz), fun p np => q (.ref p) _ (s1.trans (same_new np)) fun H3 s3 => .lst (SqL.of (s3 _ _ upd_same)) (p1 H3 ((same_new np).trans s3))⟩
end
mutual
theorem Dp.to {K : PySem.W.Frag} {H H' : Hp} (e : Same H H') : ∀ {v : V} {d : PyData}, Dp K H v d → Dp K H' v d
  | _, _, .non => .non
  | _, _, .bl b => .bl b
  | _, _, .int i => .int i
  | _, _, .str z => .str z
  | _, _, .lst h a => .lst (e.seq h) (DpAll.to e a)
  | _, _, .tup h a => .tup (same_sqt e h) (DpAll.to e a)
theorem DpAll.to {K : PySem.W.Frag} {H H' : Hp} (e : Same H H') : ∀ {vs : List V} {ds : List PyData}, DpAll K H vs ds → DpAll K H' vs ds
  | _, _, .nil => .nil
  | _, _, .cons a b => .cons (Dp.to e a) (DpAll.to e b)
end
theorem DpAll.at {K : PySem.W.Frag} {H : Hp} : ∀ {xs : List V} {ds : List PyData} {i : Nat} {x : V}, DpAll K H xs ds → xs[i]? = some x → ∃ d, ds[i]? = some d ∧ Dp K H x d
  | _, _, _, _, .nil, h => by simp at h
  | _, _, 0, _, .cons r _, h => by
    have e := Option.some.inj h
    subst e
    exact ⟨_, rfl, r⟩
  | _, _, i + 1, _, .cons _ t, h => DpAll.at (i := i) t h
/-- an item at an index within the bounds -/
theorem pick_v {xs : List V} {P : V → Prop} {z : Int} (h0 : 0 ≤ z) (h1 : z < (xs.length : Int)) (h : ∀ x ∈ xs, P x) : ∃ v, atI xs z = some v ∧ P v := by
  obtain ⟨n, rfl⟩ : ∃ n : Nat, z = (n : Int) := ⟨z.toNat, by omega⟩
  have hn : n < xs.length := by omega
  exact ⟨xs[n], atI_nat (List.getElem?_eq_getElem hn), h _ (List.getElem_mem hn)⟩
theorem DpAll.mem {K : PySem.W.Frag} {H : Hp} {xs : List V} {ds : List PyData} (h : DpAll K H xs ds) {p : PyData → Bool} (hp : ds.all p = true) : ∀ x ∈ xs, ∃ d, p d = true ∧ Dp K H x d := fun x hx => by
  obtain ⟨i, hi⟩ := List.mem_iff_getElem?.mp hx
  obtain ⟨d, hd, hD⟩ := DpAll.at h hi
  exact ⟨d, List.all_eq_true.mp hp d (List.mem_of_getElem? hd), hD⟩
/-! ### schedules -/
/-- a pair of ints -/
def PrAt (K : PySem.W.Frag) (H : Hp) (y : V) (p : Int × Int) : Prop := ∃ t : Addr, y = .ref t ∧ SqT K H t [.int p.1, .int p.2]
theorem PrAt.same {K : PySem.W.Frag} {H H' : Hp} {y : V} {p : Int × Int} (e : Same H H') (h : PrAt K H y p) : PrAt K H' y p := by
  obtain ⟨t, rfl, h⟩ := h
  exact ⟨t, rfl, same_sqt e h⟩
abbrev PrsAt (K : PySem.W.Frag) (H : Hp) (ys : List V) (ps : List (Int × Int)) : Prop := AllAt (PrAt K) H ys ps
theorem PrsAt.same {K : PySem.W.Frag} {H H' : Hp} {ys : List V} {ps : List (Int × Int)} (e : Same H H') (h : PrsAt K H ys ps) : PrsAt K H' ys ps := AllAt.same (R := PrAt K) (fun e r => PrAt.same e r) e h
/-- the pairs that tell something new -/
def pk : Int → List (Int × Int) → List (Int × Int)
  | _, [] => []
  | a, (k, x) :: r => if x = a then pk a r else (k, x) :: pk x r
/-- the amount of a round -/
def atM (n : Int) : Int → List (Int × Int) → Int
  | f, [] => f
  | f, (s, x) :: r => if n < s then f else atM n x r
def SchAt (K : PySem.W.Frag) (H : Hp) (a : Addr) (ps : List (Int × Int)) : Prop := ∃ ys, SqT K H a ys ∧ PrsAt K H ys ps
theorem SchAt.same {K : PySem.W.Frag} {H H' : Hp} {a : Addr} {ps : List (Int × Int)} (e : Same H H') (h : SchAt K H a ps) : SchAt K H' a ps := by
  obtain ⟨ys, h1, h2⟩ := h
  exact ⟨ys, same_sqt e h1, PrsAt.same e h2⟩
def sp_packed (K : PySem.W.Frag) : Sp := fun vs H Q _ => ∃ (a : Addr) (ys : List V) (ps : List (Int × Int)), vs = [.ref a] ∧ SqL K H a ys ∧ PrsAt K H ys ps ∧ ps.length ≤ 1000 ∧ ∀ p H', Same H H' → H p = none → SchAt K H' p (pk 0 ps) → Q (.ref p) H'
theorem pk_len : ∀ (ps : List (Int × Int)) (a : Int), (pk a ps).length ≤ ps.length
  | [], _ => Nat.le_refl _
  | (k, x) :: r, a => by
    unfold pk
    split
    · exact Nat.le_succ_of_le (pk_len r a)
    · exact Nat.succ_le_succ (pk_len r x)
theorem pk_step {ps : List (Int × Int)} {i : Nat} {k x : Int} (h : ps[i]? = some (k, x)) (b : Int) : pk b (ps.drop i) = if x = b then pk b (ps.drop (i + 1)) else (k, x) :: pk x (ps.drop (i + 1)) := by
  obtain ⟨h1, h2⟩ := List.getElem?_eq_some_iff.mp h
  rw [List.drop_eq_getElem_cons h1]
  rw [h2]
  rfl
theorem atM_step {ps : List (Int × Int)} {i : Nat} {k x : Int} (h : ps[i]? = some (k, x)) (n f : Int) : atM n f (ps.drop i) = if n < k then f else atM n x (ps.drop (i + 1)) := by
  obtain ⟨h1, h2⟩ := List.getElem?_eq_some_iff.mp h
  rw [List.drop_eq_getElem_cons h1]
  rw [h2]
  rfl
def enm (k : Int) : List Int → List (Int × Int)
  | [] => []
  | x :: r => (k, x) :: enm (k + 1) r
theorem enm_len : ∀ (xs : List Int) (k : Int), (enm k xs).length = xs.length
  | [], _ => rfl
  | x :: r, k => congrArg Nat.succ (enm_len r (k + 1))
theorem enm_get : ∀ (xs : List Int) (k : Int) (i : Nat), (enm k xs)[i]? = (xs[i]?).map fun x => (k + (i : Int), x)
  | [], _, _ => rfl
  | x :: r, k, 0 => by
    show some (k, x) = some (k + ((0 : Nat) : Int), x)
    rw [show k + ((0 : Nat) : Int) = k by omega]
  | x :: r, k, i + 1 => by
    show (enm (k + 1) r)[i]? = _
    rw [enm_get r (k + 1) i]
    show _ = (r[i]?).map _
    congr 1
    funext z
    rw [show k + 1 + (i : Int) = k + ((i + 1 : Nat) : Int) by omega]
def sp_schedule_of (K : PySem.W.Frag) : Sp := fun vs H Q _ => ∃ (a : Addr) (xs : List Int), vs = [.ref a] ∧ SqT K H a (xs.map V.int) ∧ xs.length ≤ 1000 ∧ ∀ p H', Same H H' → SchAt K H' p (pk 0 (enm 0 xs)) → Q (.ref p) H'
def sp_amount_at (K : PySem.W.Frag) : Sp := fun vs H Q _ => ∃ (a : Addr) (ps : List (Int × Int)) (n : Int), vs = [.ref a, .int n] ∧ SchAt K H a ps ∧ Q (.int (atM n 0 ps)) H
/-- the 201 amounts -/
def amts (ps : List (Int × Int)) : List Int := (List.range 201).map fun k : Nat => atM (k : Int) 0 ps
theorem amts_len (ps : List (Int × Int)) : (amts ps).length = 201 := by
  unfold amts
  rw [List.length_map, List.length_range]
theorem amts_get (ps : List (Int × Int)) {i : Nat} (h : i < 201) : (amts ps)[i]? = some (atM (i : Int) 0 ps) := by
  unfold amts
  rw [List.getElem?_map, List.getElem?_range h]
  rfl
def sp_amounts_of (K : PySem.W.Frag) : Sp := fun vs H Q _ => ∃ (a : Addr) (ps : List (Int × Int)), vs = [.ref a] ∧ SchAt K H a ps ∧ ∀ p H', Same H H' → H' p = some (.tup ((amts ps).map V.int)) → Q (.ref p) H'
theorem atM_lo : ∀ (xs : List Int) (k b n : Int), n < k → atM n b (pk b (enm k xs)) = b
  | [], _, _, _, _ => rfl
  | y :: r, k, b, n, h => by
    show atM n b (if y = b then pk b (enm (k + 1) r) else (k, y) :: pk y (enm (k + 1) r)) = b
    split
    · exact atM_lo r (k + 1) b n (by omega)
    · show (if n < k then b else _) = b
      rw [if_pos h]
theorem atM_at : ∀ (xs : List Int) (k b : Int) (i : Nat) (x : Int), xs[i]? = some x → atM (k + (i : Int)) b (pk b (enm k xs)) = x
  | [], _, _, _, _, h => by simp at h
  | y :: r, k, b, 0, x, h => by
    cases Option.some.inj h
    rw [show k + ((0 : Nat) : Int) = k by omega]
    show atM k b (if y = b then pk b (enm (k + 1) r) else (k, y) :: pk y (enm (k + 1) r)) = y
    split
    · rename_i e
      rw [atM_lo r (k + 1) b k (by omega), e]
    · show (if k < k then b else atM k y (pk y (enm (k + 1) r))) = y
      rw [if_neg (by omega), atM_lo r (k + 1) y k (by omega)]
  | y :: r, k, b, i + 1, x, h => by
    have h : r[i]? = some x := h
    have e1 : k + ((i + 1 : Nat) : Int) = (k + 1) + (i : Int) := by omega
    show atM _ b (if y = b then pk b (enm (k + 1) r) else (k, y) :: pk y (enm (k + 1) r)) = x
    split
    · rw [e1]
      exact atM_at r (k + 1) b i x h
    · show (if k + ((i + 1 : Nat) : Int) < k then b else atM (k + ((i + 1 : Nat) : Int)) y (pk y (enm (k + 1) r))) = x
      rw [if_neg (by omega), e1]
      exact atM_at r (k + 1) y i x h
theorem amts_pk {xs : List Int} (h : xs.length = 201) : amts (pk 0 (enm 0 xs)) = xs := by
  refine List.ext_getElem? fun i => ?_
  by_cases hi : i < 201
  · obtain ⟨x, hx⟩ : ∃ x, xs[i]? = some x := ⟨_, List.getElem?_eq_getElem (by omega)⟩
    have e := atM_at xs 0 0 i x hx
    rw [Int.zero_add] at e
    rw [amts_get _ hi, hx, e]
  · rw [List.getElem?_eq_none (by rw [amts_len]; omega), List.getElem?_eq_none (by omega)]
theorem pk_inj {xs ys : List Int} (h1 : xs.length = 201) (h2 : ys.length = 201) : decide (pk 0 (enm 0 xs) = pk 0 (enm 0 ys)) = decide (xs = ys) := by
  by_cases e : xs = ys
  · rw [decide_eq_true e, decide_eq_true (by rw [e])]
  · rw [decide_eq_false e, decide_eq_false (fun z => e (by rw [← amts_pk h1, z, amts_pk h2]))]
/-! the data of a schedule -/
def prD (p : Int × Int) : PyData := .tuple [.int p.1, .int p.2]
def schD (ps : List (Int × Int)) : PyData := .tuple (ps.map prD)
theorem dp_prs {K : PySem.W.Frag} {H : Hp} : ∀ {ys : List V} {ps : List (Int × Int)}, ys.length = ps.length → (∀ (i : Nat) p, ps[i]? = some p → ∃ y, ys[i]? = some y ∧ PrAt K H y p) → DpAll K H ys (ps.map prD)
  | [], [], _, _ => .nil
  | [], _ :: _, h, _ => by simp at h
  | _ :: _, [], h, _ => by simp at h
  | y :: ys, p :: ps, h, g => by
    obtain ⟨z, hz, t, rfl, ht⟩ := g 0 p rfl
    cases Option.some.inj hz
    exact .cons (.tup ht (.cons (.int _) (.cons (.int _) .nil))) (dp_prs (Nat.succ.inj h) fun i q hq => g (i + 1) q hq)
theorem dp_sch {K : PySem.W.Frag} {H : Hp} {a : Addr} {ps : List (Int × Int)} (h : SchAt K H a ps) : Dp K H (.ref a) (schD ps) := by
  obtain ⟨ys, h1, h2⟩ := h
  exact .tup h1 (dp_prs h2.1 h2.2)
theorem ok_prs : ∀ ps : List (Int × Int), (ps.map prD).all (dOk 7) = true
  | [] => rfl
  | p :: r => by
    rw [List.map_cons, List.all_cons, ok_prs r]
    rfl
theorem ok_sch {ps : List (Int × Int)} (h : ps.length ≤ 5000) : dOk 8 (schD ps) = true := by
  show (decide ((ps.map prD).length ≤ 5000) && (ps.map prD).all (dOk 7)) = true
  rw [ok_prs, List.length_map, decide_eq_true h]
  rfl
theorem ok_tup {n : Nat} {ns : List Int} (h : ns.length ≤ 5000) : dOk (n + 2) (.tuple (ns.map PyData.int)) = true := by
  show (decide ((ns.map PyData.int).length ≤ 5000) && (ns.map PyData.int).all (dOk (n + 1))) = true
  rw [dOk_ints, List.length_map, decide_eq_true h]
  rfl
theorem dp_tup {K : PySem.W.Frag} {H : Hp} {p : Addr} {ns : List Int} (h : SqT K H p (ns.map V.int)) : Dp K H (.ref p) (.tuple (ns.map PyData.int)) := .tup h (DpAll.ints ns)
theorem dp_lst {K : PySem.W.Frag} {H : Hp} {p : Addr} {ns : List Int} (h : SqL K H p (ns.map V.int)) : Dp K H (.ref p) (.list (ns.map PyData.int)) := .lst h (DpAll.ints ns)
theorem lay_prs : ∀ ps : List (Int × Int), PyData.canLayAll0 (ps.map prD) = true
  | [] => rfl
  | p :: r => by simp [prD, PyData.canLayAll0, PyData.canLay0, lay_prs r]
theorem dep_prs : ∀ ps : List (Int × Int), PyData.depthAll (ps.map prD) ≤ 1
  | [] => by simp [PyData.depthAll]
  | p :: r => by
    have := dep_prs r
    simp [prD, PyData.depthAll, PyData.depth]
    omega
theorem shaped_sch (ps : List (Int × Int)) : SeqAt.shaped (schD ps) = true := by
  have := dep_prs ps
  simp [schD, SeqAt.shaped, PyData.canLay0, PyData.depth, lay_prs]
  omega
theorem eqv_all_ints : ∀ xs ys : List Int, PyData.eqvAll (xs.map PyData.int) (ys.map PyData.int) = decide (xs = ys)
  | [], [] => by simp [PyData.eqvAll]
  | [], _ :: _ => by simp [PyData.eqvAll]
  | _ :: _, [] => by simp [PyData.eqvAll]
  | x :: r, y :: t => by
    have e := eqv_all_ints r t
    rw [Bool.eq_iff_iff]
    simp [PyData.eqvAll, PyData.eqv, e]
theorem eqv_lst (xs ys : List Int) : PyData.eqv (.list (xs.map PyData.int)) (.list (ys.map PyData.int)) = decide (xs = ys) := by
  rw [← eqv_all_ints]
  simp [PyData.eqv]
theorem eqv_prs : ∀ xs ys : List (Int × Int), PyData.eqvAll (xs.map prD) (ys.map prD) = decide (xs = ys)
  | [], [] => by simp [PyData.eqvAll]
  | [], _ :: _ => by simp [PyData.eqvAll]
  | _ :: _, [] => by simp [PyData.eqvAll]
  | (a, b) :: r, (c, d) :: t => by
    have e := eqv_prs r t
    have e0 : PyData.eqvAll (((a, b) :: r).map prD) (((c, d) :: t).map prD) = (PyData.eqv (prD (a, b)) (prD (c, d)) && PyData.eqvAll (r.map prD) (t.map prD)) := by simp [PyData.eqvAll]
    rw [e0, e, Bool.eq_iff_iff]
    simp [prD, PyData.eqvAll, PyData.eqv]
theorem eqv_sch (xs ys : List (Int × Int)) : PyData.eqv (schD xs) (schD ys) = decide (xs = ys) := by
  rw [← eqv_prs]
  simp [schD, PyData.eqv]
theorem cut_to (xs : List V) (k : Nat) : cutV xs none (some (k : Int)) = xs.take k := by
  unfold cutV
  rw [HT.sIx_none, HT.sIx_nat, List.drop_zero, Nat.sub_zero]
  by_cases h : k ≤ xs.length
  · rw [Nat.min_eq_left h]
  · rw [Nat.min_eq_right (by omega), List.take_of_length_le (Nat.le_refl _), List.take_of_length_le (by omega)]
theorem pick_i {ns : List Int} {z : Int} (h0 : 0 ≤ z) (h1 : z < (ns.length : Int)) : ∃ v, atI (ns.map V.int) z = some (.int v) := by
  obtain ⟨n, rfl⟩ : ∃ n : Nat, z = (n : Int) := ⟨z.toNat, by omega⟩
  have hn : n < ns.length := by omega
  exact ⟨ns[n], atI_nat (at_map (List.getElem?_eq_getElem hn))⟩
theorem flat_ints (ns : List Int) : (ns.map V.int).all flatV = true := by
  rw [List.all_map, List.all_eq_true]
  intro y _
  rfl
def sp_law_row (K : PySem.W.Frag) : Sp := fun vs H Q _ => ∃ (s p : Addr), vs = [.ref s] ∧ Strm s p H ∧ ∀ (o : Addr) (xs : List Int) (H' : Hp), Bar p H H' → Strm s p H' → H o = none → H' o = some (.lst (xs.map V.int)) → xs.length = 201 → Q (.ref o) H'
def sp_law_pairs (K : PySem.W.Frag) : Sp := fun vs H Q _ => ∃ (a : Addr) (xs : List Int), vs = [.ref a] ∧ H a = some (.lst (xs.map V.int)) ∧ xs.length = 201 ∧ ∀ p ys H', Same H H' → H' p = some (.lst ys) → PrsAt K H' ys (pk 0 (enm 0 xs)) → Q (.ref p) H'
def sp_law (K : PySem.W.Frag) : Sp := fun vs H Q _ => ∃ (a : Addr) (ns : List Int), vs = [.ref a] ∧ SqL K H a (ns.map V.int) ∧ ns.length ≤ 63 ∧ ∀ H', Q (.bl true) H'

end Sd
namespace Sd
open PySem PySem.Spec PyProof.Rows L2
set_option linter.all false
section
variable {P : Program} {w : World} {K : PySem.W.Frag} {mg : Str → Option Value} {base : Heap}
theorem ok_packed {f : Addr} {fd : FuncData} (D_packed : Dfn K mg "packed" s_packed ["rows"] f fd) (T : Tx mg) :
    FnOk P w K mg base CX0 (1) f fd ["rows"] (sp_packed K) := by
  refine D_packed.F.ok sc_packed (fun vs H Q E h => ?_) (fun cdv A outer s H vs Q E hr h => ?_)
  · obtain ⟨a, ys, ps, rfl, hS, hA, hl, q⟩ := h
    rfl
  obtain ⟨a, ys, ps, rfl, hS, hA, hl, q⟩ := h
  refine ⟨_, (pss_cons (ps_set (i := 1) sc_packed.nd rfl (by first | exact Or.inl rfl | exact Or.inr rfl) (pe_lst pa_nil))
      (pss_cons (ps_set (i := 2) sc_packed.nd rfl (by first | exact Or.inl rfl | exact Or.inr rfl) pe_int)
      (pss_cons (ps_for PassesOwn.never rfl (pi_list (pv 0)) (pg_tup rfl (pgs_cons (pg_name (i := 3) sc_packed.nd rfl (by first | exact Or.inl rfl | exact Or.inr rfl)) (pgs_cons (pg_name (i := 4) sc_packed.nd rfl (by first | exact Or.inl rfl | exact Or.inr rfl)) pgs_nil)))
      (pss_one (ps_if (pt_cmpR op_ne (pv 4) (pv 2) (nomark _))
      (pss_cons (ps_expr (pe_bm PySem.F.plainAttrs_list PySem.F.slot_list_append PySem.F.type_list_append mt_append (pv 1) (pa_cons (pe_tup (pa_cons (pv 3) (pa_cons (pv 4) pa_nil))) pa_nil)))
      (pss_one (ps_set (i := 2) sc_packed.nd rfl (by first | exact Or.inl rfl | exact Or.inr rfl) (pv 4))))
      pss_nil)))
      (pss_one (ps_ret (pe_callTy call_tuple_of (by rfl) T.tuple (by decide +kernel) (pa_cons (pv 1) pa_nil))))))), ?_⟩
  refine ⟨Nat.zero_le _, fun o no => ⟨_, rfl, a, rfl, ⟨_, (same_new no).seq hS⟩, for_list (K := K) (a := a) (xs := ys) (fun i σ H' => ∃ (acc : List V) (ps1 : List (Int × Int)) (b : Int) (v3 v4 : Option V), σ = [some (.ref a), some (.ref o), some (.int b), v3, v4] ∧ Same H H' ∧ H' o = some (.lst acc) ∧ PrsAt K H' acc ps1 ∧ acc.length ≤ i ∧ pk 0 ps = ps1 ++ pk b (ps.drop i))
    ⟨[], [], 0, none, none, rfl, same_new no, upd_same, AllAt.nil, Nat.zero_le _, rfl⟩ (fun i σ H' _ ⟨_, _, _, _, _, _, sm, _⟩ => sm.seq hS) ?_ ?_⟩⟩
  · rintro i y σ H' hi ⟨acc, ps1, b, v3, v4, rfl, sm, ho, hA1, hl1, hp⟩
    obtain ⟨⟨k, x⟩, hk, t, rfl, ht⟩ := AllAt.get (PrsAt.same sm hA) hi
    have hil := (List.getElem?_eq_some_iff.mp hk).1
    refine ⟨t, _, rfl, ht, rfl, _, _, rfl, _, _, rfl, rfl, ?_⟩
    refine ⟨_, rfl, _, rfl, rfl, _, rfl, ?_⟩
    rw [pk_step hk] at hp
    by_cases c : x = b
    · rw [if_pos c] at hp
      rw [show (!decide (V.int x = V.int b)) = false by rw [c, decide_eq_true rfl]; rfl]
      exact iteF ⟨acc, ps1, b, _, _, rfl, sm, ho, hA1, by omega, hp⟩
    · rw [if_neg c] at hp
      rw [show (!decide (V.int x = V.int b)) = true by rw [decide_eq_false (fun e => c (V.int.inj e))]; rfl]
      refine iteT ⟨_, rfl, .inl ⟨rfl, _, SqL.of ho⟩, _, rfl, _, rfl, sz (by show 2 ≤ 100000; decide), fun t2 nt2 => ?_⟩
      have s2 : Same H' (upd H' t2 (.tup [.int k, .int x])) := same_new nt2
      refine ⟨o, _, _, rfl, rfl, s2 _ _ ho, szl (by omega), _, rfl, acc ++ [.ref t2], ps1 ++ [(k, x)], x, _, _, rfl, same_put (sm.trans s2) no, upd_same, ?_, by rw [List.length_append]; show acc.length + 1 ≤ _; omega, by rw [hp, List.append_assoc]; rfl⟩
      refine AllAt.imp (S := PrAt K) (AllAt.add (PrsAt.same s2 hA1) (⟨t2, rfl, SqT.of upd_same⟩ : PrAt K _ (.ref t2) (k, x))) fun y l r => ?_
      obtain ⟨t3, rfl, h3⟩ := r
      exact ⟨t3, rfl, sqt_put (s2 _ _ ho) h3⟩
  · rintro σ H' ⟨acc, ps1, b, v3, v4, rfl, sm, ho, hA1, hl1, hp⟩
    rw [hA.1, List.drop_eq_nil_of_le (Nat.le_refl _)] at hp
    have hp : pk 0 ps = ps1 := hp.trans (List.append_nil _)
    refine ⟨_, rfl, o, acc, rfl, .inl ⟨SqL.of ho, fun p np => q p _ (same_add sm np) (sm.free np) ⟨acc, SqT.of upd_same, ?_⟩⟩⟩
    rw [hp]
    exact PrsAt.same (same_new np) hA1

theorem ok_schedule_of {f : Addr} {fd : FuncData} (D_schedule_of : Dfn K mg "schedule_of" s_schedule_of ["amounts"] f fd) (T : Tx mg) {f_packed : Addr} {fd_packed : FuncData} (D_packed : Dfn K mg "packed" s_packed ["rows"] f_packed fd_packed) (G_packed : FnOk P w K mg base CX0 (1) f_packed fd_packed ["rows"] (sp_packed K)) :
    FnOk P w K mg base CX0 (2) f fd ["amounts"] (sp_schedule_of K) := by
  refine D_schedule_of.F.ok sc_schedule_of (fun vs H Q E h => ?_) (fun cdv A outer s H vs Q E hr h => ?_)
  · obtain ⟨a, xs, rfl, hS, hl, q⟩ := h
    rfl
  obtain ⟨a, xs, rfl, hS, hl, q⟩ := h
  refine ⟨_, (pss_one (ps_ret (pe_call G_packed (hr.mono (by first | decide | omega)) rfl D_packed.m D_packed.F.kp D_packed.b .nil pass0 (pa_cons (pe_listEnum true rfl (by rfl) T.list (by rfl) T.enumerate (pa_cons (pv 0) pa_nil)) pa_nil)))), ?_⟩
  refine ⟨_, rfl, a, xs.map V.int, rfl, hS, by rw [List.length_map]; omega, fun S H1 s1 nS ⟨ts, hS1, htl, hT⟩ => ?_⟩
  rw [List.length_map] at htl
  refine ⟨S, ts.map V.ref, enm 0 xs, rfl, SqL.of hS1, ⟨by rw [List.length_map, enm_len, htl], fun i l hi => ?_⟩, by rw [enm_len]; exact hl, fun p H2 s2 np hs => q p H2 (s1.trans s2) hs⟩
  rw [enm_get] at hi
  obtain ⟨x, hx, rfl⟩ := Option.map_eq_some_iff.mp hi
  have hil := (List.getElem?_eq_some_iff.mp hx).1
  obtain ⟨t, ht⟩ : ∃ t, ts[i]? = some t := ⟨_, List.getElem?_eq_getElem (by omega)⟩
  obtain ⟨v, hv, hH⟩ := hT i t ht
  rw [at_map hx] at hv
  cases Option.some.inj hv
  refine ⟨.ref t, by rw [List.getElem?_map, ht]; rfl, t, rfl, SqT.of ?_⟩
  rw [hH]
  show _ = some (HO.tup [.int (0 + (i : Int)), .int x])
  rw [Int.zero_add]

theorem ok_amount_at {f : Addr} {fd : FuncData} (D_amount_at : Dfn K mg "amount_at" s_amount_at ["schedule", "number"] f fd) (T : Tx mg) :
    FnOk P w K mg base CX0 (1) f fd ["schedule", "number"] (sp_amount_at K) := by
  refine D_amount_at.F.ok sc_amount_at (fun vs H Q E h => ?_) (fun cdv A outer s H vs Q E hr h => ?_)
  · obtain ⟨a, ps, n, rfl, ⟨ys, hS, hA⟩, q⟩ := h
    rfl
  obtain ⟨a, ps, n, rfl, ⟨ys, hS, hA⟩, q⟩ := h
  refine ⟨_, (pss_cons (ps_set (i := 2) sc_amount_at.nd rfl (by first | exact Or.inl rfl | exact Or.inr rfl) pe_int)
      (pss_cons (ps_for PassesOwn.never rfl (pi_tup (pv 0)) (pg_tup rfl (pgs_cons (pg_name (i := 3) sc_amount_at.nd rfl (by first | exact Or.inl rfl | exact Or.inr rfl)) (pgs_cons (pg_name (i := 4) sc_amount_at.nd rfl (by first | exact Or.inl rfl | exact Or.inr rfl)) pgs_nil)))
      (pss_cons (ps_if (pt_cmpR op_gt (pv 3) (pv 1) (nomark _))
      (pss_one (ps_ret (pv 2)))
      pss_nil)
      (pss_one (ps_set (i := 2) sc_amount_at.nd rfl (by first | exact Or.inl rfl | exact Or.inr rfl) (pv 4)))))
      (pss_one (ps_ret (pv 2))))), ?_⟩
  refine ⟨_, rfl, a, rfl, ⟨_, hS⟩, for_tup (K := K) (a := a) (xs := ys) (fun i σ H' => ∃ (f : Int) (v3 v4 : Option V), σ = [some (.ref a), some (.int n), some (.int f), v3, v4] ∧ H' = H ∧ atM n 0 ps = atM n f (ps.drop i)) ⟨0, none, none, rfl, rfl, rfl⟩ (fun i σ H' _ ⟨_, _, _, _, e, _⟩ => by rw [e]; exact hS) ?_ ?_⟩
  · rintro i y σ H' hi ⟨f, v3, v4, rfl, rfl, hp⟩
    obtain ⟨⟨k, x⟩, hk, t, rfl, ht⟩ := AllAt.get hA hi
    refine ⟨t, _, rfl, ht, rfl, _, _, rfl, _, _, rfl, rfl, ?_⟩
    refine ⟨_, rfl, _, rfl, _, _, rfl, rfl, _, rfl, ?_⟩
    rw [atM_step hk] at hp
    by_cases c : n < k
    · rw [if_pos c] at hp
      rw [decide_eq_true c]
      refine iteT ⟨_, rfl, ?_⟩
      rw [hp] at q
      exact q
    · rw [if_neg c] at hp
      rw [decide_eq_false c]
      exact iteF ⟨_, rfl, x, _, _, rfl, rfl, hp⟩
  · rintro σ H' ⟨f, v3, v4, rfl, rfl, hp⟩
    rw [hA.1, List.drop_eq_nil_of_le (Nat.le_refl _)] at hp
    refine ⟨_, rfl, ?_⟩
    rw [hp] at q
    exact q

theorem ok_amounts_of {f : Addr} {fd : FuncData} (D_amounts_of : Dfn K mg "amounts_of" s_amounts_of ["schedule"] f fd) (T : Tx mg) {f_amount_at : Addr} {fd_amount_at : FuncData} (D_amount_at : Dfn K mg "amount_at" s_amount_at ["schedule", "number"] f_amount_at fd_amount_at) (G_amount_at : FnOk P w K mg base CX0 (1) f_amount_at fd_amount_at ["schedule", "number"] (sp_amount_at K)) :
    FnOk P w K mg base CX0 (2) f fd ["schedule"] (sp_amounts_of K) := by
  refine D_amounts_of.F.ok sc_amounts_of (fun vs H Q E h => ?_) (fun cdv A outer s H vs Q E hr h => ?_)
  · obtain ⟨a, ps, rfl, hS, q⟩ := h
    rfl
  obtain ⟨a, ps, rfl, hS, q⟩ := h
  refine ⟨_, (pss_one (ps_ret (pe_callTy call_tuple_of (by rfl) T.tuple (by decide +kernel) (pa_cons (pe_lc (own := [("number", 1)]) (g := (gName 1)) (tt := tYes) rfl sc_amounts_of.nd (pi_range1 (by rfl) T.range (pa_cons (pe_op op_add (pe_gi rfl T.g_LAST_ROUND) pe_int) pa_nil)) (blkOk_by (own := [("number", 1)]) (N := (["schedule", "number"] : List Str)) (sc := defScope s_amounts_of) (by decide +kernel)) (fun _ _ _ _ _ => (pg_name (i := 1) sc_amounts_of.nd rfl (by first | exact Or.inl rfl | exact Or.inr rfl))) (fun _ _ _ _ _ => pts_nil) (fun _ _ _ _ _ => (pe_call G_amount_at (hr.mono (by first | decide | omega)) rfl D_amount_at.m D_amount_at.F.kp D_amount_at.b .nil pass0 (pa_cons (pv 0) (pa_cons (pv 1) pa_nil))))) pa_nil)))), ?_⟩
  refine ⟨_, _, rfl, rfl, 201, rfl, by decide, by decide, fun D nD => lc_range (lo := 0) (n := 201) (fun i H' => Same H H' ∧ H' D = some (.lst (((amts ps).map V.int).take i))) ⟨same_new nD, upd_same⟩ ?_ ?_⟩
  · rintro i H' hi ⟨sm, hD⟩
    refine ⟨rfl, ⟨_, rfl, _, rfl, a, ps, (0 : Int) + (i : Int), rfl, SchAt.same sm hS, ?_⟩⟩
    have hy : ((amts ps).map V.int)[i]? = some (.int (atM ((0 : Int) + (i : Int)) 0 ps)) := by
      rw [Int.zero_add]
      exact at_map (amts_get ps hi)
    exact acc_to nD sm hD hy (by rw [List.length_map, amts_len]; decide)
  · rintro H' ⟨sm, hD⟩
    have hD2 := acc_all (by rw [List.length_map, amts_len]) hD
    exact ⟨D, _, rfl, .inl ⟨SqL.of hD2, fun p np => q p _ (same_add sm np) upd_same⟩⟩

theorem ok_law_cell {f : Addr} {fd : FuncData} (D_law_cell : Dfn K mg "_law_cell" s_law_cell ["script", "k"] f fd) (T : Tx mg) :
    FnOk P w K mg base CX0 (1) f fd ["script", "k"] (sp_law_cell K) := by
  refine D_law_cell.F.ok sc_law_cell (fun vs H Q E h => ?_) (fun cdv A outer s H vs Q E hr h => ?_)
  · obtain ⟨a, ns, j, rfl, hS, q⟩ := h
    rfl
  obtain ⟨a, ns, j, rfl, hS, q⟩ := h
  refine ⟨_, (pss_cons (ps_if (pt_cmpR op_lt (pv 1) (pe_callB call_len_seq (by rfl) T.len PySem.boot_len (pa_cons (pv 0) pa_nil)) (nomark _))
      (pss_one (ps_ret (pe_callTy call_int1 (by rfl) T.int (by decide +kernel) (pa_cons (pe_ix (r := rIxL K) ix_list (pv 0) (pv 1) (fun _ _ => rfl)) pa_nil))))
      pss_nil)
      (pss_one (ps_ret pe_int))), ?_⟩
  refine ⟨_, rfl, _, rfl, a, _, rfl, .inl hS, _, _, rfl, rfl, _, rfl, ?_⟩
  refine iteB (fun c => ?_) (fun c => ?_)
  · have c' : (j : Int) < ((ns.map V.int).length : Nat) := of_decide_eq_true c
    rw [List.length_map] at c'
    exact ⟨_, rfl, _, rfl, a, _, _, V.int (cell ns j), rfl, rfl, hS, atI_nat (at_map (cell_in (by omega))), .inl ⟨_, rfl, q⟩⟩
  · have c' : ¬ (j : Int) < ((ns.map V.int).length : Nat) := of_decide_eq_false c
    rw [List.length_map] at c'
    have e : cell ns j = 0 := cell_out (by omega)
    rw [e] at q
    exact q

theorem ok_law_draws {f : Addr} {fd : FuncData} (D_law_draws : Dfn K mg "_law_draws" s_law_draws ["cell", "count"] f fd) (T : Tx mg) :
    FnOk P w K mg base CX0 (1) f fd ["cell", "count"] (sp_law_draws K) := by
  refine D_law_draws.F.ok sc_law_draws (fun vs H Q E h => ?_) (fun cdv A outer s H vs Q E hr h => ?_)
  · obtain ⟨c, n, rfl, hn, q⟩ := h
    rfl
  obtain ⟨c, n, rfl, hn, q⟩ := h
  refine ⟨_, (pss_cons (ps_set (i := 2) sc_law_draws.nd rfl (by first | exact Or.inl rfl | exact Or.inr rfl) (pe_callB call_abs (by rfl) T.abs (by decide +kernel) (pa_cons (pe_callTy call_int1 (by rfl) T.int (by decide +kernel) (pa_cons (pv 0) pa_nil)) pa_nil)))
      (pss_cons (ps_set (i := 3) sc_law_draws.nd rfl (by first | exact Or.inl rfl | exact Or.inr rfl) (pe_cmpR op_ge (pv 2) (pe_op op_pow pe_int pe_int) (nomark _)))
      (pss_cons (ps_set (i := 4) sc_law_draws.nd rfl (by first | exact Or.inl rfl | exact Or.inr rfl) (pe_lst pa_nil))
      (pss_cons (ps_for PassesOwn.never rfl (pi_range1 (by rfl) T.range (pa_cons pe_int pa_nil)) (pg_name (i := 5) sc_law_draws.nd rfl (by first | exact Or.inl rfl | exact Or.inr rfl))
      (pss_one (ps_if (PW.pt (pw_and (pt_cmpR op_lt (pv 5) (pv 1) (nomark _)) (pw_and1 (pt_val (pv 3)))))
      (pss_cons (ps_expr (pe_bm PySem.F.plainAttrs_list PySem.F.slot_list_append PySem.F.type_list_append mt_append (pv 4) (pa_cons (pe_op op_mod (pv 2) pe_int) pa_nil)))
      (pss_one (ps_set (i := 2) sc_law_draws.nd rfl (by first | exact Or.inl rfl | exact Or.inr rfl) (pe_op op_fdiv (pv 2) pe_int))))
      (pss_one (ps_if (pt_cmpR op_lt (pv 5) (pv 1) (nomark _))
      (pss_cons (ps_set (i := 6) sc_law_draws.nd rfl (by first | exact Or.inl rfl | exact Or.inr rfl) (pe_op op_mod (pe_op op_add (pe_op op_add (pe_op op_mul (pe_callTy call_int1 (by rfl) T.int (by decide +kernel) (pa_cons (pv 2) pa_nil)) pe_int) (pe_op op_mul (pv 5) pe_int)) pe_int) pe_int))
      (pss_cons (ps_set (i := 6) sc_law_draws.nd rfl (by first | exact Or.inl rfl | exact Or.inr rfl) (pe_op op_mod (pe_op op_add (pe_op op_add (pe_op op_mul (pe_callTy call_int1 (by rfl) T.int (by decide +kernel) (pa_cons (pv 6) pa_nil)) (pe_callTy call_int1 (by rfl) T.int (by decide +kernel) (pa_cons (pv 6) pa_nil))) (pe_op op_mul (pv 5) pe_int)) pe_int) pe_int))
      (pss_one (ps_expr (pe_bm PySem.F.plainAttrs_list PySem.F.slot_list_append PySem.F.type_list_append mt_append (pv 4) (pa_cons (pe_op op_mod (pe_callTy call_int1 (by rfl) T.int (by decide +kernel) (pa_cons (pv 6) pa_nil)) pe_int) pa_nil))))))
      pss_nil)))))
      (pss_one (ps_ret (pv 4))))))), ?_⟩
  refine ⟨_, rfl, .inl ⟨_, rfl, _, rfl, _, rfl, _, _, rfl, rfl, ⟨by decide, by decide, by decide⟩, _, _, rfl, rfl, Nat.zero_le _, fun o no => ?_⟩⟩
  have h0 : 0 ≤ (if c < 0 then -c else c) := by split <;> omega
  generalize (if c < 0 then -c else c) = num at h0 ⊢
  obtain ⟨gr, hg⟩ : ∃ gr, decide ((10 : Int) ^ (18 : Int).toNat ≤ num) = gr := ⟨_, rfl⟩
  have h1 : gr = false → num < 1000000000000000000 := fun e => by
    rw [e] at hg
    have z := of_decide_eq_false hg
    have z2 : (10 : Int) ^ (18 : Int).toNat = 1000000000000000000 := by decide
    rw [z2] at z
    omega
  refine ⟨60, rfl, by decide, by decide, for_range (lo := 0) (n := 60) (fun i σ H' => ∃ (m : Int) (ds : List Int) (kv mv : Option V), σ = [some (.int c), some (.int (n : Int)), some (.int m), some (.bl gr), some (.ref o), kv, mv] ∧ 0 ≤ m ∧ (gr = false → m < 1000000000000000000) ∧
    Same H H' ∧ H' o = some (.lst (ds.map V.int)) ∧ ds.length = min i n ∧ ∀ x ∈ ds, 0 ≤ x ∧ x < 60) ⟨num, [], none, none, by rw [← hg]; rfl, h0, h1, same_new no, upd_same, by simp, fun x hx => (nomatch hx)⟩ ?_ ?_⟩
  · rintro i σ H' hi ⟨m, ds, kv, mv, rfl, m0, m1, sm, ho, hl, hb⟩
    have app : ∀ z : Int, ((ds ++ [z % 60]).length = ds.length + 1) := fun z => by rw [List.length_append]; rfl
    have ea : ∀ z : Int, ds.map V.int ++ [V.int (z % 60)] = (ds ++ [z % 60]).map V.int := fun z => by rw [List.map_append]; rfl
    have hz : (ds.map V.int).length < sizeLine := by rw [List.length_map]; exact szl (by omega)
    refine ⟨_, rfl, _, rfl, _, _, rfl, rfl, _, rfl, ?_⟩
    refine iteB (fun c1 => ?_) (fun c1 => ?_)
    · have c1' : (0 : Int) + (i : Int) < (n : Int) := of_decide_eq_true c1
      refine ⟨_, rfl, _, rfl, ?_⟩
      refine iteB (fun c2 => ?_) (fun c2 => ?_)
      · refine ⟨_, rfl, .inl ⟨rfl, _, SqL.of ho⟩, _, rfl, _, _, rfl, rfl, (by show (0 : Int) < 60; decide), o, _, _, rfl, rfl, ho, hz, ?_⟩
        refine ⟨_, rfl, _, _, rfl, rfl, ⟨by decide, by decide⟩, ?_⟩
        refine ⟨m / 60, ds ++ [m % 60], _, _, rfl, Int.ediv_nonneg m0 (by decide), (fun z => by rw [c2] at z; cases z), same_put sm no, by rw [upd_same, ea], by rw [app]; omega, digs_add hb⟩
      · have g1 := m1 c2
        refine ⟨_, rfl, _, rfl, _, _, rfl, rfl, _, rfl, ?_⟩
        refine iteB (fun c3 => ?_) (fun c3 => ?_)
        · refine ⟨_, rfl, .inl ⟨_, rfl, _, _, rfl, rfl, .inr (by decide), _, rfl, _, _, rfl, rfl, .inr (by decide), _, _, rfl, rfl, _, _, rfl, rfl, _, _, rfl, rfl, (by show (0 : Int) < 2147483647; decide), ?_⟩⟩
          generalize hx : ((m * 48271 + (0 + (i : Int)) * 69621 + 11) % 2147483647) = x
          have x0 : 0 ≤ x ∧ x < 2147483647 := by omega
          refine ⟨_, rfl, .inl ⟨_, rfl, _, rfl, .inl ⟨_, rfl, _, _, rfl, rfl, .inl (by constructor <;> omega), _, rfl, _, _, rfl, rfl, .inr (by decide), _, _, rfl, rfl, _, _, rfl, rfl, _, _, rfl, rfl, (by show (0 : Int) < 998244353; decide), ?_⟩⟩⟩
          refine ⟨_, rfl, .inl ⟨rfl, _, SqL.of ho⟩, _, rfl, .inl ⟨_, rfl, _, _, rfl, rfl, (by show (0 : Int) < 60; decide), o, _, _, rfl, rfl, ho, hz, ?_⟩⟩
          refine ⟨m, ds ++ [_ % 60], _, _, rfl, m0, m1, same_put sm no, by rw [upd_same, ea], by rw [app]; omega, digs_add hb⟩
        · rw [c1] at c3
          cases c3
    · have c1' : ¬ (0 : Int) + (i : Int) < (n : Int) := of_decide_eq_false c1
      refine ⟨_, rfl, _, rfl, _, _, rfl, rfl, _, rfl, ?_⟩
      refine iteB (fun c3 => ?_) (fun c3 => ?_)
      · rw [c1] at c3
        cases c3
      · exact ⟨m, ds, _, _, rfl, m0, m1, sm, ho, by omega, hb⟩
  · rintro σ H' ⟨m, ds, kv, mv, rfl, m0, m1, sm, ho, hl, hb⟩
    exact ⟨_, rfl, q o H' ds sm no ho ⟨by omega, hb⟩⟩

theorem ok_law_stream {f : Addr} {fd : FuncData} (D_law_stream : Dfn K mg "_law_stream" s_law_stream ["script", "first", "count"] f fd) (T : Tx mg) {f_law_draws : Addr} {fd_law_draws : FuncData} (D_law_draws : Dfn K mg "_law_draws" s_law_draws ["cell", "count"] f_law_draws fd_law_draws) (G_law_draws : FnOk P w K mg base CX0 (1) f_law_draws fd_law_draws ["cell", "count"] (sp_law_draws K)) {f_law_cell : Addr} {fd_law_cell : FuncData} (D_law_cell : Dfn K mg "_law_cell" s_law_cell ["script", "k"] f_law_cell fd_law_cell) (G_law_cell : FnOk P w K mg base CX0 (1) f_law_cell fd_law_cell ["script", "k"] (sp_law_cell K)) :
    FnOk P w K mg base CX0 (2) f fd ["script", "first", "count"] (sp_law_stream K) := by
  refine D_law_stream.F.ok sc_law_stream (fun vs H Q E h => ?_) (fun cdv A outer s H vs Q E hr h => ?_)
  · obtain ⟨a, ns, j, n, rfl, hS, hn0, hn, q⟩ := h
    rfl
  obtain ⟨a, ns, j, n, rfl, hS, hn0, hn, q⟩ := h
  refine ⟨_, (pss_cons (ps_set (i := 3) sc_law_stream.nd rfl (by first | exact Or.inl rfl | exact Or.inr rfl) (pe_lst pa_nil))
      (pss_cons (ps_for PassesOwn.never rfl (pi_range1 (by rfl) T.range (pa_cons (pv 2) pa_nil)) (pg_name (i := 4) sc_law_stream.nd rfl (by first | exact Or.inl rfl | exact Or.inr rfl))
      (pss_one (ps_expr (pe_bm PySem.F.plainAttrs_list PySem.F.slot_list_extend PySem.F.type_list_extend mt_extend (pv 3) (pa_cons (pe_call G_law_draws (hr.mono (by first | decide | omega)) rfl D_law_draws.m D_law_draws.F.kp D_law_draws.b .nil pass0 (pa_cons (pe_call G_law_cell (hr.mono (by first | decide | omega)) rfl D_law_cell.m D_law_cell.F.kp D_law_cell.b .nil pass0 (pa_cons (pv 0) (pa_cons (pe_op op_add (pv 1) (pv 4)) pa_nil))) (pa_cons pe_int pa_nil))) pa_nil)))))
      (pss_one (ps_ret (pe_lst (pa_cons (pv 3) (pa_cons (pe_lst (pa_cons pe_int pa_nil)) pa_nil))))))), ?_⟩
  refine ⟨Nat.zero_le _, fun o no => ?_⟩
  refine ⟨_, rfl, (n : Int), rfl, by omega, by omega, ?_⟩
  rw [show (n : Int).toNat = n by omega]
  refine for_range (lo := 0) (n := n) (fun i σ H' => ∃ (ds : List Int) (kv : Option V), σ = [some (.ref a), some (.int (j : Int)), some (.int (n : Int)), some (.ref o), kv] ∧ Same H H' ∧ H' o = some (.lst (ds.map V.int)) ∧ ds.length = 12 * i) ⟨[], none, rfl, same_new no, upd_same, rfl⟩ ?_ ?_
  · rintro i σ H' hi ⟨ds, kv, rfl, sm, ho, hl⟩
    refine ⟨_, rfl, .inl ⟨rfl, _, SqL.of ho⟩, _, rfl, _, rfl, _, rfl, _, _, rfl, rfl, a, ns, j + i, ?_, sm.seq hS, ?_⟩
    · show [V.ref a, V.int ((j : Int) + ((0 : Int) + (i : Int)))] = [V.ref a, V.int ((j + i : Nat) : Int)]
      rw [show (j : Int) + ((0 : Int) + (i : Int)) = ((j + i : Nat) : Int) by omega]
    · refine ⟨_, 12, rfl, by decide, fun o2 H2 d2 s2 n2 h2 hd => ?_⟩
      have ne : o ≠ o2 := ne_of_none ho n2
      have e1 := s2 _ _ ho
      refine ⟨o, o2, _, _, rfl, rfl, e1, h2, ?_, ?_⟩
      · rw [List.length_map, List.length_map, hl, hd.1]
        exact sz (by omega)
      · refine ⟨ds ++ d2, _, rfl, same_put (sm.trans s2) no, by rw [upd_same, List.map_append], ?_⟩
        rw [List.length_append, hl, hd.1]
        omega
  · rintro σ H' ⟨ds, kv, rfl, sm, ho, hl⟩
    refine ⟨_, rfl, sz (by show 1 ≤ 100000; decide), fun p np => ?_⟩
    refine ⟨sz (by show 2 ≤ 100000; decide), fun s ns' => ?_⟩
    have n1 : o ≠ p := ne_of_none ho np
    have n2 : s ≠ p := Bar.new upd_same ns'
    have n3 : o ≠ s := ne_of_none (by rw [upd_ne n1]; exact ho) ns'
    refine q s p _ (same_add (same_add sm np) ns') (sm.free np) ⟨o, ds, 0, upd_same, ?_, by omega, ?_, n2, n1⟩
    · rw [upd_ne n3, upd_ne n1]
      exact ho
    · rw [upd_ne n2.symm, upd_same]
      rfl

theorem ok_law_next {f : Addr} {fd : FuncData} (D_law_next : Dfn K mg "_law_next" s_law_next ["stream", "many"] f fd) (T : Tx mg) :
    FnOk P w K mg base CX0 (1) f fd ["stream", "many"] (sp_law_next K) := by
  refine D_law_next.F.ok sc_law_next (fun vs H Q E h => ?_) (fun cdv A outer s H vs Q E hr h => ?_)
  · obtain ⟨s, p, m, rfl, hm, hS, q⟩ := h
    rfl
  obtain ⟨s, p, m, rfl, hm, hS, q⟩ := h
  refine ⟨_, (pss_cons (ps_set (i := 2) sc_law_next.nd rfl (by first | exact Or.inl rfl | exact Or.inr rfl) (pe_ix (r := rIxL K) ix_list (pv 0) pe_int (fun _ _ => rfl)))
      (pss_cons (ps_set (i := 3) sc_law_next.nd rfl (by first | exact Or.inl rfl | exact Or.inr rfl) (pe_ix (r := rIxL K) ix_list (pv 0) pe_int (fun _ _ => rfl)))
      (pss_cons (ps_set (i := 4) sc_law_next.nd rfl (by first | exact Or.inl rfl | exact Or.inr rfl) (pe_op op_mod (pe_callTy call_int1 (by rfl) T.int (by decide +kernel) (pa_cons (pe_ix (r := rIxL K) ix_list (pv 2) (pe_op op_mod (pe_callTy call_int1 (by rfl) T.int (by decide +kernel) (pa_cons (pe_ix (r := rIxL K) ix_list (pv 3) pe_int (fun _ _ => rfl)) pa_nil)) (pe_callB call_len_seq (by rfl) T.len PySem.boot_len (pa_cons (pv 2) pa_nil))) (fun _ _ => rfl)) pa_nil)) (pv 1)))
      (pss_cons (ps_asg (pe_op op_add (pe_ix (r := rIxL K) ix_list (pv 3) pe_int (fun _ _ => rfl)) pe_int) (pg_sub (pv 3) pe_int set_list))
      (pss_one (ps_ret (pv 4))))))), ?_⟩
  obtain ⟨d, ds, n, a1, a2, a3, a4, a5, a6⟩ := hS.ex
  obtain ⟨v, hv⟩ := mod_at (n := n) a3
  refine ⟨_, rfl, s, _, _, .ref d, rfl, rfl, SqL.of a1, rfl, ?_⟩
  refine ⟨_, rfl, s, _, _, .ref p, rfl, rfl, SqL.of a1, rfl, ?_⟩
  refine ⟨_, rfl, _, rfl, p, _, _, .int (n : Int), rfl, rfl, SqL.of a4, rfl, .inl ⟨_, rfl, _, rfl, d, _, rfl, .inl (SqL.of a2), _, _, rfl, rfl, ?_, d, _, _, .int v, rfl, rfl, SqL.of a2, hv, .inl ⟨_, rfl, _, rfl, _, _, rfl, rfl, hm, ?_⟩⟩⟩
  · rw [List.length_map]
    show (0 : Int) < (ds.length : Int)
    omega
  refine ⟨_, rfl, p, _, _, .int (n : Int), rfl, rfl, SqL.of a4, rfl, _, _, rfl, rfl, _, rfl, p, _, 0, 0, rfl, rfl, a4, rfl, ?_⟩
  refine ⟨_, rfl, q _ _ (Int.emod_nonneg _ (by omega)) (Int.emod_lt_of_pos _ hm) (Bar.put (Bar.refl H)) ⟨d, ds, n + 1, ?_, ?_, a3, ?_, a5, a6⟩⟩
  · rw [upd_ne a5]
    exact a1
  · rw [upd_ne a6]
    exact a2
  · rw [upd_same]
    rfl

theorem ok_law_is_integer {f : Addr} {fd : FuncData} (D_law_is_integer : Dfn K mg "_law_is_integer" s_law_is_integer ["actual"] f fd) (T : Tx mg) :
    FnOk P w K mg base CX0 (1) f fd ["actual"] (sp_law_is_integer K) := by
  refine D_law_is_integer.F.ok sc_law_is_integer (fun vs H Q E h => ?_) (fun cdv A outer s H vs Q E hr h => ?_)
  · obtain ⟨i, rfl, q⟩ := h
    rfl
  obtain ⟨i, rfl, q⟩ := h
  refine ⟨_, (pss_one (ps_ret (pe_and (pe_callB call_isi (by rfl) T.isinstance (by decide +kernel) (pa_cons (pv 0) (pa_cons (pe_bltn (v := .ty "int") (by rfl) T.int (by decide +kernel) rfl) pa_nil))) (pe_one (pe_not (pe_callB call_isi (by rfl) T.isinstance (by decide +kernel) (pa_cons (pv 0) (pa_cons (pe_bltn (v := .ty "bool") (by rfl) T.bool (by decide +kernel) rfl) pa_nil)))))))), ?_⟩
  refine ⟨_, rfl, _, _, _, _, _, rfl, .ty _, .base (.int i), kit_ty (r := true) (by decide +kernel), _, rfl, ?_⟩
  refine iteT ?_
  refine ⟨_, rfl, _, _, _, _, _, rfl, .ty _, .base (.int i), kit_ty (r := false) (by decide +kernel), _, rfl, ?_⟩
  exact q

theorem ok_law_same {f : Addr} {fd : FuncData} (D_law_same : Dfn K mg "_law_same" s_law_same ["actual", "expected"] f fd) (T : Tx mg) {f_law_is_integer : Addr} {fd_law_is_integer : FuncData} (D_law_is_integer : Dfn K mg "_law_is_integer" s_law_is_integer ["actual"] f_law_is_integer fd_law_is_integer) (G_law_is_integer : FnOk P w K mg base CX0 (1) f_law_is_integer fd_law_is_integer ["actual"] (sp_law_is_integer K)) {n:Nat} (IH:FnOk P w K mg base CX0 (n+1) f fd ["actual","expected"] (sp_law_same K n)) :
    FnOk P w K mg base CX0 (n+2) f fd ["actual", "expected"] (sp_law_same K (n+1)) := by
  refine D_law_same.F.ok sc_law_same (fun vs H Q E h => ?_) (fun cdv A outer s H vs Q E hr h => ?_)
  · obtain ⟨x, y, d, rfl, hd, hx, hy, q⟩ := h
    rfl
  obtain ⟨x, y, d, rfl, hd, hx, hy, q⟩ := h
  refine ⟨_, (pss_cons (ps_if (pt_cmpR op_isN (pv 1) pe_non (nomark _))
      (pss_one (ps_ret (pe_cmpR op_isN (pv 0) pe_non (nomark _))))
      pss_nil)
      (pss_cons (ps_if (pt_val (pe_callB call_isi (by rfl) T.isinstance (by decide +kernel) (pa_cons (pv 1) (pa_cons (pe_bltn (v := .ty "bool") (by rfl) T.bool (by decide +kernel) rfl) pa_nil))))
      (pss_one (ps_ret (pe_and (pe_callB call_isi (by rfl) T.isinstance (by decide +kernel) (pa_cons (pv 0) (pa_cons (pe_bltn (v := .ty "bool") (by rfl) T.bool (by decide +kernel) rfl) pa_nil))) (pe_one (pe_cmpR op_eq (pv 0) (pv 1) (nomark _))))))
      pss_nil)
      (pss_cons (ps_if (pt_val (pe_callB call_isi (by rfl) T.isinstance (by decide +kernel) (pa_cons (pv 1) (pa_cons (pe_bltn (v := .ty "int") (by rfl) T.int (by decide +kernel) rfl) pa_nil))))
      (pss_one (ps_ret (pe_and (pe_call G_law_is_integer (hr.mono (by first | decide | omega)) rfl D_law_is_integer.m D_law_is_integer.F.kp D_law_is_integer.b .nil pass0 (pa_cons (pv 0) pa_nil)) (pe_one (pe_cmpR op_eq (pv 0) (pv 1) (nomark _))))))
      pss_nil)
      (pss_cons (ps_if (pt_val (pe_callB call_isi (by rfl) T.isinstance (by decide +kernel) (pa_cons (pv 1) (pa_cons (pe_bltn (v := .ty "str") (by rfl) T.str (by decide +kernel) rfl) pa_nil))))
      (pss_one (ps_ret (pe_and (pe_callB call_isi (by rfl) T.isinstance (by decide +kernel) (pa_cons (pv 0) (pa_cons (pe_bltn (v := .ty "str") (by rfl) T.str (by decide +kernel) rfl) pa_nil))) (pe_one (pe_cmpR op_eq (pv 0) (pv 1) (nomark _))))))
      pss_nil)
      (pss_cons (ps_if (PW.pt (pw_and (pt_val (pe_callB call_isi (by rfl) T.isinstance (by decide +kernel) (pa_cons (pv 1) (pa_cons (pe_bltn (v := .ty "tuple") (by rfl) T.tuple (by decide +kernel) rfl) pa_nil)))) (pw_and1 (pt_not (pt_val (pe_callB call_isi (by rfl) T.isinstance (by decide +kernel) (pa_cons (pv 0) (pa_cons (pe_bltn (v := .ty "tuple") (by rfl) T.tuple (by decide +kernel) rfl) pa_nil))))))))
      (pss_one (ps_ret pe_bl))
      pss_nil)
      (pss_cons (ps_if (PW.pt (pw_and (pt_val (pe_callB call_isi (by rfl) T.isinstance (by decide +kernel) (pa_cons (pv 1) (pa_cons (pe_bltn (v := .ty "list") (by rfl) T.list (by decide +kernel) rfl) pa_nil)))) (pw_and1 (pt_not (pt_val (pe_callB call_isi (by rfl) T.isinstance (by decide +kernel) (pa_cons (pv 0) (pa_cons (pe_bltn (v := .ty "list") (by rfl) T.list (by decide +kernel) rfl) pa_nil))))))))
      (pss_one (ps_ret pe_bl))
      pss_nil)
      (pss_cons (ps_if (pt_cmpR op_ne (pe_callB call_len_seq (by rfl) T.len PySem.boot_len (pa_cons (pv 0) pa_nil)) (pe_callB call_len_seq (by rfl) T.len PySem.boot_len (pa_cons (pv 1) pa_nil)) (nomark _))
      (pss_one (ps_ret pe_bl))
      pss_nil)
      (pss_cons (ps_for PassesOwn.never rfl (pi_range1 (by rfl) T.range (pa_cons (pe_callB call_len_seq (by rfl) T.len PySem.boot_len (pa_cons (pv 1) pa_nil)) pa_nil)) (pg_name (i := 2) sc_law_same.nd rfl (by first | exact Or.inl rfl | exact Or.inr rfl))
      (pss_one (ps_if (pt_not (pt_val (pe_call IH hr rfl D_law_same.m D_law_same.F.kp D_law_same.b .nil pass0 (pa_cons (pe_ix (r := rIx K) ix_seq (pv 0) (pv 2) (fun _ _ => rfl)) (pa_cons (pe_ix (r := rIx K) ix_seq (pv 1) (pv 2) (fun _ _ => rfl)) pa_nil)))))
      (pss_one (ps_ret pe_bl))
      pss_nil)))
      (pss_one (ps_ret pe_bl)))))))))), ?_⟩
  cases hx <;> cases hy
  case non.non => exact ⟨_, rfl, rfl, _, rfl, iteT ⟨_, rfl, rfl, q⟩⟩
  case bl.bl b =>
    refine ⟨_, rfl, rfl, _, rfl, iteF ⟨_, rfl, _, _, _, _, _, rfl, .ty _, .base (.bl b), kit_ty (r := true) (by decide +kernel), _, rfl, iteT ?_⟩⟩
    refine ⟨_, rfl, _, _, _, _, _, rfl, .ty _, .base (.bl b), kit_ty (r := true) (by decide +kernel), _, rfl, iteT ⟨_, rfl, _, rfl, rfl, ?_⟩⟩
    show Q (.bl (decide (V.bl b = V.bl b))) H
    rw [decide_eq_true rfl]
    exact q
  case int.int b =>
    refine ⟨_, rfl, rfl, _, rfl, iteF ⟨_, rfl, _, _, _, _, _, rfl, .ty _, .base (.int b), kit_ty (r := false) (by decide +kernel), _, rfl, iteF ?_⟩⟩
    refine ⟨_, rfl, _, _, _, _, _, rfl, .ty _, .base (.int b), kit_ty (r := true) (by decide +kernel), _, rfl, iteT ?_⟩
    refine ⟨_, rfl, b, rfl, _, rfl, iteT ⟨_, rfl, _, rfl, rfl, ?_⟩⟩
    show Q (.bl (decide (V.int b = V.int b))) H
    rw [decide_eq_true rfl]
    exact q
  case str.str b =>
    refine ⟨_, rfl, rfl, _, rfl, iteF ⟨_, rfl, _, _, _, _, _, rfl, .ty _, .base (.str b), kit_ty (r := false) (by decide +kernel), _, rfl, iteF ?_⟩⟩
    refine ⟨_, rfl, _, _, _, _, _, rfl, .ty _, .base (.str b), kit_ty (r := false) (by decide +kernel), _, rfl, iteF ?_⟩
    refine ⟨_, rfl, _, _, _, _, _, rfl, .ty _, .base (.str b), kit_ty (r := true) (by decide +kernel), _, rfl, iteT ?_⟩
    refine ⟨_, rfl, _, _, _, _, _, rfl, .ty _, .base (.str b), kit_ty (r := true) (by decide +kernel), _, rfl, iteT ⟨_, rfl, _, rfl, rfl, ?_⟩⟩
    show Q (.bl (decide (V.str b = V.str b))) H
    rw [decide_eq_true rfl]
    exact q
  case' lst.lst a xs ds ha hA b ys hb hB =>
    have ta := tyx_lst ha
    have tb := tyx_lst hb
    refine ⟨_, rfl, rfl, _, rfl, iteF ⟨_, rfl, _, _, _, _, _, rfl, .ty _, tb, kit_ty (r := false) (by decide +kernel), _, rfl, iteF ?_⟩⟩
    refine ⟨_, rfl, _, _, _, _, _, rfl, .ty _, tb, kit_ty (r := false) (by decide +kernel), _, rfl, iteF ?_⟩
    refine ⟨_, rfl, _, _, _, _, _, rfl, .ty _, tb, kit_ty (r := false) (by decide +kernel), _, rfl, iteF ?_⟩
    refine ⟨_, rfl, _, _, _, _, _, rfl, .ty _, tb, kit_ty (r := false) (by decide +kernel), _, rfl, iteF (iteF ?_)⟩
    refine ⟨_, rfl, _, _, _, _, _, rfl, .ty _, tb, kit_ty (r := true) (by decide +kernel), _, rfl, iteT ⟨_, rfl, _, _, _, _, _, rfl, .ty _, ta, kit_ty (r := true) (by decide +kernel), _, rfl, iteF ?_⟩⟩
    have hSa : Sq K H a xs := .inl ha
    have hSb : Sq K H b ys := .inl hb
    have hds2 : (decide (ds.length ≤ 5000) && ds.all (dOk n)) = true := hd
  case' tup.tup a xs ds ha hA b ys hb hB =>
    have ta := tyx_tup ha
    have tb := tyx_tup hb
    refine ⟨_, rfl, rfl, _, rfl, iteF ⟨_, rfl, _, _, _, _, _, rfl, .ty _, tb, kit_ty (r := false) (by decide +kernel), _, rfl, iteF ?_⟩⟩
    refine ⟨_, rfl, _, _, _, _, _, rfl, .ty _, tb, kit_ty (r := false) (by decide +kernel), _, rfl, iteF ?_⟩
    refine ⟨_, rfl, _, _, _, _, _, rfl, .ty _, tb, kit_ty (r := false) (by decide +kernel), _, rfl, iteF ?_⟩
    refine ⟨_, rfl, _, _, _, _, _, rfl, .ty _, tb, kit_ty (r := true) (by decide +kernel), _, rfl, iteT ⟨_, rfl, _, _, _, _, _, rfl, .ty _, ta, kit_ty (r := true) (by decide +kernel), _, rfl, iteF ?_⟩⟩
    refine ⟨_, rfl, _, _, _, _, _, rfl, .ty _, tb, kit_ty (r := false) (by decide +kernel), _, rfl, iteF (iteF ?_)⟩
    have hSa : Sq K H a xs := .inr ha
    have hSb : Sq K H b ys := .inr hb
    have hds2 : (decide (ds.length ≤ 5000) && ds.all (dOk n)) = true := hd
  all_goals
    have la : xs.length = ds.length := DpAll.len hA
    have lb : ys.length = ds.length := DpAll.len hB
    refine ⟨_, rfl, a, xs, rfl, hSa, _, rfl, b, ys, rfl, hSb, rfl, _, rfl, ?_⟩
    have e1 : decide (V.int ((xs.length : Nat) : Int) = V.int ((ys.length : Nat) : Int)) = true := decide_eq_true (by rw [la, lb])
    rw [e1]
    refine iteF ?_
    rw [Bool.and_eq_true] at hds2
    have hlen : ds.length ≤ 5000 := of_decide_eq_true hds2.1
    have hds := hds2.2
    refine ⟨_, rfl, b, ys, rfl, hSb, ((ys.length : Nat) : Int), rfl, by omega, by omega, ?_⟩
    rw [show ((ys.length : Nat) : Int).toNat = ys.length by omega]
    refine for_range (lo := 0) (n := ys.length) (fun i σ H' => ∃ kv : Option V, σ = [some (.ref a), some (.ref b), kv] ∧ H' = H) ⟨none, rfl, rfl⟩ ?_ ?_
    · rintro i σ H' hi ⟨kv, rfl, rfl⟩
      have hi2 : i < ds.length := by omega
      obtain ⟨va, ga, da⟩ := DpAll.get hA (List.getElem?_eq_getElem hi2)
      obtain ⟨vb, gb, db⟩ := DpAll.get hB (List.getElem?_eq_getElem hi2)
      have ez : (0 : Int) + (i : Int) = (i : Int) := by omega
      have hdi : dOk n ds[i] = true := List.all_eq_true.mp hds _ (List.getElem_mem hi2)
      have ia : atI xs ((0 : Int) + (i : Int)) = some va := by
        rw [ez]
        exact atI_nat ga
      have ib : atI ys ((0 : Int) + (i : Int)) = some vb := by
        rw [ez]
        exact atI_nat gb
      refine ⟨_, rfl, _, rfl, sq_ix hSa ia ?_⟩
      refine ⟨_, rfl, _, rfl, sq_ix hSb ib ?_⟩
      refine ⟨va, vb, ds[i], rfl, hdi, da, db, _, rfl, iteF ?_⟩
      exact ⟨_, rfl, rfl⟩
    · rintro σ H' ⟨kv, rfl, rfl⟩
      exact q

theorem ok_law_row {f : Addr} {fd : FuncData} (D_law_row : Dfn K mg "_law_row" s_law_row ["stream"] f fd) (T : Tx mg) {f_law_next : Addr} {fd_law_next : FuncData} (D_law_next : Dfn K mg "_law_next" s_law_next ["stream", "many"] f_law_next fd_law_next) (G_law_next : FnOk P w K mg base CX0 (1) f_law_next fd_law_next ["stream", "many"] (sp_law_next K)) :
    FnOk P w K mg base CX0 (2) f fd ["stream"] (sp_law_row K) := by
  refine D_law_row.F.ok sc_law_row (fun vs H Q E h => ?_) (fun cdv A outer s H vs Q E hr h => ?_)
  · obtain ⟨s, p, rfl, hst, q⟩ := h
    rfl
  obtain ⟨s, p, rfl, hst, q⟩ := h
  refine ⟨_, (pss_cons (ps_set (i := 1) sc_law_row.nd rfl (by first | exact Or.inl rfl | exact Or.inr rfl) (pe_lst pa_nil))
      (pss_cons (ps_set (i := 2) sc_law_row.nd rfl (by first | exact Or.inl rfl | exact Or.inr rfl) (pe_ix (r := rIxL K) ix_list (pe_lst (pa_cons pe_int (pa_cons pe_int (pa_cons pe_int pa_nil)))) (pe_call G_law_next (hr.mono (by first | decide | omega)) rfl D_law_next.m D_law_next.F.kp D_law_next.b .nil pass0 (pa_cons (pv 0) (pa_cons pe_int pa_nil))) (fun _ _ => rfl)))
      (pss_cons (ps_setLc (i := 3) (own := [("k", 5)]) (g := (gName 5)) (tt := tYes) rfl sc_law_row.nd rfl rfl (sw_true rfl rfl rfl (by decide +kernel)) (pi_range1 (by rfl) T.range (pa_cons (pe_call G_law_next (hr.mono (by first | decide | omega)) rfl D_law_next.m D_law_next.F.kp D_law_next.b .nil pass0 (pa_cons (pv 0) (pa_cons pe_int pa_nil))) pa_nil)) (blkOk_by (own := [("k", 5)]) (N := (["stream", "row", "amount", "turns", "number", "k"] : List Str)) (sc := defScope s_law_row) (by decide +kernel)) (fun _ _ _ _ _ => (pg_name (i := 5) sc_law_row.nd rfl (by first | exact Or.inl rfl | exact Or.inr rfl))) (fun _ _ _ _ _ => pts_nil) (fun _ _ _ _ _ => (pe_op op_add pe_int (pe_op op_mod (pe_callTy call_int1 (by rfl) T.int (by decide +kernel) (pa_cons (pe_op op_add (pe_op op_mul (pe_call G_law_next (hr.mono (by first | decide | omega)) rfl D_law_next.m D_law_next.F.kp D_law_next.b .nil pass0 (pa_cons (pv 0) (pa_cons pe_int pa_nil))) pe_int) (pe_call G_law_next (hr.mono (by first | decide | omega)) rfl D_law_next.m D_law_next.F.kp D_law_next.b .nil pass0 (pa_cons (pv 0) (pa_cons pe_int pa_nil)))) pa_nil)) pe_int))))
      (pss_cons (ps_if (pt_cmpR op_eq (pe_call G_law_next (hr.mono (by first | decide | omega)) rfl D_law_next.m D_law_next.F.kp D_law_next.b .nil pass0 (pa_cons (pv 0) (pa_cons pe_int pa_nil))) pe_int (nomark _))
      (pss_one (ps_expr (pe_bm PySem.F.plainAttrs_list PySem.F.slot_list_append PySem.F.type_list_append mt_append (pv 3) (pa_cons pe_int pa_nil))))
      pss_nil)
      (pss_cons (ps_for PassesOwn.never rfl (pi_range1 (by rfl) T.range (pa_cons pe_int pa_nil)) (pg_name (i := 4) sc_law_row.nd rfl (by first | exact Or.inl rfl | exact Or.inr rfl))
      (pss_cons (ps_if (pt_cmpR op_in_seq (pv 4) (pv 3) (by with_unfolding_all rfl))
      (pss_one (ps_set (i := 2) sc_law_row.nd rfl (by first | exact Or.inl rfl | exact Or.inr rfl) (pe_ix (r := rIxL K) ix_list (pe_lst (pa_cons pe_int (pa_cons pe_int (pa_cons pe_int (pa_cons (pe_call G_law_next (hr.mono (by first | decide | omega)) rfl D_law_next.m D_law_next.F.kp D_law_next.b .nil pass0 (pa_cons (pv 0) (pa_cons pe_int pa_nil))) (pa_cons (pe_op op_pow pe_int pe_int) pa_nil)))))) (pe_call G_law_next (hr.mono (by first | decide | omega)) rfl D_law_next.m D_law_next.F.kp D_law_next.b .nil pass0 (pa_cons (pv 0) (pa_cons pe_int pa_nil))) (fun _ _ => rfl))))
      pss_nil)
      (pss_one (ps_expr (pe_bm PySem.F.plainAttrs_list PySem.F.slot_list_append PySem.F.type_list_append mt_append (pv 1) (pa_cons (pv 2) pa_nil))))))
      (pss_one (ps_ret (pv 1)))))))), ?_⟩
  refine ⟨Nat.zero_le _, fun o no => ?_⟩
  have nop : o ≠ p := hst.ne no
  have hst0 : Strm s p (upd H o (.lst [])) := hst.same (same_new no)
  refine ⟨sz (by show 3 ≤ 100000; decide), fun l nl => ⟨_, rfl, s, p, 3, rfl, by decide, hst0.same (same_new nl), fun z H1 z0 z3 b1 hst1 => ?_⟩⟩
  have nlp : l ≠ p := hst0.ne nl
  have hl1 := b1 l _ nlp upd_same
  have ho1 : H1 o = some (.lst []) := b1 o _ nop ((same_new nl) _ _ upd_same)
  have b01 : Bar p H H1 := (((Bar.refl H).add no).add nl).trans b1
  obtain ⟨am, ham⟩ := pick_i (ns := [0, 0, 5]) z0 (by show z < 3; exact z3)
  refine ⟨l, _, z, _, rfl, rfl, SqL.of hl1, ham, ?_⟩
  refine ⟨_, rfl, s, p, 8, rfl, by decide, hst1, fun n H2 n0 n8 b2 hst2 => ⟨n, rfl, by omega, by omega, ?_⟩⟩
  obtain ⟨n, rfl⟩ : ∃ m : Nat, n = (m : Int) := ⟨n.toNat, by omega⟩
  rw [show ((n : Int)).toNat = n by omega]
  intro D nD
  have nDp : D ≠ p := hst2.ne nD
  have ho2 : H2 o = some (.lst []) := b2 o _ nop ho1
  have noD : o ≠ D := ne_of_none ho2 nD
  have nD1 : H1 D = none := b2.free nDp nD
  have nDH : H D = none := b01.free nDp nD1
  refine lc_range (lo := 0) (n := n) (fun i H' => Bar p H1 H' ∧ Strm s p H' ∧ ∃ ts : List Int, H' D = some (.lst (ts.map V.int)) ∧ ts.length = i) ⟨Bar.add b2 nD, hst2.same (same_new nD), [], upd_same, rfl⟩ ?_ ?_
  · rintro i H' hi ⟨b, hs', ts, hD, hl⟩
    refine ⟨rfl, ?_⟩
    refine ⟨_, rfl, s, p, 60, rfl, by decide, hs', fun x H3 x0 x60 b3 hs3 => ⟨_, _, rfl, rfl, .inr (by decide), _, rfl, s, p, 60, rfl, by decide, hs3, fun y H4 y0 y60 b4 hs4 => ⟨_, _, rfl, rfl, .inl ⟨_, rfl, _, _, rfl, rfl, (by show (0 : Int) < 200; decide), _, _, rfl, rfl, ?_⟩⟩⟩⟩
    have hD4 := b4 D _ nDp (b3 D _ nDp hD)
    have bb := b.trans (b3.trans b4)
    refine ⟨_, hD4, by rw [List.length_map]; exact szl (by omega), bb.put2 nD1, hst1.put bb hs4 nD1 nDp, ts ++ [_], by rw [upd_same, List.map_append]; rfl, by rw [List.length_append, hl] <;> rfl⟩
  rintro H3 ⟨b3, hst3, ts, hD, htl⟩
  have ho3 := b3 o _ nop ho1
  have b03 := b01.trans b3
  dsimp only
  refine nx_to ?_
  generalize hw : List.set _ _ _ = w0
  have ew : w0 = [some (.ref s), some (.ref o), some (.int am), some (.ref D), none, none] := by
    rw [← hw]
    kernel_rfl
  clear hw
  subst ew
  refine with_rest (fun σ H' => σ = [some (.ref s), some (.ref o), some (.int am), some (.ref D), none, none] ∧ Bar p H H' ∧ Strm s p H' ∧ H' o = some (.lst []) ∧ ∃ ts : List Int, H' D = some (.lst (ts.map V.int)) ∧ ts.length ≤ 10) ?rest ?first
  case first =>
    intro R0
    refine ⟨_, rfl, s, p, 3, rfl, by decide, hst3, fun z H4 z0 z3 b4 hst4 => ⟨rfl, _, rfl, ?_⟩⟩
    have hD4 := b4 D _ nDp hD
    have ho4 := b4 o _ nop ho3
    refine iteB (fun _ => ?_) (fun _ => ?_)
    · refine ⟨_, rfl, .inl ⟨rfl, _, SqL.of hD4⟩, D, _, _, rfl, rfl, hD4, by rw [List.length_map]; exact szl (by omega), R0 _ _ ⟨rfl, (b03.trans b4).put2 nDH, hst.put (b03.trans b4) hst4 nDH nDp, ?_, ts ++ [200], by rw [upd_same, List.map_append]; rfl, by rw [List.length_append]; show ts.length + 1 ≤ 10; omega⟩⟩
      rw [upd_ne noD]
      exact ho4
    · exact R0 _ _ ⟨rfl, b03.trans b4, hst4, ho4, ts, hD4, by omega⟩
  rintro σ H5 ⟨rfl, b5, hst5, ho5, ts, hD5, htl⟩
  refine ⟨201, rfl, by decide, by decide, for_range (lo := 0) (n := 201) (fun i σ H' => ∃ (am : Int) (v4 : Option V) (xs : List Int), σ = [some (.ref s), some (.ref o), some (.int am), some (.ref D), v4, none] ∧ Bar p H H' ∧ Strm s p H' ∧ H' D = some (.lst (ts.map V.int)) ∧ H' o = some (.lst (xs.map V.int)) ∧ xs.length = i)
    ⟨am, none, [], rfl, b5, hst5, hD5, ho5, rfl⟩ ?_ ?_⟩
  · rintro i σ H' hi ⟨am, v4, xs, rfl, b, hs', hD, ho, hl⟩
    refine with_rest (fun σ H2 => ∃ am : Int, σ = [some (.ref s), some (.ref o), some (.int am), some (.ref D), some (.int (0 + (i : Int))), none] ∧ Bar p H H2 ∧ Strm s p H2 ∧ H2 D = some (.lst (ts.map V.int)) ∧ H2 o = some (.lst (xs.map V.int))) ?_ (fun R0 => ?_)
    · rintro σ H2 ⟨am, rfl, b2, hs2, hD2, ho2⟩
      refine ⟨_, rfl, .inl ⟨rfl, _, SqL.of ho2⟩, _, rfl, o, _, _, rfl, rfl, ho2, by rw [List.length_map]; exact szl (by omega), am, _, xs ++ [am], rfl, b2.put2 no, hst.put b2 hs2 no nop, ?_, by rw [upd_same, List.map_append]; rfl, by rw [List.length_append, hl] <;> rfl⟩
      rw [upd_ne noD.symm]
      exact hD2
    · refine ⟨_, rfl, _, rfl, D, _, rfl, .inl (SqL.of hD), rfl, flat_ints ts, _, rfl, ?_⟩
      refine iteB (fun _ => ?_) (fun _ => ?_)
      · refine ⟨_, rfl, s, p, 60, rfl, by decide, hs', fun x H3 x0 x6 b3 hs3 => ⟨_, _, rfl, rfl, ⟨by decide, by decide, by decide⟩, sz (by show 5 ≤ 100000; decide), fun l nl => ⟨_, rfl, s, p, 5, rfl, by decide, hs3.same (same_new nl), fun z H4 z0 z5 b4 hs4 => ?_⟩⟩⟩
        have nlp : l ≠ p := hs3.ne nl
        obtain ⟨v, hv⟩ := pick_i (ns := [0, 5, 6, x, (10 : Int) ^ (9 : Int).toNat]) z0 (by show z < 5; exact z5)
        exact ⟨l, _, z, _, rfl, rfl, SqL.of (b4 l _ nlp upd_same), hv, R0 _ _ ⟨v, rfl, b.trans ((b3.add nl).trans b4), hs4, b4 D _ nDp ((same_new nl) _ _ (b3 D _ nDp hD)), b4 o _ nop ((same_new nl) _ _ (b3 o _ nop ho))⟩⟩
      · exact R0 _ _ ⟨am, rfl, b, hs', hD, ho⟩
  · rintro σ H' ⟨am, v4, xs, rfl, b, hs', hD, ho, hl⟩
    exact ⟨_, rfl, q o xs H' b hs' no ho hl⟩

theorem ok_law_pairs {f : Addr} {fd : FuncData} (D_law_pairs : Dfn K mg "_law_pairs" s_law_pairs ["row"] f fd) (T : Tx mg) :
    FnOk P w K mg base CX0 (1) f fd ["row"] (sp_law_pairs K) := by
  refine D_law_pairs.F.ok sc_law_pairs (fun vs H Q E h => ?_) (fun cdv A outer s H vs Q E hr h => ?_)
  · obtain ⟨a, xs, rfl, hS, hl, q⟩ := h
    rfl
  obtain ⟨a, xs, rfl, hS, hl, q⟩ := h
  refine ⟨_, (pss_one (ps_ret (pe_lc (own := [("k", 1)]) (g := (gName 1)) rfl sc_law_pairs.nd (pi_range1 (by rfl) T.range (pa_cons pe_int pa_nil)) (blkOk_by (own := [("k", 1)]) (N := (["row", "k"] : List Str)) (sc := defScope s_law_pairs) (by decide +kernel)) (fun _ _ _ _ _ => (pg_name (i := 1) sc_law_pairs.nd rfl (by first | exact Or.inl rfl | exact Or.inr rfl))) (fun _ _ _ _ _ => (pts_one (pt_cmpR op_ne (pe_ix (r := rIxL K) ix_list (pv 0) (pv 1) (fun _ _ => rfl)) (pe_ix (r := rIxL K) ix_list (pe_op op_cat (pe_lst (pa_cons pe_int pa_nil)) (pv 0)) (pv 1) (fun _ _ => rfl)) (nomark _)))) (fun _ _ _ _ _ => (pe_tup (pa_cons (pv 1) (pa_cons (pe_ix (r := rIxL K) ix_list (pv 0) (pv 1) (fun _ _ => rfl)) pa_nil))))))), ?_⟩
  refine ⟨201, rfl, by decide, by decide, fun D nD => lc_range (lo := 0) (n := 201) (fun i H' => Same H H' ∧ ∃ (ys : List V) (ps1 : List (Int × Int)) (b : Int), (0 :: xs)[i]? = some b ∧ H' D = some (.lst ys) ∧ ys.length ≤ i ∧ PrsAt K H' ys ps1 ∧ pk 0 (enm 0 xs) = ps1 ++ pk b ((enm 0 xs).drop i)) ⟨same_new nD, [], [], 0, rfl, upd_same, Nat.zero_le _, AllAt.nil, rfl⟩ ?_ ?_⟩
  · rintro i H' hi ⟨sm, ys, ps1, b, hb, hD, hyl, hA, hp⟩
    have ha := sm _ _ hS
    obtain ⟨x, hx⟩ : ∃ x, xs[i]? = some x := ⟨_, List.getElem?_eq_getElem (by omega)⟩
    have hi2 : atI (xs.map V.int) ((0 : Int) + (i : Int)) = some (.int x) := by
      rw [Int.zero_add]
      exact atI_nat (at_map hx)
    have hb2 : atI ((0 :: xs).map V.int) ((0 : Int) + (i : Int)) = some (.int b) := by
      rw [Int.zero_add]
      exact atI_nat (at_map hb)
    have he : (enm 0 xs)[i]? = some ((i : Int), x) := by
      rw [enm_get, hx]
      show some ((0 : Int) + (i : Int), x) = _
      rw [Int.zero_add]
    rw [pk_step he] at hp
    refine ⟨rfl, ?_⟩
    refine ⟨_, rfl, _, rfl, a, _, _, _, rfl, rfl, SqL.of ha, hi2, sz (by show 1 ≤ 100000; decide), fun l nl => ⟨_, rfl, l, a, _, _, rfl, rfl, upd_same, (same_new nl) _ _ ha, sz (by rw [List.length_map, hl]; show 1 + 201 ≤ 100000; decide), fun w nw => ?_⟩⟩
    have s2 : Same H' (upd (upd H' l (.lst [.int 0])) w (.lst ([.int 0] ++ xs.map V.int))) := same_add (same_new nl) nw
    obtain ⟨H2, e2⟩ : ∃ H2, upd (upd H' l (.lst [.int 0])) w (.lst ([.int 0] ++ xs.map V.int)) = H2 := ⟨_, rfl⟩
    have hw2 : H2 w = some (.lst ((0 :: xs).map V.int)) := by
      rw [← e2]
      exact upd_same
    rw [e2] at s2 ⊢
    have hD2 := s2 _ _ hD
    refine ⟨_, rfl, w, _, _, _, rfl, rfl, SqL.of hw2, hb2, rfl, _, rfl, ?_⟩
    by_cases c : x = b
    · rw [if_pos c] at hp
      rw [show (!decide (V.int x = V.int b)) = false by rw [c, decide_eq_true rfl]; rfl]
      exact iteF ⟨sm.trans s2, ys, ps1, b, by rw [← c]; exact hx, hD2, by omega, PrsAt.same s2 hA, hp⟩
    · rw [if_neg c] at hp
      rw [show (!decide (V.int x = V.int b)) = true by rw [decide_eq_false (fun e => c (V.int.inj e))]; rfl]
      refine iteT ⟨_, rfl, _, rfl, _, rfl, a, _, _, _, rfl, rfl, SqL.of (s2 _ _ ha), hi2, sz (by show 2 ≤ 100000; decide), fun t nt => ?_⟩
      have s3 : Same H2 (upd H2 t (.tup [.int ((0 : Int) + (i : Int)), .int x])) := same_new nt
      refine ⟨ys, s3 _ _ hD2, szl (by omega), same_put ((sm.trans s2).trans s3) nD, ys ++ [.ref t], ps1 ++ [((i : Int), x)], x, hx, upd_same, by rw [List.length_append]; show ys.length + 1 ≤ _; omega, ?_, by rw [hp, List.append_assoc]; rfl⟩
      refine AllAt.imp (S := PrAt K) (AllAt.add (PrsAt.same (s2.trans s3) hA) (⟨t, rfl, SqT.of (by rw [upd_same, Int.zero_add])⟩ : PrAt K _ (.ref t) ((i : Int), x))) fun y l r => ?_
      obtain ⟨t3, rfl, h3⟩ := r
      exact ⟨t3, rfl, sqt_put (s3 _ _ hD2) h3⟩
  · rintro H' ⟨sm, ys, ps1, b, hb, hD, hyl, hA, hp⟩
    rw [List.drop_eq_nil_of_le (by rw [enm_len, hl]; exact Nat.le_refl _)] at hp
    have hp : pk 0 (enm 0 xs) = ps1 := hp.trans (List.append_nil _)
    rw [← hp] at hA
    exact q D ys H' sm hD hA

theorem ok_law {f : Addr} {fd : FuncData} (D_law : Dfn K mg "law" s_law ["script"] f fd) (T : Tx mg) {f_law_stream : Addr} {fd_law_stream : FuncData} (D_law_stream : Dfn K mg "_law_stream" s_law_stream ["script", "first", "count"] f_law_stream fd_law_stream) (G_law_stream : FnOk P w K mg base CX0 (2) f_law_stream fd_law_stream ["script", "first", "count"] (sp_law_stream K)) {f_law_row : Addr} {fd_law_row : FuncData} (D_law_row : Dfn K mg "_law_row" s_law_row ["stream"] f_law_row fd_law_row) (G_law_row : FnOk P w K mg base CX0 (2) f_law_row fd_law_row ["stream"] (sp_law_row K)) {f_law_next : Addr} {fd_law_next : FuncData} (D_law_next : Dfn K mg "_law_next" s_law_next ["stream", "many"] f_law_next fd_law_next) (G_law_next : FnOk P w K mg base CX0 (1) f_law_next fd_law_next ["stream", "many"] (sp_law_next K)) {f_law_pairs : Addr} {fd_law_pairs : FuncData} (D_law_pairs : Dfn K mg "_law_pairs" s_law_pairs ["row"] f_law_pairs fd_law_pairs) (G_law_pairs : FnOk P w K mg base CX0 (1) f_law_pairs fd_law_pairs ["row"] (sp_law_pairs K)) {f_law_same : Addr} {fd_law_same : FuncData} (D_law_same : Dfn K mg "_law_same" s_law_same ["actual", "expected"] f_law_same fd_law_same) (G_law_same : FnOk P w K mg base CX0 (9) f_law_same fd_law_same ["actual", "expected"] (sp_law_same K 8)) {f_schedule_of : Addr} {fd_schedule_of : FuncData} (D_schedule_of : Dfn K mg "schedule_of" s_schedule_of ["amounts"] f_schedule_of fd_schedule_of) (G_schedule_of : FnOk P w K mg base CX0 (2) f_schedule_of fd_schedule_of ["amounts"] (sp_schedule_of K)) {f_amounts_of : Addr} {fd_amounts_of : FuncData} (D_amounts_of : Dfn K mg "amounts_of" s_amounts_of ["schedule"] f_amounts_of fd_amounts_of) (G_amounts_of : FnOk P w K mg base CX0 (2) f_amounts_of fd_amounts_of ["schedule"] (sp_amounts_of K)) {f_amount_at : Addr} {fd_amount_at : FuncData} (D_amount_at : Dfn K mg "amount_at" s_amount_at ["schedule", "number"] f_amount_at fd_amount_at) (G_amount_at : FnOk P w K mg base CX0 (1) f_amount_at fd_amount_at ["schedule", "number"] (sp_amount_at K)) :
    FnOk P w K mg base CX0 (10) f fd ["script"] (sp_law K) := by
  refine D_law.F.ok sc_law (fun vs H Q E h => ?_) (fun cdv A outer s H vs Q E hr h => ?_)
  · obtain ⟨a, ns, rfl, hS, h63, q⟩ := h
    rfl
  obtain ⟨a, ns, rfl, hS, h63, q⟩ := h
  refine ⟨_, (pss_cons (ps_set (i := 1) sc_law.nd rfl (by first | exact Or.inl rfl | exact Or.inr rfl) (pe_call G_law_stream (hr.mono (by first | decide | omega)) rfl D_law_stream.m D_law_stream.F.kp D_law_stream.b .nil pass0 (pa_cons (pv 0) (pa_cons pe_int (pa_cons pe_int pa_nil)))))
      (pss_cons (ps_set (i := 2) sc_law.nd rfl (by first | exact Or.inl rfl | exact Or.inr rfl) (pe_lst (pa_cons (pe_call G_law_row (hr.mono (by first | decide | omega)) rfl D_law_row.m D_law_row.F.kp D_law_row.b .nil pass0 (pa_cons (pv 1) pa_nil)) (pa_cons (pe_call G_law_row (hr.mono (by first | decide | omega)) rfl D_law_row.m D_law_row.F.kp D_law_row.b .nil pass0 (pa_cons (pv 1) pa_nil)) (pa_cons (pe_lc (own := [("number", 5)]) (g := (gName 5)) (tt := tYes) rfl sc_law.nd (pi_range1 (by rfl) T.range (pa_cons pe_int pa_nil)) (blkOk_by (own := [("number", 5)]) (N := (["script", "stream", "rows", "row", "due", "number", "other"] : List Str)) (sc := defScope s_law) (by decide +kernel)) (fun _ _ _ _ _ => (pg_name (i := 5) sc_law.nd rfl (by first | exact Or.inl rfl | exact Or.inr rfl))) (fun _ _ _ _ _ => pts_nil) (fun _ _ _ _ _ => pe_int)) pa_nil)))))
      (pss_cons (ps_expr (pe_bm PySem.F.plainAttrs_list PySem.F.slot_list_append PySem.F.type_list_append mt_append (pv 2) (pa_cons (pe_op op_cat (pe_slice sl_list (pe_ix (r := rIxL K) ix_list (pv 2) pe_int (fun _ _ => rfl)) po_none (po_some pe_int)) (pe_lst (pa_cons (pe_op op_add (pe_ix (r := rIxL K) ix_list (pe_ix (r := rIxL K) ix_list (pv 2) pe_int (fun _ _ => rfl)) pe_int (fun _ _ => rfl)) (pe_call G_law_next (hr.mono (by first | decide | omega)) rfl D_law_next.m D_law_next.F.kp D_law_next.b .nil pass0 (pa_cons (pv 1) (pa_cons pe_int pa_nil)))) pa_nil))) pa_nil)))
      (pss_cons (ps_for PassesOwn.never rfl (pi_list (pv 2)) (pg_name (i := 3) sc_law.nd rfl (by first | exact Or.inl rfl | exact Or.inr rfl))
      (pss_cons (ps_set (i := 4) sc_law.nd rfl (by first | exact Or.inl rfl | exact Or.inr rfl) (pe_callTy call_tuple_of (by rfl) T.tuple (by decide +kernel) (pa_cons (pe_call G_law_pairs (hr.mono (by first | decide | omega)) rfl D_law_pairs.m D_law_pairs.F.kp D_law_pairs.b .nil pass0 (pa_cons (pv 3) pa_nil)) pa_nil)))
      (pss_cons (ps_if (pt_not (pt_val (pe_call G_law_same (hr.mono (by first | decide | omega)) rfl D_law_same.m D_law_same.F.kp D_law_same.b .nil pass0 (pa_cons (pe_call G_schedule_of (hr.mono (by first | decide | omega)) rfl D_schedule_of.m D_schedule_of.F.kp D_schedule_of.b .nil pass0 (pa_cons (pe_callTy call_tuple_of (by rfl) T.tuple (by decide +kernel) (pa_cons (pv 3) pa_nil)) pa_nil)) (pa_cons (pv 4) pa_nil)))))
      (pss_one (ps_ret pe_bl))
      pss_nil)
      (pss_cons (ps_if (PW.pt (pw_or (pt_not (pt_val (pe_call G_law_same (hr.mono (by first | decide | omega)) rfl D_law_same.m D_law_same.F.kp D_law_same.b .nil pass0 (pa_cons (pe_call G_amounts_of (hr.mono (by first | decide | omega)) rfl D_amounts_of.m D_amounts_of.F.kp D_amounts_of.b .nil pass0 (pa_cons (pv 4) pa_nil)) (pa_cons (pe_callTy call_tuple_of (by rfl) T.tuple (by decide +kernel) (pa_cons (pv 3) pa_nil)) pa_nil))))) (pw_or1 (pt_not (pt_val (pe_call G_law_same (hr.mono (by first | decide | omega)) rfl D_law_same.m D_law_same.F.kp D_law_same.b .nil pass0 (pa_cons (pe_call G_schedule_of (hr.mono (by first | decide | omega)) rfl D_schedule_of.m D_schedule_of.F.kp D_schedule_of.b .nil pass0 (pa_cons (pe_call G_amounts_of (hr.mono (by first | decide | omega)) rfl D_amounts_of.m D_amounts_of.F.kp D_amounts_of.b .nil pass0 (pa_cons (pv 4) pa_nil)) pa_nil)) (pa_cons (pv 4) pa_nil))))))))
      (pss_one (ps_ret pe_bl))
      pss_nil)
      (pss_cons (ps_for PassesOwn.never rfl (pi_range1 (by rfl) T.range (pa_cons pe_int pa_nil)) (pg_name (i := 5) sc_law.nd rfl (by first | exact Or.inl rfl | exact Or.inr rfl))
      (pss_one (ps_if (pt_not (pt_val (pe_call G_law_same (hr.mono (by first | decide | omega)) rfl D_law_same.m D_law_same.F.kp D_law_same.b .nil pass0 (pa_cons (pe_call G_amount_at (hr.mono (by first | decide | omega)) rfl D_amount_at.m D_amount_at.F.kp D_amount_at.b .nil pass0 (pa_cons (pv 4) (pa_cons (pv 5) pa_nil))) (pa_cons (pe_ix (r := rIxL K) ix_list (pv 3) (pv 5) (fun _ _ => rfl)) pa_nil)))))
      (pss_one (ps_ret pe_bl))
      pss_nil)))
      (pss_one (ps_for PassesOwn.never rfl (pi_list (pv 2)) (pg_name (i := 6) sc_law.nd rfl (by first | exact Or.inl rfl | exact Or.inr rfl))
      (pss_one (ps_if (pt_cmpR op_ne (pe_cmpR (op_eqD hr.units) (pe_call G_schedule_of (hr.mono (by first | decide | omega)) rfl D_schedule_of.m D_schedule_of.F.kp D_schedule_of.b .nil pass0 (pa_cons (pe_callTy call_tuple_of (by rfl) T.tuple (by decide +kernel) (pa_cons (pv 6) pa_nil)) pa_nil)) (pv 4) (nomark _)) (pe_cmpR (op_eqD hr.units) (pv 6) (pv 3) (nomark _)) (nomark _))
      (pss_one (ps_ret pe_bl))
      pss_nil)))))))))
      (pss_one (ps_ret pe_bl)))))), ?_⟩
  refine ⟨_, rfl, a, ns, 0, 12, rfl, hS, by decide, by decide, fun s p H1 sm1 np hst => ?_⟩
  -- the rows
  refine ⟨_, rfl, s, p, rfl, hst, fun o1 x1 H2 b2 hst2 n1 h1 l1 => ⟨_, rfl, s, p, rfl, hst2, fun o2 x2 H3 b3 hst3 n2 h2 l2 => ⟨201, rfl, by decide, by decide, fun D nD => ?_⟩⟩⟩
  have n1p : o1 ≠ p := hst.ne n1
  have n2p : o2 ≠ p := hst2.ne n2
  have h13 := b3 o1 _ n1p h1
  have nDp : D ≠ p := hst3.ne nD
  refine lc_range (lo := 0) (n := 201) (fun i H' => Same H3 H' ∧ H' D = some (.lst ((List.replicate i (0 : Int)).map V.int))) ⟨same_new nD, upd_same⟩ ?_ ?_
  · rintro i H' hi ⟨sm, hD⟩
    refine ⟨rfl, _, hD, by rw [List.length_map, List.length_replicate]; exact szl (by omega), same_put sm nD, ?_⟩
    rw [upd_same, List.replicate_succ', List.map_append]
    rfl
  rintro H4 ⟨s4, hD⟩
  refine ⟨sz (by show 3 ≤ 100000; decide), fun R nR => ?_⟩
  have s45 : Same H4 (upd H4 R (.lst [.ref o1, .ref o2, .ref D])) := same_new nR
  have hR5 : upd H4 R (.lst [.ref o1, .ref o2, .ref D]) R = some (.lst [.ref o1, .ref o2, .ref D]) := upd_same
  obtain ⟨H5, e5⟩ : ∃ H5, upd H4 R (.lst [.ref o1, .ref o2, .ref D]) = H5 := ⟨_, rfl⟩
  rw [e5] at s45 hR5 ⊢
  clear e5
  have s35 := s4.trans s45
  have hst5 : Strm s p H5 := hst3.same s35
  have h15 := s35 _ _ h13
  have h25 := s35 _ _ h2
  have hD5 := s45 _ _ hD
  obtain ⟨c, hc⟩ : ∃ c, x1[200]? = some c := ⟨_, List.getElem?_eq_getElem (by omega)⟩
  dsimp only
  refine nx_to ?_
  generalize hw : List.set _ _ _ = w0
  have ew : w0 = [some (.ref a), some (.ref s), some (.ref R), none, none, none, none] := by
    rw [← hw]
    kernel_rfl
  clear hw
  subst ew
  have nRp : R ≠ p := hst3.ne (s4.free nR)
  refine ⟨_, rfl, .inl ⟨rfl, _, SqL.of hR5⟩, _, rfl, R, _, 0, .ref o1, rfl, rfl, SqL.of hR5, rfl, _, rfl, o1, _, rfl, SqL.of h15, fun c1 nc1 => ?_⟩
  have s6 : Same H5 (upd H5 c1 (.lst (cutV (x1.map V.int) none (some 200)))) := same_new nc1
  have hc6 : upd H5 c1 (.lst (cutV (x1.map V.int) none (some 200))) c1 = some (.lst ((x1.take 200).map V.int)) := by
    rw [upd_same, List.map_take]
    exact congrArg (fun z => some (HO.lst z)) (cut_to _ 200)
  have hst6 := hst5.same s6
  have n1c : c1 ≠ p := hst5.ne nc1
  obtain ⟨H6, e6⟩ : ∃ H6, upd H5 c1 (.lst (cutV (x1.map V.int) none (some 200))) = H6 := ⟨_, rfl⟩
  rw [e6] at s6 hc6 hst6 ⊢
  clear e6
  refine ⟨_, rfl, R, _, 0, .ref o1, rfl, rfl, SqL.of (s6 _ _ hR5), rfl, o1, _, 200, .int c, rfl, rfl, SqL.of (s6 _ _ h15), atI_nat (at_map hc), _, rfl, s, p, 2, rfl, by decide, hst6, fun z H7 z0 z2 b7 hst7 => ⟨_, _, rfl, rfl, sz (by show 1 ≤ 100000; decide), fun g ng => ?_⟩⟩
  have t1 : (x1.take 200).length = 200 := by rw [List.length_take]; omega
  have hg : upd H7 g (.lst [.int (c + z)]) c1 = some (.lst ((x1.take 200).map V.int)) := (same_new ng) _ _ (b7 c1 _ n1c hc6)
  refine ⟨c1, g, _, _, rfl, rfl, hg, upd_same, sz (by rw [List.length_map, t1]; exact (show 200 + 1 ≤ 100000 by decide)), fun w nw => ?_⟩
  have k7 : ∀ {o : Addr} {u : HO}, o ≠ p → H5 o = some u → (upd (upd H7 g (.lst [.int (c + z)])) w (.lst ((x1.take 200).map V.int ++ [V.int (c + z)]))) o = some u := fun n h => (same_new nw) _ _ ((same_new ng) _ _ (b7 _ _ n (s6 _ _ h)))
  have hR7 := k7 nRp hR5
  refine ⟨R, _, _, rfl, rfl, hR7, szl (by show 3 < 100000; decide), ?_⟩
  have nwR : R ≠ w := ne_of_none (((same_new ng) _ _ (b7 _ _ nRp (s6 _ _ hR5)))) nw
  obtain ⟨H8, e8⟩ : ∃ H8, upd (upd (upd H7 g (.lst [.int (c + z)])) w (.lst ((x1.take 200).map V.int ++ [V.int (c + z)]))) R (.lst ([.ref o1, .ref o2, .ref D] ++ [.ref w])) = H8 := ⟨_, rfl⟩
  have hR8 : H8 R = some (.lst [.ref o1, .ref o2, .ref D, .ref w]) := by
    rw [← e8]
    exact upd_same
  have nR4 : H4 R = none := nR
  have n1R : o1 ≠ R := ne_of_none (s4 _ _ h13) nR4
  have n2R : o2 ≠ R := ne_of_none (s4 _ _ h2) nR4
  have nDR : D ≠ R := ne_of_none hD nR4
  have g1 : H8 o1 = some (.lst (x1.map V.int)) := by
    rw [← e8, upd_ne n1R]
    exact k7 n1p h15
  have g2 : H8 o2 = some (.lst (x2.map V.int)) := by
    rw [← e8, upd_ne n2R]
    exact k7 n2p h25
  have g3 : H8 D = some (.lst ((List.replicate 201 (0 : Int)).map V.int)) := by
    rw [← e8, upd_ne nDR]
    exact k7 nDp hD5
  have g4 : H8 w = some (.lst ((x1.take 200 ++ [c + z]).map V.int)) := by
    rw [← e8, upd_ne nwR.symm, upd_same, List.map_append]
    rfl
  have rows : ∀ {i : Nat} {v : V}, ([.ref o1, .ref o2, .ref D, .ref w] : List V)[i]? = some v → ∃ (o : Addr) (xs : List Int), v = .ref o ∧ xs.length = 201 ∧ H8 o = some (.lst (xs.map V.int)) := fun {i v} h => by
    match i, h with
    | 0, h => exact ⟨o1, x1, (Option.some.inj h).symm, l1, g1⟩
    | 1, h => exact ⟨o2, x2, (Option.some.inj h).symm, l2, g2⟩
    | 2, h => exact ⟨D, _, (Option.some.inj h).symm, by rw [List.length_replicate], g3⟩
    | 3, h => exact ⟨w, _, (Option.some.inj h).symm, by rw [List.length_append, t1] <;> rfl, g4⟩
    | n + 4, h => simp at h
  rw [e8]
  clear e8 g1 g2 g3 g4 k7 hR7 hg hc6 hst7 b7 nwR n1R n2R nDR
  dsimp only
  refine ⟨_, rfl, R, rfl, ⟨_, SqL.of hR8⟩, for_list (K := K) (a := R) (xs := [.ref o1, .ref o2, .ref D, .ref w]) (fun i σ H' => ∃ v3 v4 v5 v6 : Option V, σ = [some (.ref a), some (.ref s), some (.ref R), v3, v4, v5, v6] ∧ Same H8 H') ⟨none, none, none, none, rfl, Same.refl _⟩ (fun i σ H' _ ⟨_, _, _, _, _, e⟩ => SqL.of (e _ _ hR8)) ?_ ?_⟩
  · rintro i y σ H' hi ⟨v3, v4, v5, v6, rfl, sm⟩
    obtain ⟨o, xs, rfl, hl, ho8⟩ := rows hi
    have ho := sm _ _ ho8
    have plen : (pk 0 (enm 0 xs)).length ≤ 5000 := Nat.le_trans (pk_len _ _) (by rw [enm_len, hl]; decide)
    refine ⟨_, rfl, o, xs, rfl, ho, hl, fun p1 ys Ha sa hp1 hA => ⟨p1, ys, rfl, .inl ⟨SqL.of hp1, fun d nd => ?_⟩⟩⟩
    have sb := same_add (o := .tup ys) sa nd
    have hd : SchAt K (upd Ha d (.tup ys)) d (pk 0 (enm 0 xs)) := ⟨ys, SqT.of upd_same, PrsAt.same (same_new nd) hA⟩
    obtain ⟨Hb, eb⟩ : ∃ Hb, upd Ha d (.tup ys) = Hb := ⟨_, rfl⟩
    rw [eb] at sb hd ⊢
    clear eb
    dsimp only
    -- the schedule of the row
    refine ⟨_, rfl, o, _, rfl, .inl ⟨SqL.of (sb _ _ ho), fun t nt => ⟨t, xs, rfl, SqT.of upd_same, by omega, fun p2 Hc sc hs2 => ?_⟩⟩⟩
    have s3 := (same_new (o := .tup (xs.map V.int)) nt).trans sc
    refine ⟨_, rfl, _, _, _, rfl, ok_sch plen, dp_sch hs2, dp_sch (SchAt.same s3 hd), _, rfl, iteF ?_⟩
    -- its amounts
    refine ⟨_, rfl, d, _, rfl, SchAt.same s3 hd, fun t3 Hd s4 h4 => ?_⟩
    rw [amts_pk hl] at h4
    have s04 := sb.trans (s3.trans s4)
    refine ⟨_, rfl, o, _, rfl, .inl ⟨SqL.of (s04 _ _ ho), fun t4 nt4 => ?_⟩⟩
    have s45 := same_new (o := .tup (xs.map V.int)) nt4
    refine ⟨_, _, .tuple (xs.map PyData.int), rfl, ok_tup (n := 6) (by omega), dp_tup (SqT.of (s45 _ _ h4)), dp_tup (SqT.of upd_same), _, rfl, iteF ?_⟩
    have s35 := (s3.trans s4).trans s45
    refine ⟨_, rfl, d, _, rfl, SchAt.same s35 hd, fun t5 He s5 h5 => ?_⟩
    rw [amts_pk hl] at h5
    refine ⟨t5, xs, rfl, SqT.of h5, by omega, fun p3 Hf s6 hs3 => ?_⟩
    have s36 := (s35.trans s5).trans s6
    refine ⟨_, rfl, _, _, _, rfl, ok_sch plen, dp_sch hs3, dp_sch (SchAt.same s36 hd), _, rfl, iteF ?_⟩
    -- amount by amount
    have s06 := sb.trans s36
    have hdf := SchAt.same s36 hd
    have hof := s06 _ _ ho
    have s8f := sm.trans s06
    dsimp only
    refine seq_to ⟨201, rfl, by decide, by decide, for_range (lo := 0) (n := 201) (fun i σ H2 => ∃ v5 : Option V, σ = [some (.ref a), some (.ref s), some (.ref R), some (.ref o), some (.ref d), v5, v6] ∧ Hf = H2) ⟨v5, rfl, rfl⟩ ?_ ?_⟩
    · rintro i σ H2 hi ⟨v5, rfl, rfl⟩
      obtain ⟨x, hx⟩ : ∃ x, xs[i]? = some x := ⟨_, List.getElem?_eq_getElem (by omega)⟩
      have hat : atI (xs.map V.int) ((0 : Int) + (i : Int)) = some (.int x) := by
        rw [Int.zero_add]
        exact atI_nat (at_map hx)
      have hM := atM_at xs 0 0 i x hx
      refine ⟨_, rfl, _, rfl, d, _, _, rfl, hdf, ?_⟩
      rw [hM]
      exact ⟨_, rfl, _, rfl, o, _, _, _, rfl, rfl, SqL.of hof, hat, _, _, .int x, rfl, rfl, .int x, .int x, _, rfl, iteF ⟨_, rfl, rfl⟩⟩
    rintro σ H2 ⟨v5, rfl, rfl⟩
    dsimp only
    refine ⟨_, rfl, R, rfl, ⟨_, SqL.of (s8f _ _ hR8)⟩, for_list (K := K) (a := R) (xs := [.ref o1, .ref o2, .ref D, .ref w]) (fun i σ H2 => ∃ v6 : Option V, σ = [some (.ref a), some (.ref s), some (.ref R), some (.ref o), some (.ref d), v5, v6] ∧ Same Hf H2) ⟨v6, rfl, Same.refl _⟩ (fun i σ H' _ ⟨_, _, e⟩ => SqL.of (e _ _ (s8f _ _ hR8))) ?_ ?_⟩
    · rintro j y σ H2 hj ⟨v6, rfl, sg⟩
      obtain ⟨o', xs', rfl, hl', ho'⟩ := rows hj
      have ho2 := (s8f.trans sg) _ _ ho'
      refine ⟨_, rfl, o', _, rfl, .inl ⟨SqL.of ho2, fun t nt => ⟨t, xs', rfl, SqT.of upd_same, by omega, fun p2 Hc sc hs2 => ?_⟩⟩⟩
      have s3 := (same_new (o := .tup (xs'.map V.int)) nt).trans sc
      refine ⟨_, rfl, _, _, dp_sch hs2, dp_sch (SchAt.same (sg.trans s3) hdf), shaped_sch _, shaped_sch _, _, rfl, _, rfl, _, _, dp_lst (SqL.of (s3 _ _ ho2)), dp_lst (SqL.of ((sg.trans s3) _ _ hof)), PySem.W.ke_shaped_ints _, PySem.W.ke_shaped_ints _, rfl, _, rfl, ?_⟩
      rw [eqv_sch, eqv_lst, pk_inj hl' hl, decide_eq_true rfl]
      exact iteF ⟨_, rfl, sg.trans s3⟩
    · rintro σ H2 ⟨v6, rfl, sg⟩
      exact ⟨_, _, _, _, rfl, s8f.trans sg⟩
  · rintro σ H' ⟨v3, v4, v5, v6, rfl, sm⟩
    exact q _

theorem same_all {f : Addr} {fd : FuncData} (D_law_same : Dfn K mg "_law_same" s_law_same ["actual", "expected"] f fd) (T : Tx mg) {f_law_is_integer : Addr} {fd_law_is_integer : FuncData} (D_law_is_integer : Dfn K mg "_law_is_integer" s_law_is_integer ["actual"] f_law_is_integer fd_law_is_integer)
    (G_law_is_integer : FnOk P w K mg base CX0 1 f_law_is_integer fd_law_is_integer ["actual"] (sp_law_is_integer K)) : ∀ n : Nat, FnOk P w K mg base CX0 (n + 1) f fd ["actual", "expected"] (sp_law_same K n)
  | 0 => by
    have no : ∀ vs H Q E, ¬ sp_law_same K 0 vs H Q E := fun vs H Q E h => by
      obtain ⟨x, y, d, _, h1, _⟩ := h
      simp [dOk] at h1
    exact ⟨fun vs H Q E h => absurd h (no vs H Q E), fun A outer s H args us vs Q E _ _ _ _ h => absurd h (no vs H Q E)⟩
  | n + 1 => ok_law_same D_law_same T D_law_is_integer G_law_is_integer (same_all D_law_same T D_law_is_integer G_law_is_integer n)
end
end Sd
/-! ### the end -/
namespace Sd
open PySem PySem.Spec PyProof.Rows L2
theorem all_mk {l : PySem.W.OpenLaw} {w : World} {K : PySem.W.Frag} {h : Heap} {mg : Str → Option Value} {fa f1 f2 f3 f4 f5 f6 f7 f8 f9 f10 f11 f12 f13  : Addr} (X : K.In h) (G : h.Ns mainGlobals mg) (hfa : mg "law" = some (.ref fa))
    {od1 an1 : Option Addr} {sl1 : Array (Option Value)} {oc1 kV1 dc1 pm1 cd1 ct1 : Value}
    {od2 an2 : Option Addr} {sl2 : Array (Option Value)} {oc2 kV2 dc2 pm2 cd2 ct2 : Value}
    {od3 an3 : Option Addr} {sl3 : Array (Option Value)} {oc3 kV3 dc3 pm3 cd3 ct3 : Value}
    {od4 an4 : Option Addr} {sl4 : Array (Option Value)} {oc4 kV4 dc4 pm4 cd4 ct4 : Value}
    {od5 an5 : Option Addr} {sl5 : Array (Option Value)} {oc5 kV5 dc5 pm5 cd5 ct5 : Value}
    {od6 an6 : Option Addr} {sl6 : Array (Option Value)} {oc6 kV6 dc6 pm6 cd6 ct6 : Value}
    {od7 an7 : Option Addr} {sl7 : Array (Option Value)} {oc7 kV7 dc7 pm7 cd7 ct7 : Value}
    {od8 an8 : Option Addr} {sl8 : Array (Option Value)} {oc8 kV8 dc8 pm8 cd8 ct8 : Value}
    {od9 an9 : Option Addr} {sl9 : Array (Option Value)} {oc9 kV9 dc9 pm9 cd9 ct9 : Value}
    {od10 an10 : Option Addr} {sl10 : Array (Option Value)} {oc10 kV10 dc10 pm10 cd10 ct10 : Value}
    {od11 an11 : Option Addr} {sl11 : Array (Option Value)} {oc11 kV11 dc11 pm11 cd11 ct11 : Value}
    {od12 an12 : Option Addr} {sl12 : Array (Option Value)} {oc12 kV12 dc12 pm12 cd12 ct12 : Value}
    {od13 an13 : Option Addr} {sl13 : Array (Option Value)} {oc13 kV13 dc13 pm13 cd13 ct13 : Value}
    (a1 : PySem.W.nsIn K mainGlobals "packed" = some (some (.ref f1))) (l1 : K.lookup f1 = some ⟨oc1, od1, .func (PySem.W.fnOf "packed" "packed" (defArgs s_packed) (defBody s_packed) (defScope s_packed) .none kV1 dc1 pm1 an1 cd1 ct1), sl1⟩) (c1 : PySem.W.codeIn K cd1 "packed" = true) (k1 : PySem.W.keepIn K (.ref f1) = true)
    (a2 : PySem.W.nsIn K mainGlobals "schedule_of" = some (some (.ref f2))) (l2 : K.lookup f2 = some ⟨oc2, od2, .func (PySem.W.fnOf "schedule_of" "schedule_of" (defArgs s_schedule_of) (defBody s_schedule_of) (defScope s_schedule_of) .none kV2 dc2 pm2 an2 cd2 ct2), sl2⟩) (c2 : PySem.W.codeIn K cd2 "schedule_of" = true) (k2 : PySem.W.keepIn K (.ref f2) = true)
    (a3 : PySem.W.nsIn K mainGlobals "amount_at" = some (some (.ref f3))) (l3 : K.lookup f3 = some ⟨oc3, od3, .func (PySem.W.fnOf "amount_at" "amount_at" (defArgs s_amount_at) (defBody s_amount_at) (defScope s_amount_at) .none kV3 dc3 pm3 an3 cd3 ct3), sl3⟩) (c3 : PySem.W.codeIn K cd3 "amount_at" = true) (k3 : PySem.W.keepIn K (.ref f3) = true)
    (a4 : PySem.W.nsIn K mainGlobals "amounts_of" = some (some (.ref f4))) (l4 : K.lookup f4 = some ⟨oc4, od4, .func (PySem.W.fnOf "amounts_of" "amounts_of" (defArgs s_amounts_of) (defBody s_amounts_of) (defScope s_amounts_of) .none kV4 dc4 pm4 an4 cd4 ct4), sl4⟩) (c4 : PySem.W.codeIn K cd4 "amounts_of" = true) (k4 : PySem.W.keepIn K (.ref f4) = true)
    (a5 : PySem.W.nsIn K mainGlobals "_law_cell" = some (some (.ref f5))) (l5 : K.lookup f5 = some ⟨oc5, od5, .func (PySem.W.fnOf "_law_cell" "_law_cell" (defArgs s_law_cell) (defBody s_law_cell) (defScope s_law_cell) .none kV5 dc5 pm5 an5 cd5 ct5), sl5⟩) (c5 : PySem.W.codeIn K cd5 "_law_cell" = true) (k5 : PySem.W.keepIn K (.ref f5) = true)
    (a6 : PySem.W.nsIn K mainGlobals "_law_draws" = some (some (.ref f6))) (l6 : K.lookup f6 = some ⟨oc6, od6, .func (PySem.W.fnOf "_law_draws" "_law_draws" (defArgs s_law_draws) (defBody s_law_draws) (defScope s_law_draws) .none kV6 dc6 pm6 an6 cd6 ct6), sl6⟩) (c6 : PySem.W.codeIn K cd6 "_law_draws" = true) (k6 : PySem.W.keepIn K (.ref f6) = true)
    (a7 : PySem.W.nsIn K mainGlobals "_law_stream" = some (some (.ref f7))) (l7 : K.lookup f7 = some ⟨oc7, od7, .func (PySem.W.fnOf "_law_stream" "_law_stream" (defArgs s_law_stream) (defBody s_law_stream) (defScope s_law_stream) .none kV7 dc7 pm7 an7 cd7 ct7), sl7⟩) (c7 : PySem.W.codeIn K cd7 "_law_stream" = true) (k7 : PySem.W.keepIn K (.ref f7) = true)
    (a8 : PySem.W.nsIn K mainGlobals "_law_next" = some (some (.ref f8))) (l8 : K.lookup f8 = some ⟨oc8, od8, .func (PySem.W.fnOf "_law_next" "_law_next" (defArgs s_law_next) (defBody s_law_next) (defScope s_law_next) .none kV8 dc8 pm8 an8 cd8 ct8), sl8⟩) (c8 : PySem.W.codeIn K cd8 "_law_next" = true) (k8 : PySem.W.keepIn K (.ref f8) = true)
    (a9 : PySem.W.nsIn K mainGlobals "_law_is_integer" = some (some (.ref f9))) (l9 : K.lookup f9 = some ⟨oc9, od9, .func (PySem.W.fnOf "_law_is_integer" "_law_is_integer" (defArgs s_law_is_integer) (defBody s_law_is_integer) (defScope s_law_is_integer) .none kV9 dc9 pm9 an9 cd9 ct9), sl9⟩) (c9 : PySem.W.codeIn K cd9 "_law_is_integer" = true) (k9 : PySem.W.keepIn K (.ref f9) = true)
    (a10 : PySem.W.nsIn K mainGlobals "_law_same" = some (some (.ref f10))) (l10 : K.lookup f10 = some ⟨oc10, od10, .func (PySem.W.fnOf "_law_same" "_law_same" (defArgs s_law_same) (defBody s_law_same) (defScope s_law_same) .none kV10 dc10 pm10 an10 cd10 ct10), sl10⟩) (c10 : PySem.W.codeIn K cd10 "_law_same" = true) (k10 : PySem.W.keepIn K (.ref f10) = true)
    (a11 : PySem.W.nsIn K mainGlobals "_law_row" = some (some (.ref f11))) (l11 : K.lookup f11 = some ⟨oc11, od11, .func (PySem.W.fnOf "_law_row" "_law_row" (defArgs s_law_row) (defBody s_law_row) (defScope s_law_row) .none kV11 dc11 pm11 an11 cd11 ct11), sl11⟩) (c11 : PySem.W.codeIn K cd11 "_law_row" = true) (k11 : PySem.W.keepIn K (.ref f11) = true)
    (a12 : PySem.W.nsIn K mainGlobals "_law_pairs" = some (some (.ref f12))) (l12 : K.lookup f12 = some ⟨oc12, od12, .func (PySem.W.fnOf "_law_pairs" "_law_pairs" (defArgs s_law_pairs) (defBody s_law_pairs) (defScope s_law_pairs) .none kV12 dc12 pm12 an12 cd12 ct12), sl12⟩) (c12 : PySem.W.codeIn K cd12 "_law_pairs" = true) (k12 : PySem.W.keepIn K (.ref f12) = true)
    (a13 : PySem.W.nsIn K mainGlobals "law" = some (some (.ref f13))) (l13 : K.lookup f13 = some ⟨oc13, od13, .func (PySem.W.fnOf "law" "law" (defArgs s_law) (defBody s_law) (defScope s_law) .none kV13 dc13 pm13 an13 cd13 ct13), sl13⟩) (c13 : PySem.W.codeIn K cd13 "law" = true) (k13 : PySem.W.keepIn K (.ref f13) = true)
    (z_tuple : PySem.W.nsIn K mainGlobals "tuple" = some none) (z_list : PySem.W.nsIn K mainGlobals "list" = some none) (z_enumerate : PySem.W.nsIn K mainGlobals "enumerate" = some none) (z_range : PySem.W.nsIn K mainGlobals "range" = some none) (z_len : PySem.W.nsIn K mainGlobals "len" = some none) (z_int : PySem.W.nsIn K mainGlobals "int" = some none) (z_abs : PySem.W.nsIn K mainGlobals "abs" = some none) (z_isinstance : PySem.W.nsIn K mainGlobals "isinstance" = some none) (z_bool : PySem.W.nsIn K mainGlobals "bool" = some none) (z_str : PySem.W.nsIn K mainGlobals "str" = some none) {t_LAST_ROUND : Tok} (z_LAST_ROUND : PySem.W.nsIn K mainGlobals "LAST_ROUND" = some (some (.int 200 t_LAST_ROUND)))
    :
    ∃ fd : FuncData, (∀ (s : Shared) (v : Value), BindsTo s fd ⟨[v], []⟩ [("script", v)]) ∧ ∀ base : Heap, K.In base → base.Ns mainGlobals mg → FnOk l.prog w K mg base CX0 10 fa fd ["script"] (sp_law K) := by
  have e := hfa.symm.trans (PySem.W.mg_of X G a13)
  cases e
  have T : Tx mg := ⟨PySem.W.mg_none_of X G z_tuple, PySem.W.mg_none_of X G z_list, PySem.W.mg_none_of X G z_enumerate, PySem.W.mg_none_of X G z_range, PySem.W.mg_none_of X G z_len, PySem.W.mg_none_of X G z_int, PySem.W.mg_none_of X G z_abs, PySem.W.mg_none_of X G z_isinstance, PySem.W.mg_none_of X G z_bool, PySem.W.mg_none_of X G z_str, ⟨_, PySem.W.mg_of X G z_LAST_ROUND⟩⟩
  have F1 := fun_mk (st := s_packed) l1 c1 k1
  have D_packed : Dfn K mg "packed" s_packed ["rows"] f1 _ := ⟨F1, F1.binds (ps := ["rows"]) fun _ _ _ _ _ _ us hl => match us, hl with | [_], _ => rfl, PySem.W.mg_of X G a1⟩
  have F2 := fun_mk (st := s_schedule_of) l2 c2 k2
  have D_schedule_of : Dfn K mg "schedule_of" s_schedule_of ["amounts"] f2 _ := ⟨F2, F2.binds (ps := ["amounts"]) fun _ _ _ _ _ _ us hl => match us, hl with | [_], _ => rfl, PySem.W.mg_of X G a2⟩
  have F3 := fun_mk (st := s_amount_at) l3 c3 k3
  have D_amount_at : Dfn K mg "amount_at" s_amount_at ["schedule", "number"] f3 _ := ⟨F3, F3.binds (ps := ["schedule", "number"]) fun _ _ _ _ _ _ us hl => match us, hl with | [_, _], _ => rfl, PySem.W.mg_of X G a3⟩
  have F4 := fun_mk (st := s_amounts_of) l4 c4 k4
  have D_amounts_of : Dfn K mg "amounts_of" s_amounts_of ["schedule"] f4 _ := ⟨F4, F4.binds (ps := ["schedule"]) fun _ _ _ _ _ _ us hl => match us, hl with | [_], _ => rfl, PySem.W.mg_of X G a4⟩
  have F5 := fun_mk (st := s_law_cell) l5 c5 k5
  have D_law_cell : Dfn K mg "_law_cell" s_law_cell ["script", "k"] f5 _ := ⟨F5, F5.binds (ps := ["script", "k"]) fun _ _ _ _ _ _ us hl => match us, hl with | [_, _], _ => rfl, PySem.W.mg_of X G a5⟩
  have F6 := fun_mk (st := s_law_draws) l6 c6 k6
  have D_law_draws : Dfn K mg "_law_draws" s_law_draws ["cell", "count"] f6 _ := ⟨F6, F6.binds (ps := ["cell", "count"]) fun _ _ _ _ _ _ us hl => match us, hl with | [_, _], _ => rfl, PySem.W.mg_of X G a6⟩
  have F7 := fun_mk (st := s_law_stream) l7 c7 k7
  have D_law_stream : Dfn K mg "_law_stream" s_law_stream ["script", "first", "count"] f7 _ := ⟨F7, F7.binds (ps := ["script", "first", "count"]) fun _ _ _ _ _ _ us hl => match us, hl with | [_, _, _], _ => rfl, PySem.W.mg_of X G a7⟩
  have F8 := fun_mk (st := s_law_next) l8 c8 k8
  have D_law_next : Dfn K mg "_law_next" s_law_next ["stream", "many"] f8 _ := ⟨F8, F8.binds (ps := ["stream", "many"]) fun _ _ _ _ _ _ us hl => match us, hl with | [_, _], _ => rfl, PySem.W.mg_of X G a8⟩
  have F9 := fun_mk (st := s_law_is_integer) l9 c9 k9
  have D_law_is_integer : Dfn K mg "_law_is_integer" s_law_is_integer ["actual"] f9 _ := ⟨F9, F9.binds (ps := ["actual"]) fun _ _ _ _ _ _ us hl => match us, hl with | [_], _ => rfl, PySem.W.mg_of X G a9⟩
  have F10 := fun_mk (st := s_law_same) l10 c10 k10
  have D_law_same : Dfn K mg "_law_same" s_law_same ["actual", "expected"] f10 _ := ⟨F10, F10.binds (ps := ["actual", "expected"]) fun _ _ _ _ _ _ us hl => match us, hl with | [_, _], _ => rfl, PySem.W.mg_of X G a10⟩
  have F11 := fun_mk (st := s_law_row) l11 c11 k11
  have D_law_row : Dfn K mg "_law_row" s_law_row ["stream"] f11 _ := ⟨F11, F11.binds (ps := ["stream"]) fun _ _ _ _ _ _ us hl => match us, hl with | [_], _ => rfl, PySem.W.mg_of X G a11⟩
  have F12 := fun_mk (st := s_law_pairs) l12 c12 k12
  have D_law_pairs : Dfn K mg "_law_pairs" s_law_pairs ["row"] f12 _ := ⟨F12, F12.binds (ps := ["row"]) fun _ _ _ _ _ _ us hl => match us, hl with | [_], _ => rfl, PySem.W.mg_of X G a12⟩
  have DL : Dfn K mg "law" s_law ["script"] fa _ := ⟨fun_mk (st := s_law) l13 c13 k13, (fun_mk (st := s_law) l13 c13 k13).binds (ps := ["script"]) fun _ _ _ _ _ _ us hl => match us, hl with | [_], _ => rfl, PySem.W.mg_of X G a13⟩
  refine ⟨PySem.W.fnOf "law" "law" (defArgs s_law) (defBody s_law) (defScope s_law) .none kV13 dc13 pm13 an13 cd13 ct13, fun s v => .of_eq rfl, fun base _ _ => ?_⟩
  have G_packed := ok_packed (P := l.prog) (w := w) (base := base) D_packed T
  have G_schedule_of := ok_schedule_of (P := l.prog) (w := w) (base := base) D_schedule_of T D_packed G_packed
  have G_amount_at := ok_amount_at (P := l.prog) (w := w) (base := base) D_amount_at T
  have G_amounts_of := ok_amounts_of (P := l.prog) (w := w) (base := base) D_amounts_of T D_amount_at G_amount_at
  have G_law_cell := ok_law_cell (P := l.prog) (w := w) (base := base) D_law_cell T
  have G_law_draws := ok_law_draws (P := l.prog) (w := w) (base := base) D_law_draws T
  have G_law_stream := ok_law_stream (P := l.prog) (w := w) (base := base) D_law_stream T D_law_draws G_law_draws D_law_cell G_law_cell
  have G_law_next := ok_law_next (P := l.prog) (w := w) (base := base) D_law_next T
  have G_law_is_integer := ok_law_is_integer (P := l.prog) (w := w) (base := base) D_law_is_integer T
  have G_law_same := same_all (P:=l.prog) (w:=w) (base:=base) D_law_same T D_law_is_integer G_law_is_integer 8
  have G_law_row := ok_law_row (P := l.prog) (w := w) (base := base) D_law_row T D_law_next G_law_next
  have G_law_pairs := ok_law_pairs (P := l.prog) (w := w) (base := base) D_law_pairs T
  exact ok_law DL T D_law_stream G_law_stream D_law_row G_law_row D_law_next G_law_next D_law_pairs G_law_pairs D_law_same G_law_same D_schedule_of G_schedule_of D_amounts_of G_amounts_of D_amount_at G_amount_at
theorem walk {l : PySem.W.OpenLaw} {q : Program} {loose : List Str} {XP : (Str → Option Value) → Heap → Prop} {YP : World → Heap → Prop} {d : DefRec} {K : Params → PySem.W.Frag} (hn : l.most = some 63) (hdf : d.params.defaults = [])
    (hY : ∀ (w : World) (h : Heap), YP w h → (K w.params).In h)
    (F : ∀ (w : World) (mg : Str → Option Value) (fa : Addr) (h : Heap), (K w.params).In h → h.Ns mainGlobals mg → mg d.name = some (.ref fa) →
      ∃ fd : FuncData, (∀ (s : Shared) (u : Value), BindsTo s fd ⟨[u], []⟩ [("script", u)]) ∧ ∀ base : Heap, (K w.params).In base → base.Ns mainGlobals mg → FnOk l.prog w (K w.params) mg base CX0 10 fa fd ["script"] (sp_law (K w.params))) :
    PySem.W.WalkO q loose XP YP l.row.toRowW d [] (fun f vs => PySem.call f vs) :=
  L2.walk_of (n := 63) (k := 10) (x := "script") (CX := fun _ => CX0) (sp := fun w => sp_law (K w.params)) hn (by decide) hdf ⟨rfl, by decide, by decide⟩ hY F (fun _ _ a ns hl _ hS => ⟨a, ns, rfl, hS, hl, fun _ => rfl⟩) fun _ _ _ _ _ z => z
end Sd

open PySem PySem.W PyProof.Rows in
set_option maxRecDepth 100000 in
set_option maxHeartbeats 0 in
theorem PySem.Challenge.cw_spiraldue_k30_schedules_holds : PySem.Challenge.rw_spiraldue_k30_schedules.Holds := by
  w_on; o_law; k_head; (case hw => w_witness2)
  k_fill
  refine Sd.walk (l := PySem.Challenge.rw_spiraldue_k30_schedules) rfl rfl (fun w h Y => PySem.W.kIn_of Y) ?F
  case F =>
    intro w mg fa h KX G hmg
    refine' Sd.all_mk KX G hmg ?a1 ?l1 ?c1 ?k1 ?a2 ?l2 ?c2 ?k2 ?a3 ?l3 ?c3 ?k3 ?a4 ?l4 ?c4 ?k4 ?a5 ?l5 ?c5 ?k5 ?a6 ?l6 ?c6 ?k6 ?a7 ?l7 ?c7 ?k7 ?a8 ?l8 ?c8 ?k8 ?a9 ?l9 ?c9 ?k9 ?a10 ?l10 ?c10 ?k10 ?a11 ?l11 ?c11 ?k11 ?a12 ?l12 ?c12 ?k12 ?a13 ?l13 ?c13 ?k13 ?z_tuple ?z_list ?z_enumerate ?z_range ?z_len ?z_int ?z_abs ?z_isinstance ?z_bool ?z_str ?z_LAST_ROUND
    (case a1 => k_is)
    (case l1 => k_is)
    (case c1 => k_is)
    (case k1 => k_is)
    (case a2 => k_is)
    (case l2 => k_is)
    (case c2 => k_is)
    (case k2 => k_is)
    (case a3 => k_is)
    (case l3 => k_is)
    (case c3 => k_is)
    (case k3 => k_is)
    (case a4 => k_is)
    (case l4 => k_is)
    (case c4 => k_is)
    (case k4 => k_is)
    (case a5 => k_is)
    (case l5 => k_is)
    (case c5 => k_is)
    (case k5 => k_is)
    (case a6 => k_is)
    (case l6 => k_is)
    (case c6 => k_is)
    (case k6 => k_is)
    (case a7 => k_is)
    (case l7 => k_is)
    (case c7 => k_is)
    (case k7 => k_is)
    (case a8 => k_is)
    (case l8 => k_is)
    (case c8 => k_is)
    (case k8 => k_is)
    (case a9 => k_is)
    (case l9 => k_is)
    (case c9 => k_is)
    (case k9 => k_is)
    (case a10 => k_is)
    (case l10 => k_is)
    (case c10 => k_is)
    (case k10 => k_is)
    (case a11 => k_is)
    (case l11 => k_is)
    (case c11 => k_is)
    (case k11 => k_is)
    (case a12 => k_is)
    (case l12 => k_is)
    (case c12 => k_is)
    (case k12 => k_is)
    (case a13 => k_is)
    (case l13 => k_is)
    (case c13 => k_is)
    (case k13 => k_is)
    (case z_tuple => k_is)
    (case z_list => k_is)
    (case z_enumerate => k_is)
    (case z_range => k_is)
    (case z_len => k_is)
    (case z_int => k_is)
    (case z_abs => k_is)
    (case z_isinstance => k_is)
    (case z_bool => k_is)
    (case z_str => k_is)
    (case z_LAST_ROUND => k_is)
