import PyProof.Rows.All
import Wide.All
import OpenK.AllK
import Wide.FinOn
import HandS.ForMost
import HandS.Flow
import HandS.IsInst
import HandS.Wide
import HandS.WideBits
import HandS.TupAny
import PySem.Challenge.RW_spiraldue_k02_programmes
set_option Elab.async false
set_option maxRecDepth 100000
set_option maxHeartbeats 4000000
/-! ### P1. heaps -/
namespace Sd
open PySem PySem.Spec PyProof.Rows L2
set_option linter.all false
theorem same_new {H : Hp} {p : Addr} {o : HO} (h : H p = none) : Same H (upd H p o) := fun b u q => by
  rw [upd_ne (ne_of_none q h)]
  exact q
theorem same_put {H H' : Hp} {p : Addr} {o : HO} (s : Same H H') (h : H p = none) : Same H (upd H' p o) := fun b u q => by
  rw [upd_ne (ne_of_none q h)]
  exact s b u q
theorem same_add {H H' : Hp} {p : Addr} {o : HO} (s : Same H H') (h : H' p = none) : Same H (upd H' p o) := s.trans (same_new h)
theorem same_sqt {K : PySem.W.Frag} {H H' : Hp} {a : Addr} {xs : List V} (e : Same H H') (h : SqT K H a xs) : SqT K H' a xs := by
  rcases h with (h | ⟨o, h⟩) | h
  · exact .inl (.inl (e _ _ h))
  · exact .inl (.inr ⟨o, e _ _ h⟩)
  · exact .inr h
/-- a list or a tuple of xs -/
def Sq (K : PySem.W.Frag) (H : Hp) (a : Addr) (xs : List V) : Prop := SqL K H a xs ∨ SqT K H a xs
theorem same_sq {K : PySem.W.Frag} {H H' : Hp} {a : Addr} {xs : List V} (e : Same H H') (h : Sq K H a xs) : Sq K H' a xs := by
  rcases h with h | h
  · exact .inl (e.seq h)
  · exact .inr (same_sqt e h)
/-- all but p stands as it stood -/
def Bar (p : Addr) (H H' : Hp) : Prop := ∀ b o, b ≠ p → H b = some o → H' b = some o
theorem Bar.refl {p : Addr} (H : Hp) : Bar p H H := fun _ _ _ h => h
theorem Bar.trans {p : Addr} {H H1 H2 : Hp} (a : Bar p H H1) (b : Bar p H1 H2) : Bar p H H2 := fun c o n h => b c o n (a c o n h)
theorem Bar.of {p : Addr} {H H' : Hp} (s : Same H H') : Bar p H H' := fun b o _ h => s b o h
theorem Bar.put {p : Addr} {H H' : Hp} {o : HO} (s : Bar p H H') : Bar p H (upd H' p o) := fun b u n q => by
  rw [upd_ne n]
  exact s b u n q
theorem Bar.add {p q : Addr} {H H' : Hp} {o : HO} (s : Bar p H H') (h : H' q = none) : Bar p H (upd H' q o) := s.trans (Bar.of (same_new h))
theorem Bar.keep {p : Addr} {H0 H : Hp} (h : H0 p = none) (s : Bar p H0 H) : Same H0 H := fun b o q => s b o (ne_of_none q h) q
theorem Bar.free {p q : Addr} {H H' : Hp} (s : Bar p H H') (n : q ≠ p) (h : H' q = none) : H q = none := by
  cases e : H q with
  | none => rfl
  | some o =>
    rw [s q o n e] at h
    cases h
theorem Bar.new {p q : Addr} {H : Hp} {o : HO} (hp : H p = some o) (h : H q = none) : q ≠ p := (ne_of_none hp h).symm

theorem free2 {H : Hp} {p o : Addr} {u : HO} (np : H p = none) (no : upd H p u o = none) : H o = none := (same_new np).free no

/-! ### P2. rules -/
/-- sum(xs) of a list or a tuple of ints -/
def rSumS (K : PySem.W.Frag) : List V → Hp → VK → Prop := fun vs H Q => ∃ (a : Addr) (ns : List Int), vs = [V.ref a] ∧ Sq K H a (ns.map V.int) ∧ Q (.int ns.sum) H
theorem cr_sumS {X : Cx} (hc : X.calm = true) : CallR X (.builtin "sum") (rSumS X.K) := by
  intro pins s σ H vs us Q I r h
  obtain ⟨a, ns, rfl, hs | hs, q⟩ := h
  · exact cr_sum hc pins s σ H _ us Q I r ⟨a, ns, rfl, hs, q⟩
  · obtain ⟨its, rv, ⟨ob, ho, hcl, n, hd⟩, _⟩ := I.tuple hs
    rw [Vals.ref1 r]
    have hi := rv.ints
    have ht : s.heap.IsTuple a its.toArray := ⟨ob, ho, hcl, n, hd⟩
    obtain ⟨xs, e⟩ := hi.allInts.items
    have hn : numsOf (intItems xs).toList = ns := by rw [← e]; exact hi.numsOf
    rw [nums_intItems] at hn
    rw [e] at ht
    refine PySem.W.ktm_sumG (I.ok.hd hc) ht fun h' tk t' hk => ?_
    rw [preSum_eq, List.take_of_length_le (by simp), hn]
    exact ⟨.int _, H, I.kept hk, ⟨_, rfl⟩, q⟩
/-- what isinstance asks -/
theorem tyx_lst {K : PySem.W.Frag} {H : Hp} {a : Addr} {xs : List V} (h : SqL K H a xs) : TyX K H (.ref a) (.type "list") := by
  rcases h with (h | ⟨o, h⟩) | ⟨o, its, n, hk, hc, _⟩
  · exact .base (.lst h)
  · exact .base (.frz h)
  · exact .kList hk hc
theorem tyx_tup {K : PySem.W.Frag} {H : Hp} {a : Addr} {xs : List V} (h : SqT K H a xs) : TyX K H (.ref a) (.type "tuple") := by
  rcases h with (h | ⟨o, h⟩) | ⟨o, its, n, hk, hc, _⟩
  · exact .base (.tup h)
  · exact .fTuple h
  · exact .kTuple hk hc
/-- tuple + tuple, whichever is empty -/
theorem cat_any {K : PySem.W.Frag} {H : Hp} {a b : Addr} {xs ys : List V} {Q : VK} (ha : SqT K H a xs) (hb : SqT K H b ys) (hz : xs.length + ys.length ≤ sizeLine) (q : ∀ p H', Same H H' → SqT K H' p (xs ++ ys) → Q (.ref p) H') : rCatA K (.ref a) (.ref b) H Q := by
  refine ⟨a, b, xs, ys, rfl, rfl, ha, hb, hz, fun e => ?_, fun _ e => ?_, fun _ _ p np => q p _ (same_new np) (SqT.of upd_same)⟩
  · subst e
    exact q b H (Same.refl H) hb
  · subst e
    rw [List.append_nil] at q
    exact q a H (Same.refl H) ha
theorem pe_gi {X : Cx} {x : Str} {n : Int} {pos : Pos} (hg : Gl X x) (h : ∃ t, X.mg x = some (Value.int n t)) (hd : (x == ("__debug__" : Str)) = false := by decide) : PE X (.Name x pos) (tC (.int n)) :=
  let ⟨t, e⟩ := h
  pe_glob (v := .int n) hg e ⟨t, rfl⟩ hd
theorem pe_gs {X : Cx} {x : Str} {n : Str} {pos : Pos} (hg : Gl X x) (h : ∃ t, X.mg x = some (Value.str n t)) (hd : (x == ("__debug__" : Str)) = false := by decide) : PE X (.Name x pos) (tC (.str n)) :=
  let ⟨t, e⟩ := h
  pe_glob (v := .str n) hg e ⟨t, rfl⟩ hd
/-- a def of the module: where it stands, how it binds, its name -/
structure Dfn (K : PySem.W.Frag) (mg : Str → Option Value) (x : Str) (st : Stmt) (ps : List Str) (f : Addr) (fd : FuncData) : Prop where
  F : Fun K x x st f fd
  b : Binds K fd ps []
  m : mg x = some (.ref f)
theorem at_map {ns : List Int} {j : Nat} {v : Int} (h : ns[j]? = some v) : (ns.map V.int)[j]? = some (V.int v) := by
  rw [List.getElem?_map, h] <;> rfl
theorem of_at_map {ns : List Int} {j : Nat} {y : V} (h : (ns.map V.int)[j]? = some y) : ∃ v, y = V.int v ∧ ns[j]? = some v := by
  rw [List.getElem?_map] at h
  cases e : ns[j]? with
  | none =>
    rw [e] at h
    cases h
  | some v =>
    rw [e] at h
    exact ⟨v, (Option.some.inj h).symm, rfl⟩
theorem sz {n : Nat} (h : n ≤ 100000) : n ≤ sizeLine := Nat.le_trans h (by decide)
theorem szl {n : Nat} (h : n < 100000) : n < sizeLine := Nat.lt_of_lt_of_le h (by decide)
theorem iteB {A B : Prop} {b : Bool} (h1 : b = true → A) (h2 : b = false → B) : if b = true then A else B := by
  cases b with
  | true => exact iteT (h1 rfl)
  | false => exact iteF (h2 rfl)
/-- behind a statement with several ways: what holds there in all of them -/
theorem with_rest {t u : TS} {D : Ends} {σ : L2.St} {H : Hp} (M : L2.St → Hp → Prop) (h2 : ∀ σ' H', M σ' H' → u D σ' H') (h1 : (∀ σ' H', M σ' H' → u D σ' H') → t { D with nx := u D } σ H) : tSeq t u D σ H := h1 h2
theorem nx_to {i : Nat} {v : V} {σ : L2.St} {H : Hp} {Q : L2.St → Hp → Prop} (h : Q (σ.set i (some v)) H) : gName i v σ H Q := h
theorem sq_ix {K : PySem.W.Frag} {H : Hp} {a : Addr} {xs : List V} {i : Int} {v : V} {Q : VK} (h : Sq K H a xs) (ha : atI xs i = some v) (q : Q v H) : rIx K (.ref a) (.int i) H Q := by
  rcases h with h | h
  · exact .inl ⟨a, xs, i, v, rfl, rfl, h, ha, q⟩
  · exact .inr (.inl ⟨a, xs, i, v, rfl, rfl, h, ha, q⟩)
end Sd

namespace Sd
open PySem PySem.Spec PyProof.Rows L2
set_option linter.all false
/-! ### the places -/
def top (i : Nat) : Stmt := PySem.Challenge.pw_spiraldue_k02_programmes.main.body.getD i (.Pass ⟨0, 0, 0, 0⟩)
abbrev s_recovery : Stmt := top 2
abbrev s_programme : Stmt := top 3
abbrev s_law_cell : Stmt := top 5
abbrev s_law_draws : Stmt := top 6
abbrev s_law_stream : Stmt := top 7
abbrev s_law_next : Stmt := top 8
abbrev s_law_is_integer : Stmt := top 9
abbrev s_law_same : Stmt := top 10
abbrev s_law_pays : Stmt := top 11
abbrev s_law_cover : Stmt := top 12
abbrev s_law : Stmt := top 13
structure Tx (mg : Str → Option Value) : Prop where
  min : mg "min" = none
  max : mg "max" = none
  tuple : mg "tuple" = none
  len : mg "len" = none
  int : mg "int" = none
  abs : mg "abs" = none
  range : mg "range" = none
  isinstance : mg "isinstance" = none
  bool : mg "bool" = none
  str : mg "str" = none
  list : mg "list" = none
  sum : mg "sum" = none
  sorted : mg "sorted" = none
  g_WHOLE : ∃ t, mg "WHOLE" = some (Value.int 1000 t)
theorem sc_recovery : FnScope ["cover", "loss", "_", "retention", "limit"] ["cover", "loss"] (defScope s_recovery) := ⟨rfl, rfl, rfl, by decide +kernel, rfl, by decide +kernel, by decide +kernel⟩
theorem sc_programme : FnScope ["covers", "loss", "paid", "rest", "cover", "amount"] ["covers", "loss"] (defScope s_programme) := ⟨rfl, rfl, rfl, by decide +kernel, rfl, by decide +kernel, by decide +kernel⟩
theorem sc_law_cell : FnScope ["script", "k"] ["script", "k"] (defScope s_law_cell) := ⟨rfl, rfl, rfl, by decide +kernel, rfl, by decide +kernel, by decide +kernel⟩
theorem sc_law_draws : FnScope ["cell", "count", "number", "great", "found", "k", "mixed"] ["cell", "count"] (defScope s_law_draws) := ⟨rfl, rfl, rfl, by decide +kernel, rfl, by decide +kernel, by decide +kernel⟩
theorem sc_law_stream : FnScope ["script", "first", "count", "found", "k"] ["script", "first", "count"] (defScope s_law_stream) := ⟨rfl, rfl, rfl, by decide +kernel, rfl, by decide +kernel, by decide +kernel⟩
theorem sc_law_next : FnScope ["stream", "many", "digits", "place", "value"] ["stream", "many"] (defScope s_law_next) := ⟨rfl, rfl, rfl, by decide +kernel, rfl, by decide +kernel, by decide +kernel⟩
theorem sc_law_is_integer : FnScope ["actual"] ["actual"] (defScope s_law_is_integer) := ⟨rfl, rfl, rfl, by decide +kernel, rfl, by decide +kernel, by decide +kernel⟩
theorem sc_law_same : FnScope ["actual", "expected", "k"] ["actual", "expected"] (defScope s_law_same) := ⟨rfl, rfl, rfl, by decide +kernel, rfl, by decide +kernel, by decide +kernel⟩
theorem sc_law_pays : FnScope ["cover", "loss"] ["cover", "loss"] (defScope s_law_pays) := ⟨rfl, rfl, rfl, by decide +kernel, rfl, by decide +kernel, by decide +kernel⟩
theorem sc_law_cover : FnScope ["stream", "kind", "retention"] ["stream"] (defScope s_law_cover) := ⟨rfl, rfl, rfl, by decide +kernel, rfl, by decide +kernel, by decide +kernel⟩
theorem sc_law : FnScope ["script", "stream", "covers", "loss", "left", "due", "cover", "parts", "net", "raised", "place", "first", "rest", "second", "last", "k"] ["script"] (defScope s_law) := ⟨rfl, rfl, rfl, by decide +kernel, rfl, by decide +kernel, by decide +kernel⟩
/-! ### C1. a cell of the script -/
def cell (ns : List Int) (j : Nat) : Int := ns.getD j 0
theorem cell_in {ns : List Int} {j : Nat} (h : j < ns.length) : ns[j]? = some (cell ns j) := by
  unfold cell
  rw [List.getElem?_eq_getElem h, List.getD_eq_getElem?_getD, List.getElem?_eq_getElem h]
  rfl
theorem cell_out {ns : List Int} {j : Nat} (h : ¬ j < ns.length) : cell ns j = 0 := by
  unfold cell
  rw [List.getD_eq_getElem?_getD, List.getElem?_eq_none (by omega)]
  rfl
def sp_law_cell (K : PySem.W.Frag) : Sp := fun vs H Q _ => ∃ (a : Addr) (ns : List Int) (j : Nat), vs = [.ref a, .int (j : Int)] ∧ SqL K H a (ns.map V.int) ∧ Q (.int (cell ns j)) H
/-! ### C2. digits of a cell: as many as are asked, each from 0 to 59 -/
def Digs (n : Nat) (ds : List Int) : Prop := ds.length = n ∧ ∀ x ∈ ds, 0 ≤ x ∧ x < 60
def sp_law_draws (K : PySem.W.Frag) : Sp := fun vs H Q _ => ∃ (c : Int) (n : Nat), vs = [.int c, .int (n : Int)] ∧ n ≤ 60 ∧
  ∀ (o : Addr) (H' : Hp) (ds : List Int), Same H H' → H o = none → H' o = some (.lst (ds.map V.int)) → Digs n ds → Q (.ref o) H'
theorem digs_add {ds : List Int} {z : Int} (h : ∀ x ∈ ds, 0 ≤ x ∧ x < 60) : ∀ x ∈ ds ++ [z % 60], 0 ≤ x ∧ x < 60 := by
  intro x hx
  rcases List.mem_append.mp hx with hx | hx
  · exact h x hx
  · have e := List.mem_singleton.mp hx
    omega
/-! ### C3. a stream of digits: the digits and the place; only the place changes -/
structure Strm (s p : Addr) (H : Hp) : Prop where
  ex : ∃ (d : Addr) (ds : List Int) (n : Nat), H s = some (.lst [.ref d, .ref p]) ∧ H d = some (.lst (ds.map V.int)) ∧ 0 < ds.length ∧ H p = some (.lst [.int (n : Int)]) ∧ s ≠ p ∧ d ≠ p
theorem Strm.same {s p : Addr} {H H' : Hp} (S : Strm s p H) (e : Same H H') : Strm s p H' := by
  obtain ⟨d, ds, n, a1, a2, a3, a4, a5, a6⟩ := S.ex
  exact ⟨d, ds, n, e _ _ a1, e _ _ a2, a3, e _ _ a4, a5, a6⟩
theorem Strm.p {s p : Addr} {H : Hp} (S : Strm s p H) : ∃ o, H p = some o := by
  obtain ⟨d, ds, n, a1, a2, a3, a4, a5, a6⟩ := S.ex
  exact ⟨_, a4⟩
theorem Strm.ne {s p q : Addr} {H : Hp} (S : Strm s p H) (h : H q = none) : q ≠ p := by
  obtain ⟨o, e⟩ := S.p
  exact Bar.new e h
/-- the stream goes on: what was read stands, the place is a number -/
theorem Strm.go {s p : Addr} {H H' H2 : Hp} (S : Strm s p H) (b : Bar p H H') (S2 : Strm s p H2) (e : H' p = H2 p) : Strm s p H' := by
  obtain ⟨d, ds, n, a1, a2, a3, a4, a5, a6⟩ := S.ex
  obtain ⟨_, _, m, _, _, _, b4, _, _⟩ := S2.ex
  exact ⟨d, ds, m, b s _ a5 a1, b d _ a6 a2, a3, e.trans b4, a5, a6⟩
/-- an object that was new behind the stream's making is changed -/
theorem Strm.put {s p D : Addr} {H H' : Hp} {o : HO} (S : Strm s p H) (b : Bar p H H') (S2 : Strm s p H') (h : H D = none) (n : D ≠ p) : Strm s p (upd H' D o) :=
  S.go (fun c u ne q => by rw [upd_ne (ne_of_none q h)]; exact b c u ne q) S2 (upd_ne n.symm)
theorem Bar.put2 {p D : Addr} {H H' : Hp} {o : HO} (b : Bar p H H') (h : H D = none) : Bar p H (upd H' D o) := fun c u ne q => by
  rw [upd_ne (ne_of_none q h)]
  exact b c u ne q
def sp_law_stream (K : PySem.W.Frag) : Sp := fun vs H Q _ => ∃ (a : Addr) (ns : List Int) (j n : Nat), vs = [.ref a, .int (j : Int), .int (n : Int)] ∧ SqL K H a (ns.map V.int) ∧ 0 < n ∧ n ≤ 63 ∧
  ∀ (s p : Addr) (H' : Hp), Same H H' → H p = none → Strm s p H' → Q (.ref s) H'
def sp_law_next (K : PySem.W.Frag) : Sp := fun vs H Q _ => ∃ (s p : Addr) (m : Int), vs = [.ref s, .int m] ∧ 0 < m ∧ Strm s p H ∧
  ∀ (z : Int) (H' : Hp), 0 ≤ z → z < m → Bar p H H' → Strm s p H' → Q (.int z) H'
theorem mod_at {ds : List Int} {n : Nat} (h : 0 < ds.length) : ∃ v, atI (ds.map V.int) ((n : Int) % ((ds.map V.int).length : Nat)) = some (V.int v) := by
  rw [List.length_map]
  have e : (n : Int) % (ds.length : Int) = ((n % ds.length : Nat) : Int) := by omega
  have hlt : n % ds.length < ds.length := Nat.mod_lt _ h
  rw [e]
  exact ⟨ds[n % ds.length], atI_nat (at_map (List.getElem?_eq_getElem hlt))⟩
/-! ### C4. the same data -/
def dOk : Nat → PyData → Bool
  | 0, _ => false
  | _ + 1, .none => true
  | _ + 1, .bool _ => true
  | _ + 1, .int _ => true
  | _ + 1, .str _ => true
  | n + 1, .list ds => decide (ds.length ≤ 5000) && ds.all (dOk n)
  | n + 1, .tuple ds => decide (ds.length ≤ 5000) && ds.all (dOk n)
  | _ + 1, _ => false
def sp_law_is_integer (K : PySem.W.Frag) : Sp := fun vs H Q _ => ∃ i : Int, vs = [.int i] ∧ Q (.bl true) H
def sp_law_same (K : PySem.W.Frag) (n : Nat) : Sp := fun vs H Q _ => ∃ (x y : V) (d : PyData), vs = [x, y] ∧ dOk n d = true ∧ Dp K H x d ∧ Dp K H y d ∧ Q (.bl true) H
theorem DpAll.len {K : PySem.W.Frag} {H : Hp} : ∀ {xs : List V} {ds : List PyData}, DpAll K H xs ds → xs.length = ds.length
  | _, _, .nil => rfl
  | _, _, .cons _ t => congrArg Nat.succ (DpAll.len t)
theorem DpAll.get {K : PySem.W.Frag} {H : Hp} : ∀ {xs : List V} {ds : List PyData} {i : Nat} {d : PyData}, DpAll K H xs ds → ds[i]? = some d → ∃ v, xs[i]? = some v ∧ Dp K H v d
  | _, _, _, _, .nil, h => by simp at h
  | _, _, 0, _, .cons r _, h => by
    have e := Option.some.inj h
    subst e
    exact ⟨_, rfl, r⟩
  | _, _, i + 1, _, .cons _ t, h => DpAll.get (i := i) t h
theorem DpAll.ints {K : PySem.W.Frag} {H : Hp} : ∀ ns : List Int, DpAll K H (ns.map V.int) (ns.map PyData.int)
  | [] => .nil
  | n :: r => .cons (.int n) (DpAll.ints r)
theorem dOk_ints (n : Nat) (ns : List Int) : (ns.map PyData.int).all (dOk (n + 1)) = true := by
  rw [List.all_eq_true]
  intro d hd
  obtain ⟨i, _, e⟩ := List.mem_map.mp hd
  subst e
  rfl
/-- isinstance of a value by its data -/
theorem dp_ty {K : PySem.W.Frag} {H : Hp} {x : V} {d : PyData} (h : Dp K H x d) : ∃ t, TyX K H x t ∧ (match d with | .none => t = .type "NoneType" | .bool _ => t = .type "bool" | .int _ => t = .type "int" | .str _ => t = .type "str" | .list _ => t = .type "list" | .tuple _ => t = .type "tuple" | _ => True) := by
  cases h with
  | non => exact ⟨_, .base .non, rfl⟩
  | bl b => exact ⟨_, .base (.bl b), rfl⟩
  | int i => exact ⟨_, .base (.int i), rfl⟩
  | str s => exact ⟨_, .base (.str s), rfl⟩
  | lst h _ => exact ⟨_, tyx_lst h, rfl⟩
  | tup h _ => exact ⟨_, tyx_tup h, rfl⟩
/-! ### V1. covers -/
inductive Cov where
  | share (p : Int)
  | layer (r l : Int)
def cvV : Cov → List V
  | .share p => [.str "share", .int p]
  | .layer r l => [.str "layer", .int r, .int l]
def CvOk : Cov → Prop
  | .share p => 1 ≤ p ∧ p ≤ 1000
  | .layer r l => 0 ≤ r ∧ r ≤ 100000 ∧ 1 ≤ l ∧ l ≤ 100000
def pays : Cov → Int → Int
  | .share p, x => p * x / 1000
  | .layer r l, x => if x ≤ r then 0 else if x - r > l then l else x - r
theorem share_layer : ¬ ("layer" : Str) = "share" := by decide +kernel
theorem pays_step {c : Cov} (h : CvOk c) (x : Int) : pays c (x + 1) = pays c x ∨ pays c (x + 1) = pays c x + 1 := by
  cases c with
  | share p =>
    obtain ⟨h1, h2⟩ := h
    show p * (x + 1) / 1000 = p * x / 1000 ∨ p * (x + 1) / 1000 = p * x / 1000 + 1
    rw [Int.mul_add, Int.mul_one]
    omega
  | layer r l =>
    obtain ⟨h1, h2, h3, h4⟩ := h
    show (if x + 1 ≤ r then 0 else if x + 1 - r > l then l else x + 1 - r) = (if x ≤ r then 0 else if x - r > l then l else x - r) ∨ (if x + 1 ≤ r then 0 else if x + 1 - r > l then l else x + 1 - r) = (if x ≤ r then 0 else if x - r > l then l else x - r) + 1
    by_cases a : x + 1 ≤ r
    · rw [if_pos a, if_pos (by omega)]
      exact .inl rfl
    · rw [if_neg a]
      by_cases b : x ≤ r
      · rw [if_pos b, if_neg (by omega)]
        right
        omega
      · rw [if_neg b]
        by_cases d : x - r > l
        · rw [if_pos d, if_pos (by omega)]
          exact .inl rfl
        · rw [if_neg d]
          by_cases e : x + 1 - r > l
          · rw [if_pos e]
            left
            omega
          · rw [if_neg e]
            right
            omega
theorem pays_range {c : Cov} (h : CvOk c) {x : Int} (h0 : 0 ≤ x) : 0 ≤ pays c x ∧ pays c x ≤ x := by
  cases c with
  | share p =>
    obtain ⟨h1, h2⟩ := h
    show 0 ≤ p * x / 1000 ∧ p * x / 1000 ≤ x
    have a : 0 ≤ p * x := Int.mul_nonneg (by omega) h0
    have b : p * x ≤ 1000 * x := Int.mul_le_mul_of_nonneg_right h2 h0
    omega
  | layer r l =>
    obtain ⟨h1, h2, h3, h4⟩ := h
    show 0 ≤ (if x ≤ r then 0 else if x - r > l then l else x - r) ∧ (if x ≤ r then 0 else if x - r > l then l else x - r) ≤ x
    by_cases b : x ≤ r
    · rw [if_pos b]
      omega
    · rw [if_neg b]
      by_cases d : x - r > l
      · rw [if_pos d]
        omega
      · rw [if_neg d]
        omega
def sp_recovery (K : PySem.W.Frag) : Sp := fun vs H Q _ => ∃ (a : Addr) (c : Cov) (x : Int), vs = [.ref a, .int x] ∧ SqT K H a (cvV c) ∧ CvOk c ∧ Q (.int (pays c x)) H
def sp_law_pays (K : PySem.W.Frag) : Sp := sp_recovery K
theorem max_min (r l x : Int) (h : 1 ≤ l) : (if l < (if (0 : Int) > x - r then 0 else x - r) then l else (if (0 : Int) > x - r then 0 else x - r)) = (if x ≤ r then 0 else if x - r > l then l else x - r) := by
  by_cases b : x ≤ r
  · rw [if_pos b]
    by_cases c : (0 : Int) > x - r
    · rw [if_pos c, if_neg (by omega)]
    · rw [if_neg c, if_neg (by omega)]
      omega
  · rw [if_neg b, if_neg (show ¬ (0 : Int) > x - r by omega)]
def sp_law_cover (K : PySem.W.Frag) : Sp := fun vs H Q _ => ∃ (s p : Addr), vs = [.ref s] ∧ Strm s p H ∧
  ∀ (t : Addr) (c : Cov) (H' : Hp), Bar p H H' → Strm s p H' → H t = none → H' t = some (.tup (cvV c)) → CvOk c → Q (.ref t) H'
/-- an item of a written list of ints at a drawn place -/
theorem pick_at {ns : List Int} {z : Int} (h0 : 0 ≤ z) (h1 : z < (ns.length : Int)) : ∃ v, v ∈ ns ∧ atI (ns.map V.int) z = some (.int v) := by
  obtain ⟨j, rfl⟩ : ∃ j : Nat, z = (j : Int) := ⟨z.toNat, by omega⟩
  have hj : j < ns.length := by omega
  exact ⟨ns[j], List.getElem_mem hj, atI_nat (at_map (List.getElem?_eq_getElem hj))⟩
/-! ### programmes -/
def prog : List Cov → Int → List Int × Int
  | [], x => ([], x)
  | c :: t, x => (pays c x :: (prog t (x - pays c x)).1, (prog t (x - pays c x)).2)
theorem prog_len : ∀ (cs : List Cov) (x : Int), (prog cs x).1.length = cs.length
  | [], _ => rfl
  | _ :: t, _ => congrArg Nat.succ (prog_len t _)
theorem prog_sum : ∀ (cs : List Cov) (x : Int), (prog cs x).1.sum + (prog cs x).2 = x
  | [], x => by
    show ([] : List Int).sum + x = x
    rw [List.sum_nil]
    omega
  | c :: t, x => by
    have ih := prog_sum t (x - pays c x)
    show (pays c x :: (prog t (x - pays c x)).1).sum + (prog t (x - pays c x)).2 = x
    rw [List.sum_cons]
    omega
theorem prog_append : ∀ (cs ds : List Cov) (x : Int), prog (cs ++ ds) x = ((prog cs x).1 ++ (prog ds (prog cs x).2).1, (prog ds (prog cs x).2).2)
  | [], _, _ => rfl
  | c :: t, ds, x => by
    show (pays c x :: (prog (t ++ ds) (x - pays c x)).1, (prog (t ++ ds) (x - pays c x)).2) = _
    rw [prog_append t ds]
    rfl
def AllOk (cs : List Cov) : Prop := ∀ c ∈ cs, CvOk c
/-- by how much each pays more, and what is left, if the loss is one greater: just one is 1 -/
theorem prog_more : ∀ (cs : List Cov) (x : Int), AllOk cs → ∃ j, List.zipWith (fun a b => a - b) ((prog cs (x + 1)).1 ++ [(prog cs (x + 1)).2]) ((prog cs x).1 ++ [(prog cs x).2]) = List.replicate j 0 ++ 1 :: List.replicate (cs.length - j) 0 ∧ j ≤ cs.length
  | [], x, _ => ⟨0, by
    show [x + 1 - x] = [1]
    rw [show x + 1 - x = 1 by omega], Nat.le_refl 0⟩
  | c :: t, x, h => by
    have same : ∀ y : Int, ∀ l : List Cov, List.zipWith (fun a b => a - b) ((prog l y).1 ++ [(prog l y).2]) ((prog l y).1 ++ [(prog l y).2]) = List.replicate (l.length + 1) 0 := by
      intro y l
      have e : ∀ xs : List Int, List.zipWith (fun a b => a - b) xs xs = List.replicate xs.length 0 := by
        intro xs
        induction xs with
        | nil => rfl
        | cons z zs ih =>
          show (z - z) :: List.zipWith (fun a b => a - b) zs zs = 0 :: List.replicate zs.length 0
          rw [ih, Int.sub_self]
      rw [e, List.length_append, prog_len]
      rfl
    rcases pays_step (h c List.mem_cons_self) x with e | e
    · obtain ⟨j, hj, hle⟩ := prog_more t (x - pays c x) fun d hd => h d (List.mem_cons_of_mem _ hd)
      refine ⟨j + 1, ?_, Nat.succ_le_succ hle⟩
      show (pays c (x + 1) - pays c x) :: List.zipWith (fun a b => a - b) ((prog t (x + 1 - pays c (x + 1))).1 ++ [(prog t (x + 1 - pays c (x + 1))).2]) ((prog t (x - pays c x)).1 ++ [(prog t (x - pays c x)).2]) = 0 :: (List.replicate j 0 ++ 1 :: List.replicate (t.length + 1 - (j + 1)) 0)
      rw [e, Int.sub_self, show x + 1 - pays c x = x - pays c x + 1 by omega, hj, show t.length + 1 - (j + 1) = t.length - j by omega]
    · refine ⟨0, ?_, Nat.zero_le _⟩
      show (pays c (x + 1) - pays c x) :: List.zipWith (fun a b => a - b) ((prog t (x + 1 - pays c (x + 1))).1 ++ [(prog t (x + 1 - pays c (x + 1))).2]) ((prog t (x - pays c x)).1 ++ [(prog t (x - pays c x)).2]) = 1 :: List.replicate (t.length + 1) 0
      rw [e, show x + 1 - (pays c x + 1) = x - pays c x by omega, same, show pays c x + 1 - pays c x = 1 by omega]
/-- a list of covers stands there -/
def CovsAt (K : PySem.W.Frag) (H : Hp) (vs : List V) (cs : List Cov) : Prop := vs.length = cs.length ∧ ∀ (i : Nat) (c : Cov), cs[i]? = some c → ∃ a : Addr, vs[i]? = some (V.ref a) ∧ SqT K H a (cvV c) ∧ CvOk c
theorem CovsAt.same {K : PySem.W.Frag} {H H' : Hp} {vs : List V} {cs : List Cov} (h : CovsAt K H vs cs) (e : Same H H') : CovsAt K H' vs cs :=
  ⟨h.1, fun i c hi => let ⟨a, h1, h2, h3⟩ := h.2 i c hi; ⟨a, h1, same_sqt e h2, h3⟩⟩
theorem CovsAt.ok {K : PySem.W.Frag} {H : Hp} {vs : List V} {cs : List Cov} (h : CovsAt K H vs cs) : AllOk cs := fun c hc => by
  obtain ⟨i, hi⟩ := List.mem_iff_getElem?.mp hc
  obtain ⟨_, _, _, r⟩ := h.2 i c hi
  exact r
theorem CovsAt.get {K : PySem.W.Frag} {H : Hp} {vs : List V} {cs : List Cov} (h : CovsAt K H vs cs) {i : Nat} {y : V} (e : vs[i]? = some y) : ∃ a c, y = .ref a ∧ cs[i]? = some c ∧ SqT K H a (cvV c) ∧ CvOk c := by
  have hi := (List.getElem?_eq_some_iff.mp e).1
  have hlt : i < cs.length := by
    rw [← h.1]
    exact hi
  have hc : cs[i]? = some cs[i] := List.getElem?_eq_getElem hlt
  obtain ⟨a, h1, h2, h3⟩ := h.2 i _ hc
  rw [e] at h1
  exact ⟨a, _, Option.some.inj h1, hc, h2, h3⟩
theorem CovsAt.take {K : PySem.W.Frag} {H : Hp} {vs : List V} {cs : List Cov} (h : CovsAt K H vs cs) (n : Nat) : CovsAt K H (vs.take n) (cs.take n) := by
  refine ⟨by rw [List.length_take, List.length_take, h.1], fun i c hi => ?_⟩
  rw [List.getElem?_take] at hi ⊢
  split at hi
  · rename_i hl
    rw [if_pos hl]
    exact h.2 i c hi
  · cases hi
theorem CovsAt.drop {K : PySem.W.Frag} {H : Hp} {vs : List V} {cs : List Cov} (h : CovsAt K H vs cs) (n : Nat) : CovsAt K H (vs.drop n) (cs.drop n) := by
  refine ⟨by rw [List.length_drop, List.length_drop, h.1], fun i c hi => ?_⟩
  rw [List.getElem?_drop] at hi ⊢
  exact h.2 _ c hi
def sp_programme (K : PySem.W.Frag) : Sp := fun vs H Q _ => ∃ (s : Addr) (x : Int) (ys : List V) (cs : List Cov), vs = [.ref s, .int x] ∧ Sq K H s ys ∧ CovsAt K H ys cs ∧ cs.length ≤ 1000 ∧
  ∀ (t p : Addr) (H' : Hp), Same H H' → H' t = some (.tup ((prog cs x).1.map V.int)) → H' p = some (.tup [.ref t, .int (prog cs x).2]) → Q (.ref p) H'
theorem prog_step {cs : List Cov} {i : Nat} {c : Cov} {r : Int} (h : cs[i]? = some c) : prog (cs.drop i) r = (pays c r :: (prog (cs.drop (i + 1)) (r - pays c r)).1, (prog (cs.drop (i + 1)) (r - pays c r)).2) := by
  obtain ⟨h1, h2⟩ := List.getElem?_eq_some_iff.mp h
  rw [List.drop_eq_getElem_cons h1, h2]
  rfl
def sp_law (K : PySem.W.Frag) : Sp := fun vs H Q _ => ∃ (a : Addr) (ns : List Int), vs = [.ref a] ∧ SqL K H a (ns.map V.int) ∧ ns.length ≤ 63 ∧ ∀ H', Q (.bl true) H'
theorem dp_tup {K : PySem.W.Frag} {H : Hp} {p : Addr} {ns : List Int} (h : SqT K H p (ns.map V.int)) : Dp K H (.ref p) (.tuple (ns.map PyData.int)) := .tup h (DpAll.ints ns)
/-- a pair of a tuple of ints and an int -/
def pairD (ns : List Int) (z : Int) : PyData := .tuple [.tuple (ns.map PyData.int), .int z]
theorem dp_pair {K : PySem.W.Frag} {H : Hp} {p t : Addr} {ns : List Int} {z : Int} (hp : H p = some (.tup [.ref t, .int z])) (ht : SqT K H t (ns.map V.int)) : Dp K H (.ref p) (pairD ns z) :=
  .tup (SqT.of hp) (.cons (dp_tup ht) (.cons (.int z) .nil))
theorem ok_pair {ns : List Int} {z : Int} (h : ns.length ≤ 5000) : dOk 8 (pairD ns z) = true := by
  have e : dOk 7 (.tuple (ns.map PyData.int)) = true := by
    show (decide ((ns.map PyData.int).length ≤ 5000) && (ns.map PyData.int).all (dOk 6)) = true
    rw [Bool.and_eq_true, List.length_map]
    exact ⟨decide_eq_true h, dOk_ints 5 ns⟩
  show (decide ([PyData.tuple (ns.map PyData.int), .int z].length ≤ 5000) && [PyData.tuple (ns.map PyData.int), .int z].all (dOk 7)) = true
  rw [Bool.and_eq_true]
  refine ⟨rfl, ?_⟩
  rw [List.all_cons, e]
  rfl
theorem zip_get : ∀ (xs ys : List Int) (i : Nat) (x y : Int), xs[i]? = some x → ys[i]? = some y → (List.zipWith (fun a b => a - b) xs ys)[i]? = some (x - y)
  | [], _, _, _, _, h, _ => by simp at h
  | _ :: _, [], _, _, _, _, h => by simp at h
  | a :: xs, b :: ys, 0, x, y, h, g => by
    cases Option.some.inj h
    cases Option.some.inj g
    rfl
  | a :: xs, b :: ys, i + 1, x, y, h, g => zip_get xs ys i x y h g
theorem zip_snoc : ∀ (xs ys : List Int) (x y : Int), xs.length = ys.length → List.zipWith (fun a b => a - b) (xs ++ [x]) (ys ++ [y]) = List.zipWith (fun a b => a - b) xs ys ++ [x - y]
  | [], [], _, _, _ => rfl
  | [], _ :: _, _, _, h => by simp at h
  | _ :: _, [], _, _, h => by simp at h
  | a :: xs, b :: ys, x, y, h => by
    show (a - b) :: List.zipWith (fun a b => a - b) (xs ++ [x]) (ys ++ [y]) = (a - b) :: (List.zipWith (fun a b => a - b) xs ys ++ [x - y])
    rw [zip_snoc xs ys x y (Nat.succ.inj h)]
/-- noughts and a one, sorted -/
theorem sorted_ones : ∀ (n : Nat) (l : List Int), l.Perm (List.replicate n 0 ++ [1]) → l.Pairwise (· ≤ ·) → l = List.replicate n 0 ++ [1]
  | 0, l, hp, _ => by
    have e : l.Perm [1] := hp
    exact List.perm_singleton.mp e
  | n + 1, l, hp, hs => by
    cases l with
    | nil =>
      have := hp.length_eq
      simp at this
    | cons x t =>
      have hx : x = 0 := by
        have h0 : (0 : Int) ∈ x :: t := hp.mem_iff.mpr (by rw [List.replicate_succ]; exact List.mem_cons_self)
        have hm : x ∈ List.replicate (n + 1) (0 : Int) ++ [1] := hp.mem_iff.mp List.mem_cons_self
        have ge : x = 0 ∨ x = 1 := by
          rcases List.mem_append.mp hm with h | h
          · exact .inl (List.eq_of_mem_replicate h)
          · exact .inr (List.mem_singleton.mp h)
        rcases ge with e | e
        · exact e
        · rcases List.mem_cons.mp h0 with z | z
          · exact z.symm
          · have := (List.pairwise_cons.mp hs).1 0 z
            omega
      subst hx
      have hp2 : t.Perm (List.replicate n 0 ++ [1]) := by
        rw [List.replicate_succ] at hp
        exact List.Perm.cons_inv hp
      rw [sorted_ones n t hp2 (List.pairwise_cons.mp hs).2, List.replicate_succ]
      rfl
theorem perm_ones (j n : Nat) (h : j ≤ n) : (List.replicate j (0 : Int) ++ 1 :: List.replicate (n - j) 0).Perm (List.replicate n 0 ++ [1]) := by
  have e : List.replicate n (0 : Int) = List.replicate j 0 ++ List.replicate (n - j) 0 := by
    rw [List.replicate_append_replicate]
    congr 1
    omega
  rw [e, List.append_assoc]
  refine List.Perm.append_left _ ?_
  exact (List.perm_append_singleton 1 (List.replicate (n - j) (0 : Int))).symm
theorem cut_to (xs : List V) (k : Nat) : cutV xs none (some (k : Int)) = xs.take k := by
  unfold cutV
  rw [HT.sIx_none, HT.sIx_nat, List.drop_zero, Nat.sub_zero]
  by_cases h : k ≤ xs.length
  · rw [Nat.min_eq_left h]
  · rw [Nat.min_eq_right (by omega), List.take_of_length_le (Nat.le_refl _), List.take_of_length_le (by omega)]
theorem cut_from (xs : List V) (k : Nat) : cutV xs (some (k : Int)) none = xs.drop k := by
  unfold cutV
  rw [HT.sIx_none, HT.sIx_nat]
  by_cases h : k ≤ xs.length
  · rw [Nat.min_eq_left h]
    exact List.take_of_length_le (by rw [List.length_drop]; exact Nat.le_refl _)
  · rw [Nat.min_eq_right (by omega), List.drop_eq_nil_of_le (Nat.le_refl _), List.drop_eq_nil_of_le (by omega)]
    exact List.take_nil
theorem zi (i : Nat) : (0 : Int) + (i : Int) = (i : Int) := Int.zero_add _
/-! tuples stand, whatever list is changed -/
def Tups (H H' : Hp) : Prop := ∀ a ys, H a = some (.tup ys) → H' a = some (.tup ys)
theorem Tups.of {H H' : Hp} (e : Same H H') : Tups H H' := fun a ys h => e a _ h
theorem Tups.bar {H H' : Hp} {p : Addr} {xs : List V} (b : Bar p H H') (hp : H p = some (.lst xs)) : Tups H H' := fun a ys h => b a _ (ne_of h hp (by intro z; cases z)) h
theorem Tups.put {H : Hp} {D : Addr} {xs : List V} {o : HO} (hp : H D = some (.lst xs)) : Tups H (upd H D o) := fun a ys h => by
  rw [upd_ne (ne_of h hp (by intro z; cases z))]
  exact h
theorem Tups.trans {H H1 H2 : Hp} (a : Tups H H1) (b : Tups H1 H2) : Tups H H2 := fun x ys h => b x ys (a x ys h)
theorem Strm.lst {s p : Addr} {H : Hp} (S : Strm s p H) : ∃ xs, H p = some (.lst xs) := by
  obtain ⟨d, ds, n, a1, a2, a3, a4, a5, a6⟩ := S.ex
  exact ⟨_, a4⟩
/-- covers, each a tuple that was made -/
def CovsH (H : Hp) (vs : List V) (cs : List Cov) : Prop := vs.length = cs.length ∧ ∀ (i : Nat) (c : Cov), cs[i]? = some c → ∃ a : Addr, vs[i]? = some (V.ref a) ∧ H a = some (.tup (cvV c)) ∧ CvOk c
theorem CovsH.to {H H' : Hp} {vs : List V} {cs : List Cov} (h : CovsH H vs cs) (e : Tups H H') : CovsH H' vs cs :=
  ⟨h.1, fun i c hi => let ⟨a, h1, h2, h3⟩ := h.2 i c hi; ⟨a, h1, e _ _ h2, h3⟩⟩
theorem CovsH.at {K : PySem.W.Frag} {H : Hp} {vs : List V} {cs : List Cov} (h : CovsH H vs cs) : CovsAt K H vs cs :=
  ⟨h.1, fun i c hi => let ⟨a, h1, h2, h3⟩ := h.2 i c hi; ⟨a, h1, SqT.of h2, h3⟩⟩
theorem CovsH.snoc {H : Hp} {vs : List V} {cs : List Cov} {a : Addr} {c : Cov} (h : CovsH H vs cs) (ha : H a = some (.tup (cvV c))) (hc : CvOk c) : CovsH H (vs ++ [.ref a]) (cs ++ [c]) := by
  refine ⟨by rw [List.length_append, List.length_append, h.1] <;> rfl, fun i d hi => ?_⟩
  by_cases hl : i < cs.length
  · rw [List.getElem?_append_left hl] at hi
    rw [List.getElem?_append_left (by rw [h.1]; exact hl)]
    exact h.2 i d hi
  · rw [List.getElem?_append_right (by omega)] at hi
    rw [List.getElem?_append_right (by rw [h.1]; omega), h.1]
    cases e : i - cs.length with
    | zero =>
      rw [e] at hi
      cases Option.some.inj hi
      exact ⟨a, rfl, ha, hc⟩
    | succ k =>
      rw [e] at hi
      simp at hi
theorem CovsH.ok' {H : Hp} {vs : List V} {cs : List Cov} (h : CovsH H vs cs) : AllOk cs := fun c hc => by
  obtain ⟨i, hi⟩ := List.mem_iff_getElem?.mp hc
  obtain ⟨_, _, _, r⟩ := h.2 i c hi
  exact r
theorem flat_rep (n : Nat) (v : V) : (List.replicate n [v]).flatten = List.replicate n v := by
  induction n with
  | zero => rfl
  | succ k ih => rw [List.replicate_succ, List.flatten_cons, ih, List.replicate_succ] <;> rfl
theorem eqv_ints (xs : List Int) : PyData.eqv (.list (xs.map PyData.int)) (.list (xs.map PyData.int)) = true :=
  SeqAt.eqv_refl _ (SeqAt.canLay_of_shaped (PySem.W.ke_shaped_ints xs))
theorem dp_lst {K : PySem.W.Frag} {H : Hp} {p : Addr} {ns : List Int} (h : SqL K H p (ns.map V.int)) : Dp K H (.ref p) (.list (ns.map PyData.int)) := .lst h (DpAll.ints ns)

end Sd
namespace Sd
open PySem PySem.Spec PyProof.Rows L2
set_option linter.all false
section
variable {P : Program} {w : World} {K : PySem.W.Frag} {mg : Str → Option Value} {base : Heap}
theorem ok_recovery {f : Addr} {fd : FuncData} (D_recovery : Dfn K mg "recovery" s_recovery ["cover", "loss"] f fd) (T : Tx mg) :
    FnOk P w K mg base CX0 (1) f fd ["cover", "loss"] (sp_recovery K) := by
  refine D_recovery.F.ok sc_recovery (fun vs H Q E h => ?_) (fun cdv A outer s H vs Q E hr h => ?_)
  · obtain ⟨a, c, x, rfl, hS, hc, q⟩ := h
    rfl
  obtain ⟨a, c, x, rfl, hS, hc, q⟩ := h
  refine ⟨_, (pss_cons (ps_if (pt_cmpR op_eq (pe_ix (r := rIxT K) ix_tup (pv 0) pe_int (fun _ _ => rfl)) pe_str (nomark _))
      (pss_one (ps_ret (pe_op op_fdiv (pe_op op_mul (pe_ix (r := rIxT K) ix_tup (pv 0) pe_int (fun _ _ => rfl)) (pv 1)) (pe_gi rfl T.g_WHOLE))))
      pss_nil)
      (pss_cons (ps_asg (pv 0) (pg_tup rfl (pgs_cons (pg_name (i := 2) sc_recovery.nd rfl (by first | exact Or.inl rfl | exact Or.inr rfl)) (pgs_cons (pg_name (i := 3) sc_recovery.nd rfl (by first | exact Or.inl rfl | exact Or.inr rfl)) (pgs_cons (pg_name (i := 4) sc_recovery.nd rfl (by first | exact Or.inl rfl | exact Or.inr rfl)) pgs_nil)))))
      (pss_one (ps_ret (pe_callB (call_min2 rfl) (by rfl) T.min (by decide +kernel) (pa_cons (pe_callB (call_max2 rfl) (by rfl) T.max (by decide +kernel) (pa_cons (pe_op op_sub (pv 1) (pv 3)) (pa_cons pe_int pa_nil))) (pa_cons (pv 4) pa_nil))))))), ?_⟩
  cases c with
  | share p =>
    obtain ⟨h1, h2⟩ := hc
    refine ⟨_, rfl, a, _, _, _, rfl, rfl, hS, rfl, rfl, _, rfl, ?_⟩
    refine iteT ?_
    exact ⟨_, rfl, a, _, _, _, rfl, rfl, hS, rfl, _, rfl, _, _, rfl, rfl, .inl ⟨by omega, by omega⟩, _, _, rfl, rfl, ⟨by decide, by decide⟩, q⟩
  | layer r l =>
    obtain ⟨h1, h2, h3, h4⟩ := hc
    refine ⟨_, rfl, a, _, _, _, rfl, rfl, hS, rfl, rfl, _, rfl, ?_⟩
    rw [show decide (V.str "layer" = V.str "share") = false from decide_eq_false (fun e => share_layer (V.str.inj e))]
    refine iteF ?_
    refine ⟨_, rfl, a, _, rfl, hS, rfl, _, _, rfl, _, _, rfl, _, _, rfl, rfl, ?_⟩
    refine ⟨_, rfl, _, rfl, _, _, rfl, rfl, _, _, rfl, _, rfl, _, _, rfl, ?_⟩
    rw [max_min r l x h3]
    exact q

theorem ok_programme {f : Addr} {fd : FuncData} (D_programme : Dfn K mg "programme" s_programme ["covers", "loss"] f fd) (T : Tx mg) {f_recovery : Addr} {fd_recovery : FuncData} (D_recovery : Dfn K mg "recovery" s_recovery ["cover", "loss"] f_recovery fd_recovery) (G_recovery : FnOk P w K mg base CX0 (1) f_recovery fd_recovery ["cover", "loss"] (sp_recovery K)) :
    FnOk P w K mg base CX0 (2) f fd ["covers", "loss"] (sp_programme K) := by
  refine D_programme.F.ok sc_programme (fun vs H Q E h => ?_) (fun cdv A outer s H vs Q E hr h => ?_)
  · obtain ⟨s, x, ys, cs, rfl, hq, hC, hl, q⟩ := h
    rfl
  obtain ⟨s, x, ys, cs, rfl, hq, hC, hl, q⟩ := h
  have hyl : ys.length = cs.length := hC.1
  rcases hq with hq | hq
  · refine ⟨_, (pss_cons (ps_set (i := 2) sc_programme.nd rfl (by first | exact Or.inl rfl | exact Or.inr rfl) (pe_lst pa_nil))
      (pss_cons (ps_set (i := 3) sc_programme.nd rfl (by first | exact Or.inl rfl | exact Or.inr rfl) (pv 1))
      (pss_cons (ps_for PassesOwn.never rfl (pi_list (pv 0)) (pg_name (i := 4) sc_programme.nd rfl (by first | exact Or.inl rfl | exact Or.inr rfl))
      (pss_cons (ps_set (i := 5) sc_programme.nd rfl (by first | exact Or.inl rfl | exact Or.inr rfl) (pe_call G_recovery (hr.mono (by first | decide | omega)) rfl D_recovery.m D_recovery.F.kp D_recovery.b .nil pass0 (pa_cons (pv 4) (pa_cons (pv 3) pa_nil))))
      (pss_cons (ps_expr (pe_bm PySem.F.plainAttrs_list PySem.F.slot_list_append PySem.F.type_list_append mt_append (pv 2) (pa_cons (pv 5) pa_nil)))
      (pss_one (ps_aug (i := 3) sc_programme.nd rfl (by first | exact Or.inl rfl | exact Or.inr rfl) (pv 5) ip_sub)))))
      (pss_one (ps_ret (pe_tup (pa_cons (pe_callTy call_tuple_of (by rfl) T.tuple (by decide +kernel) (pa_cons (pv 2) pa_nil)) (pa_cons (pv 3) pa_nil)))))))), ?_⟩
    refine ⟨Nat.zero_le _, fun o no => ?_⟩
    have s1 := same_new (o := .lst []) no
    refine ⟨_, rfl, _, rfl, s, rfl, ⟨_, s1.seq hq⟩, for_list (K := K) (a := s) (xs := ys) (fun i σ H' => ∃ (r : Int) (acc : List Int) (v1 v2 : Option V), σ = [some (.ref s), some (.int x), some (.ref o), some (.int r), v1, v2] ∧ Same H H' ∧ H' o = some (.lst (acc.map V.int)) ∧ acc.length = i ∧
      prog cs x = (acc ++ (prog (cs.drop i) r).1, (prog (cs.drop i) r).2)) ⟨x, [], none, none, rfl, s1, upd_same, rfl, rfl⟩ (fun i σ H' _ ⟨_, _, _, _, _, sm, _⟩ => sm.seq hq) ?_ ?_⟩
    · rintro i y σ H' hi ⟨r, acc, v1, v2, rfl, sm, ho, hal, hp⟩
      obtain ⟨a, c, rfl, hc, ha, hok⟩ := hC.get hi
      have hil := (List.getElem?_eq_some_iff.mp hc).1
      rw [prog_step hc] at hp
      refine ⟨_, rfl, _, rfl, a, c, r, rfl, same_sqt sm ha, hok, ?_⟩
      refine ⟨_, rfl, .inl ⟨rfl, _, SqL.of ho⟩, _, rfl, o, _, _, rfl, rfl, ho, by rw [List.length_map]; exact szl (by omega), ?_⟩
      refine ⟨_, rfl, _, rfl, _, _, rfl, rfl, ?_⟩
      refine ⟨r - pays c r, acc ++ [pays c r], _, _, rfl, same_put sm no, ?_, ?_, ?_⟩
      · rw [upd_same, List.map_append]
        rfl
      · rw [List.length_append, hal]
        rfl
      · rw [hp, List.append_assoc]
        rfl
    · rintro σ H' ⟨r, acc, v1, v2, rfl, sm, ho, hal, hp⟩
      rw [hyl, List.drop_eq_nil_of_le (Nat.le_refl _)] at hp
      have hp2 : prog cs x = (acc, r) := by
        rw [hp]
        show (acc ++ [], r) = (acc, r)
        rw [List.append_nil]
      rw [hp2] at q
      refine ⟨_, rfl, o, _, rfl, .inl ⟨SqL.of ho, fun t nt => ⟨_, rfl, sz (by show 2 ≤ 100000; decide), fun p np => ?_⟩⟩⟩
      exact q t p _ (same_add (same_add sm nt) np) (same_new np _ _ upd_same) upd_same
  · refine ⟨_, (pss_cons (ps_set (i := 2) sc_programme.nd rfl (by first | exact Or.inl rfl | exact Or.inr rfl) (pe_lst pa_nil))
      (pss_cons (ps_set (i := 3) sc_programme.nd rfl (by first | exact Or.inl rfl | exact Or.inr rfl) (pv 1))
      (pss_cons (ps_for PassesOwn.never rfl (pi_tup (pv 0)) (pg_name (i := 4) sc_programme.nd rfl (by first | exact Or.inl rfl | exact Or.inr rfl))
      (pss_cons (ps_set (i := 5) sc_programme.nd rfl (by first | exact Or.inl rfl | exact Or.inr rfl) (pe_call G_recovery (hr.mono (by first | decide | omega)) rfl D_recovery.m D_recovery.F.kp D_recovery.b .nil pass0 (pa_cons (pv 4) (pa_cons (pv 3) pa_nil))))
      (pss_cons (ps_expr (pe_bm PySem.F.plainAttrs_list PySem.F.slot_list_append PySem.F.type_list_append mt_append (pv 2) (pa_cons (pv 5) pa_nil)))
      (pss_one (ps_aug (i := 3) sc_programme.nd rfl (by first | exact Or.inl rfl | exact Or.inr rfl) (pv 5) ip_sub)))))
      (pss_one (ps_ret (pe_tup (pa_cons (pe_callTy call_tuple_of (by rfl) T.tuple (by decide +kernel) (pa_cons (pv 2) pa_nil)) (pa_cons (pv 3) pa_nil)))))))), ?_⟩
    refine ⟨Nat.zero_le _, fun o no => ?_⟩
    have s1 := same_new (o := .lst []) no
    refine ⟨_, rfl, _, rfl, s, rfl, ⟨_, same_sqt s1 hq⟩, for_tup (K := K) (a := s) (xs := ys) (fun i σ H' => ∃ (r : Int) (acc : List Int) (v1 v2 : Option V), σ = [some (.ref s), some (.int x), some (.ref o), some (.int r), v1, v2] ∧ Same H H' ∧ H' o = some (.lst (acc.map V.int)) ∧ acc.length = i ∧
      prog cs x = (acc ++ (prog (cs.drop i) r).1, (prog (cs.drop i) r).2)) ⟨x, [], none, none, rfl, s1, upd_same, rfl, rfl⟩ (fun i σ H' _ ⟨_, _, _, _, _, sm, _⟩ => same_sqt sm hq) ?_ ?_⟩
    · rintro i y σ H' hi ⟨r, acc, v1, v2, rfl, sm, ho, hal, hp⟩
      obtain ⟨a, c, rfl, hc, ha, hok⟩ := hC.get hi
      have hil := (List.getElem?_eq_some_iff.mp hc).1
      rw [prog_step hc] at hp
      refine ⟨_, rfl, _, rfl, a, c, r, rfl, same_sqt sm ha, hok, ?_⟩
      refine ⟨_, rfl, .inl ⟨rfl, _, SqL.of ho⟩, _, rfl, o, _, _, rfl, rfl, ho, by rw [List.length_map]; exact szl (by omega), ?_⟩
      refine ⟨_, rfl, _, rfl, _, _, rfl, rfl, ?_⟩
      refine ⟨r - pays c r, acc ++ [pays c r], _, _, rfl, same_put sm no, ?_, ?_, ?_⟩
      · rw [upd_same, List.map_append]
        rfl
      · rw [List.length_append, hal]
        rfl
      · rw [hp, List.append_assoc]
        rfl
    · rintro σ H' ⟨r, acc, v1, v2, rfl, sm, ho, hal, hp⟩
      rw [hyl, List.drop_eq_nil_of_le (Nat.le_refl _)] at hp
      have hp2 : prog cs x = (acc, r) := by
        rw [hp]
        show (acc ++ [], r) = (acc, r)
        rw [List.append_nil]
      rw [hp2] at q
      refine ⟨_, rfl, o, _, rfl, .inl ⟨SqL.of ho, fun t nt => ⟨_, rfl, sz (by show 2 ≤ 100000; decide), fun p np => ?_⟩⟩⟩
      exact q t p _ (same_add (same_add sm nt) np) (same_new np _ _ upd_same) upd_same

theorem ok_law_cell {f : Addr} {fd : FuncData} (D_law_cell : Dfn K mg "_law_cell" s_law_cell ["script", "k"] f fd) (T : Tx mg) :
    FnOk P w K mg base CX0 (1) f fd ["script", "k"] (sp_law_cell K) := by
  refine D_law_cell.F.ok sc_law_cell (fun vs H Q E h => ?_) (fun cdv A outer s H vs Q E hr h => ?_)
  · obtain ⟨a, ns, j, rfl, hS, q⟩ := h
    rfl
  obtain ⟨a, ns, j, rfl, hS, q⟩ := h
  refine ⟨_, (pss_cons (ps_if (pt_cmpR op_lt (pv 1) (pe_callB call_len_seq (by rfl) T.len PySem.boot_len (pa_cons (pv 0) pa_nil)) (nomark _))
      (pss_one (ps_ret (pe_callTy call_int1 (by rfl) T.int (by decide +kernel) (pa_cons (pe_ix (r := rIxL K) ix_list (pv 0) (pv 1) (fun _ _ => rfl)) pa_nil))))
      pss_nil)
      (pss_one (ps_ret pe_int))), ?_⟩
  refine ⟨_, rfl, _, rfl, a, _, rfl, .inl hS, _, _, rfl, rfl, _, rfl, ?_⟩
  refine iteB (fun c => ?_) (fun c => ?_)
  · have c' : (j : Int) < ((ns.map V.int).length : Nat) := of_decide_eq_true c
    rw [List.length_map] at c'
    exact ⟨_, rfl, _, rfl, a, _, _, V.int (cell ns j), rfl, rfl, hS, atI_nat (at_map (cell_in (by omega))), .inl ⟨_, rfl, q⟩⟩
  · have c' : ¬ (j : Int) < ((ns.map V.int).length : Nat) := of_decide_eq_false c
    rw [List.length_map] at c'
    have e : cell ns j = 0 := cell_out (by omega)
    rw [e] at q
    exact q

theorem ok_law_draws {f : Addr} {fd : FuncData} (D_law_draws : Dfn K mg "_law_draws" s_law_draws ["cell", "count"] f fd) (T : Tx mg) :
    FnOk P w K mg base CX0 (1) f fd ["cell", "count"] (sp_law_draws K) := by
  refine D_law_draws.F.ok sc_law_draws (fun vs H Q E h => ?_) (fun cdv A outer s H vs Q E hr h => ?_)
  · obtain ⟨c, n, rfl, hn, q⟩ := h
    rfl
  obtain ⟨c, n, rfl, hn, q⟩ := h
  refine ⟨_, (pss_cons (ps_set (i := 2) sc_law_draws.nd rfl (by first | exact Or.inl rfl | exact Or.inr rfl) (pe_callB call_abs (by rfl) T.abs (by decide +kernel) (pa_cons (pe_callTy call_int1 (by rfl) T.int (by decide +kernel) (pa_cons (pv 0) pa_nil)) pa_nil)))
      (pss_cons (ps_set (i := 3) sc_law_draws.nd rfl (by first | exact Or.inl rfl | exact Or.inr rfl) (pe_cmpR op_ge (pv 2) (pe_op op_pow pe_int pe_int) (nomark _)))
      (pss_cons (ps_set (i := 4) sc_law_draws.nd rfl (by first | exact Or.inl rfl | exact Or.inr rfl) (pe_lst pa_nil))
      (pss_cons (ps_for PassesOwn.never rfl (pi_range1 (by rfl) T.range (pa_cons pe_int pa_nil)) (pg_name (i := 5) sc_law_draws.nd rfl (by first | exact Or.inl rfl | exact Or.inr rfl))
      (pss_one (ps_if (PW.pt (pw_and (pt_cmpR op_lt (pv 5) (pv 1) (nomark _)) (pw_and1 (pt_val (pv 3)))))
      (pss_cons (ps_expr (pe_bm PySem.F.plainAttrs_list PySem.F.slot_list_append PySem.F.type_list_append mt_append (pv 4) (pa_cons (pe_op op_mod (pv 2) pe_int) pa_nil)))
      (pss_one (ps_set (i := 2) sc_law_draws.nd rfl (by first | exact Or.inl rfl | exact Or.inr rfl) (pe_op op_fdiv (pv 2) pe_int))))
      (pss_one (ps_if (pt_cmpR op_lt (pv 5) (pv 1) (nomark _))
      (pss_cons (ps_set (i := 6) sc_law_draws.nd rfl (by first | exact Or.inl rfl | exact Or.inr rfl) (pe_op op_mod (pe_op op_add (pe_op op_add (pe_op op_mul (pe_callTy call_int1 (by rfl) T.int (by decide +kernel) (pa_cons (pv 2) pa_nil)) pe_int) (pe_op op_mul (pv 5) pe_int)) pe_int) pe_int))
      (pss_cons (ps_set (i := 6) sc_law_draws.nd rfl (by first | exact Or.inl rfl | exact Or.inr rfl) (pe_op op_mod (pe_op op_add (pe_op op_add (pe_op op_mul (pe_callTy call_int1 (by rfl) T.int (by decide +kernel) (pa_cons (pv 6) pa_nil)) (pe_callTy call_int1 (by rfl) T.int (by decide +kernel) (pa_cons (pv 6) pa_nil))) (pe_op op_mul (pv 5) pe_int)) pe_int) pe_int))
      (pss_one (ps_expr (pe_bm PySem.F.plainAttrs_list PySem.F.slot_list_append PySem.F.type_list_append mt_append (pv 4) (pa_cons (pe_op op_mod (pe_callTy call_int1 (by rfl) T.int (by decide +kernel) (pa_cons (pv 6) pa_nil)) pe_int) pa_nil))))))
      pss_nil)))))
      (pss_one (ps_ret (pv 4))))))), ?_⟩
  refine ⟨_, rfl, .inl ⟨_, rfl, _, rfl, _, rfl, _, _, rfl, rfl, ⟨by decide, by decide, by decide⟩, _, _, rfl, rfl, Nat.zero_le _, fun o no => ?_⟩⟩
  have h0 : 0 ≤ (if c < 0 then -c else c) := by split <;> omega
  generalize (if c < 0 then -c else c) = num at h0 ⊢
  obtain ⟨gr, hg⟩ : ∃ gr, decide ((10 : Int) ^ (18 : Int).toNat ≤ num) = gr := ⟨_, rfl⟩
  have h1 : gr = false → num < 1000000000000000000 := fun e => by
    rw [e] at hg
    have z := of_decide_eq_false hg
    have z2 : (10 : Int) ^ (18 : Int).toNat = 1000000000000000000 := by decide
    rw [z2] at z
    omega
  refine ⟨60, rfl, by decide, by decide, for_range (lo := 0) (n := 60) (fun i σ H' => ∃ (m : Int) (ds : List Int) (kv mv : Option V), σ = [some (.int c), some (.int (n : Int)), some (.int m), some (.bl gr), some (.ref o), kv, mv] ∧ 0 ≤ m ∧ (gr = false → m < 1000000000000000000) ∧
    Same H H' ∧ H' o = some (.lst (ds.map V.int)) ∧ ds.length = min i n ∧ ∀ x ∈ ds, 0 ≤ x ∧ x < 60) ⟨num, [], none, none, by rw [← hg]; rfl, h0, h1, same_new no, upd_same, by simp, fun x hx => (nomatch hx)⟩ ?_ ?_⟩
  · rintro i σ H' hi ⟨m, ds, kv, mv, rfl, m0, m1, sm, ho, hl, hb⟩
    have app : ∀ z : Int, ((ds ++ [z % 60]).length = ds.length + 1) := fun z => by rw [List.length_append]; rfl
    have ea : ∀ z : Int, ds.map V.int ++ [V.int (z % 60)] = (ds ++ [z % 60]).map V.int := fun z => by rw [List.map_append]; rfl
    have hz : (ds.map V.int).length < sizeLine := by rw [List.length_map]; exact szl (by omega)
    refine ⟨_, rfl, _, rfl, _, _, rfl, rfl, _, rfl, ?_⟩
    refine iteB (fun c1 => ?_) (fun c1 => ?_)
    · have c1' : (0 : Int) + (i : Int) < (n : Int) := of_decide_eq_true c1
      refine ⟨_, rfl, _, rfl, ?_⟩
      refine iteB (fun c2 => ?_) (fun c2 => ?_)
      · refine ⟨_, rfl, .inl ⟨rfl, _, SqL.of ho⟩, _, rfl, _, _, rfl, rfl, (by show (0 : Int) < 60; decide), o, _, _, rfl, rfl, ho, hz, ?_⟩
        refine ⟨_, rfl, _, _, rfl, rfl, ⟨by decide, by decide⟩, ?_⟩
        refine ⟨m / 60, ds ++ [m % 60], _, _, rfl, Int.ediv_nonneg m0 (by decide), (fun z => by rw [c2] at z; cases z), same_put sm no, by rw [upd_same, ea], by rw [app]; omega, digs_add hb⟩
      · have g1 := m1 c2
        refine ⟨_, rfl, _, rfl, _, _, rfl, rfl, _, rfl, ?_⟩
        refine iteB (fun c3 => ?_) (fun c3 => ?_)
        · refine ⟨_, rfl, .inl ⟨_, rfl, _, _, rfl, rfl, .inr (by decide), _, rfl, _, _, rfl, rfl, .inr (by decide), _, _, rfl, rfl, _, _, rfl, rfl, _, _, rfl, rfl, (by show (0 : Int) < 2147483647; decide), ?_⟩⟩
          generalize hx : ((m * 48271 + (0 + (i : Int)) * 69621 + 11) % 2147483647) = x
          have x0 : 0 ≤ x ∧ x < 2147483647 := by omega
          refine ⟨_, rfl, .inl ⟨_, rfl, _, rfl, .inl ⟨_, rfl, _, _, rfl, rfl, .inl (by constructor <;> omega), _, rfl, _, _, rfl, rfl, .inr (by decide), _, _, rfl, rfl, _, _, rfl, rfl, _, _, rfl, rfl, (by show (0 : Int) < 998244353; decide), ?_⟩⟩⟩
          refine ⟨_, rfl, .inl ⟨rfl, _, SqL.of ho⟩, _, rfl, .inl ⟨_, rfl, _, _, rfl, rfl, (by show (0 : Int) < 60; decide), o, _, _, rfl, rfl, ho, hz, ?_⟩⟩
          refine ⟨m, ds ++ [_ % 60], _, _, rfl, m0, m1, same_put sm no, by rw [upd_same, ea], by rw [app]; omega, digs_add hb⟩
        · rw [c1] at c3
          cases c3
    · have c1' : ¬ (0 : Int) + (i : Int) < (n : Int) := of_decide_eq_false c1
      refine ⟨_, rfl, _, rfl, _, _, rfl, rfl, _, rfl, ?_⟩
      refine iteB (fun c3 => ?_) (fun c3 => ?_)
      · rw [c1] at c3
        cases c3
      · exact ⟨m, ds, _, _, rfl, m0, m1, sm, ho, by omega, hb⟩
  · rintro σ H' ⟨m, ds, kv, mv, rfl, m0, m1, sm, ho, hl, hb⟩
    exact ⟨_, rfl, q o H' ds sm no ho ⟨by omega, hb⟩⟩

theorem ok_law_stream {f : Addr} {fd : FuncData} (D_law_stream : Dfn K mg "_law_stream" s_law_stream ["script", "first", "count"] f fd) (T : Tx mg) {f_law_draws : Addr} {fd_law_draws : FuncData} (D_law_draws : Dfn K mg "_law_draws" s_law_draws ["cell", "count"] f_law_draws fd_law_draws) (G_law_draws : FnOk P w K mg base CX0 (1) f_law_draws fd_law_draws ["cell", "count"] (sp_law_draws K)) {f_law_cell : Addr} {fd_law_cell : FuncData} (D_law_cell : Dfn K mg "_law_cell" s_law_cell ["script", "k"] f_law_cell fd_law_cell) (G_law_cell : FnOk P w K mg base CX0 (1) f_law_cell fd_law_cell ["script", "k"] (sp_law_cell K)) :
    FnOk P w K mg base CX0 (2) f fd ["script", "first", "count"] (sp_law_stream K) := by
  refine D_law_stream.F.ok sc_law_stream (fun vs H Q E h => ?_) (fun cdv A outer s H vs Q E hr h => ?_)
  · obtain ⟨a, ns, j, n, rfl, hS, hn0, hn, q⟩ := h
    rfl
  obtain ⟨a, ns, j, n, rfl, hS, hn0, hn, q⟩ := h
  refine ⟨_, (pss_cons (ps_set (i := 3) sc_law_stream.nd rfl (by first | exact Or.inl rfl | exact Or.inr rfl) (pe_lst pa_nil))
      (pss_cons (ps_for PassesOwn.never rfl (pi_range1 (by rfl) T.range (pa_cons (pv 2) pa_nil)) (pg_name (i := 4) sc_law_stream.nd rfl (by first | exact Or.inl rfl | exact Or.inr rfl))
      (pss_one (ps_expr (pe_bm PySem.F.plainAttrs_list PySem.F.slot_list_extend PySem.F.type_list_extend mt_extend (pv 3) (pa_cons (pe_call G_law_draws (hr.mono (by first | decide | omega)) rfl D_law_draws.m D_law_draws.F.kp D_law_draws.b .nil pass0 (pa_cons (pe_call G_law_cell (hr.mono (by first | decide | omega)) rfl D_law_cell.m D_law_cell.F.kp D_law_cell.b .nil pass0 (pa_cons (pv 0) (pa_cons (pe_op op_add (pv 1) (pv 4)) pa_nil))) (pa_cons pe_int pa_nil))) pa_nil)))))
      (pss_one (ps_ret (pe_lst (pa_cons (pv 3) (pa_cons (pe_lst (pa_cons pe_int pa_nil)) pa_nil))))))), ?_⟩
  refine ⟨Nat.zero_le _, fun o no => ?_⟩
  refine ⟨_, rfl, (n : Int), rfl, by omega, by omega, ?_⟩
  rw [show (n : Int).toNat = n by omega]
  refine for_range (lo := 0) (n := n) (fun i σ H' => ∃ (ds : List Int) (kv : Option V), σ = [some (.ref a), some (.int (j : Int)), some (.int (n : Int)), some (.ref o), kv] ∧ Same H H' ∧ H' o = some (.lst (ds.map V.int)) ∧ ds.length = 12 * i) ⟨[], none, rfl, same_new no, upd_same, rfl⟩ ?_ ?_
  · rintro i σ H' hi ⟨ds, kv, rfl, sm, ho, hl⟩
    refine ⟨_, rfl, .inl ⟨rfl, _, SqL.of ho⟩, _, rfl, _, rfl, _, rfl, _, _, rfl, rfl, a, ns, j + i, ?_, sm.seq hS, ?_⟩
    · show [V.ref a, V.int ((j : Int) + ((0 : Int) + (i : Int)))] = [V.ref a, V.int ((j + i : Nat) : Int)]
      rw [show (j : Int) + ((0 : Int) + (i : Int)) = ((j + i : Nat) : Int) by omega]
    · refine ⟨_, 12, rfl, by decide, fun o2 H2 d2 s2 n2 h2 hd => ?_⟩
      have ne : o ≠ o2 := ne_of_none ho n2
      have e1 := s2 _ _ ho
      refine ⟨o, o2, _, _, rfl, rfl, e1, h2, ?_, ?_⟩
      · rw [List.length_map, List.length_map, hl, hd.1]
        exact sz (by omega)
      · refine ⟨ds ++ d2, _, rfl, same_put (sm.trans s2) no, by rw [upd_same, List.map_append], ?_⟩
        rw [List.length_append, hl, hd.1]
        omega
  · rintro σ H' ⟨ds, kv, rfl, sm, ho, hl⟩
    refine ⟨_, rfl, sz (by show 1 ≤ 100000; decide), fun p np => ?_⟩
    refine ⟨sz (by show 2 ≤ 100000; decide), fun s ns' => ?_⟩
    have n1 : o ≠ p := ne_of_none ho np
    have n2 : s ≠ p := Bar.new upd_same ns'
    have n3 : o ≠ s := ne_of_none (by rw [upd_ne n1]; exact ho) ns'
    refine q s p _ (same_add (same_add sm np) ns') (sm.free np) ⟨o, ds, 0, upd_same, ?_, by omega, ?_, n2, n1⟩
    · rw [upd_ne n3, upd_ne n1]
      exact ho
    · rw [upd_ne n2.symm, upd_same]
      rfl

theorem ok_law_next {f : Addr} {fd : FuncData} (D_law_next : Dfn K mg "_law_next" s_law_next ["stream", "many"] f fd) (T : Tx mg) :
    FnOk P w K mg base CX0 (1) f fd ["stream", "many"] (sp_law_next K) := by
  refine D_law_next.F.ok sc_law_next (fun vs H Q E h => ?_) (fun cdv A outer s H vs Q E hr h => ?_)
  · obtain ⟨s, p, m, rfl, hm, hS, q⟩ := h
    rfl
  obtain ⟨s, p, m, rfl, hm, hS, q⟩ := h
  refine ⟨_, (pss_cons (ps_set (i := 2) sc_law_next.nd rfl (by first | exact Or.inl rfl | exact Or.inr rfl) (pe_ix (r := rIxL K) ix_list (pv 0) pe_int (fun _ _ => rfl)))
      (pss_cons (ps_set (i := 3) sc_law_next.nd rfl (by first | exact Or.inl rfl | exact Or.inr rfl) (pe_ix (r := rIxL K) ix_list (pv 0) pe_int (fun _ _ => rfl)))
      (pss_cons (ps_set (i := 4) sc_law_next.nd rfl (by first | exact Or.inl rfl | exact Or.inr rfl) (pe_op op_mod (pe_callTy call_int1 (by rfl) T.int (by decide +kernel) (pa_cons (pe_ix (r := rIxL K) ix_list (pv 2) (pe_op op_mod (pe_callTy call_int1 (by rfl) T.int (by decide +kernel) (pa_cons (pe_ix (r := rIxL K) ix_list (pv 3) pe_int (fun _ _ => rfl)) pa_nil)) (pe_callB call_len_seq (by rfl) T.len PySem.boot_len (pa_cons (pv 2) pa_nil))) (fun _ _ => rfl)) pa_nil)) (pv 1)))
      (pss_cons (ps_asg (pe_op op_add (pe_ix (r := rIxL K) ix_list (pv 3) pe_int (fun _ _ => rfl)) pe_int) (pg_sub (pv 3) pe_int set_list))
      (pss_one (ps_ret (pv 4))))))), ?_⟩
  obtain ⟨d, ds, n, a1, a2, a3, a4, a5, a6⟩ := hS.ex
  obtain ⟨v, hv⟩ := mod_at (n := n) a3
  refine ⟨_, rfl, s, _, _, .ref d, rfl, rfl, SqL.of a1, rfl, ?_⟩
  refine ⟨_, rfl, s, _, _, .ref p, rfl, rfl, SqL.of a1, rfl, ?_⟩
  refine ⟨_, rfl, _, rfl, p, _, _, .int (n : Int), rfl, rfl, SqL.of a4, rfl, .inl ⟨_, rfl, _, rfl, d, _, rfl, .inl (SqL.of a2), _, _, rfl, rfl, ?_, d, _, _, .int v, rfl, rfl, SqL.of a2, hv, .inl ⟨_, rfl, _, rfl, _, _, rfl, rfl, hm, ?_⟩⟩⟩
  · rw [List.length_map]
    show (0 : Int) < (ds.length : Int)
    omega
  refine ⟨_, rfl, p, _, _, .int (n : Int), rfl, rfl, SqL.of a4, rfl, _, _, rfl, rfl, _, rfl, p, _, 0, 0, rfl, rfl, a4, rfl, ?_⟩
  refine ⟨_, rfl, q _ _ (Int.emod_nonneg _ (by omega)) (Int.emod_lt_of_pos _ hm) (Bar.put (Bar.refl H)) ⟨d, ds, n + 1, ?_, ?_, a3, ?_, a5, a6⟩⟩
  · rw [upd_ne a5]
    exact a1
  · rw [upd_ne a6]
    exact a2
  · rw [upd_same]
    rfl

theorem ok_law_is_integer {f : Addr} {fd : FuncData} (D_law_is_integer : Dfn K mg "_law_is_integer" s_law_is_integer ["actual"] f fd) (T : Tx mg) :
    FnOk P w K mg base CX0 (1) f fd ["actual"] (sp_law_is_integer K) := by
  refine D_law_is_integer.F.ok sc_law_is_integer (fun vs H Q E h => ?_) (fun cdv A outer s H vs Q E hr h => ?_)
  · obtain ⟨i, rfl, q⟩ := h
    rfl
  obtain ⟨i, rfl, q⟩ := h
  refine ⟨_, (pss_one (ps_ret (pe_and (pe_callB call_isi (by rfl) T.isinstance (by decide +kernel) (pa_cons (pv 0) (pa_cons (pe_bltn (v := .ty "int") (by rfl) T.int (by decide +kernel) rfl) pa_nil))) (pe_one (pe_not (pe_callB call_isi (by rfl) T.isinstance (by decide +kernel) (pa_cons (pv 0) (pa_cons (pe_bltn (v := .ty "bool") (by rfl) T.bool (by decide +kernel) rfl) pa_nil)))))))), ?_⟩
  refine ⟨_, rfl, _, _, _, _, _, rfl, .ty _, .base (.int i), kit_ty (r := true) (by decide +kernel), _, rfl, ?_⟩
  refine iteT ?_
  refine ⟨_, rfl, _, _, _, _, _, rfl, .ty _, .base (.int i), kit_ty (r := false) (by decide +kernel), _, rfl, ?_⟩
  exact q

theorem ok_law_same {f : Addr} {fd : FuncData} (D_law_same : Dfn K mg "_law_same" s_law_same ["actual", "expected"] f fd) (T : Tx mg) {f_law_is_integer : Addr} {fd_law_is_integer : FuncData} (D_law_is_integer : Dfn K mg "_law_is_integer" s_law_is_integer ["actual"] f_law_is_integer fd_law_is_integer) (G_law_is_integer : FnOk P w K mg base CX0 (1) f_law_is_integer fd_law_is_integer ["actual"] (sp_law_is_integer K)) {n:Nat} (IH:FnOk P w K mg base CX0 (n+1) f fd ["actual","expected"] (sp_law_same K n)) :
    FnOk P w K mg base CX0 (n+2) f fd ["actual", "expected"] (sp_law_same K (n+1)) := by
  refine D_law_same.F.ok sc_law_same (fun vs H Q E h => ?_) (fun cdv A outer s H vs Q E hr h => ?_)
  · obtain ⟨x, y, d, rfl, hd, hx, hy, q⟩ := h
    rfl
  obtain ⟨x, y, d, rfl, hd, hx, hy, q⟩ := h
  refine ⟨_, (pss_cons (ps_if (pt_cmpR op_isN (pv 1) pe_non (nomark _))
      (pss_one (ps_ret (pe_cmpR op_isN (pv 0) pe_non (nomark _))))
      pss_nil)
      (pss_cons (ps_if (pt_val (pe_callB call_isi (by rfl) T.isinstance (by decide +kernel) (pa_cons (pv 1) (pa_cons (pe_bltn (v := .ty "bool") (by rfl) T.bool (by decide +kernel) rfl) pa_nil))))
      (pss_one (ps_ret (pe_and (pe_callB call_isi (by rfl) T.isinstance (by decide +kernel) (pa_cons (pv 0) (pa_cons (pe_bltn (v := .ty "bool") (by rfl) T.bool (by decide +kernel) rfl) pa_nil))) (pe_one (pe_cmpR op_eq (pv 0) (pv 1) (nomark _))))))
      pss_nil)
      (pss_cons (ps_if (pt_val (pe_callB call_isi (by rfl) T.isinstance (by decide +kernel) (pa_cons (pv 1) (pa_cons (pe_bltn (v := .ty "int") (by rfl) T.int (by decide +kernel) rfl) pa_nil))))
      (pss_one (ps_ret (pe_and (pe_call G_law_is_integer (hr.mono (by first | decide | omega)) rfl D_law_is_integer.m D_law_is_integer.F.kp D_law_is_integer.b .nil pass0 (pa_cons (pv 0) pa_nil)) (pe_one (pe_cmpR op_eq (pv 0) (pv 1) (nomark _))))))
      pss_nil)
      (pss_cons (ps_if (pt_val (pe_callB call_isi (by rfl) T.isinstance (by decide +kernel) (pa_cons (pv 1) (pa_cons (pe_bltn (v := .ty "str") (by rfl) T.str (by decide +kernel) rfl) pa_nil))))
      (pss_one (ps_ret (pe_and (pe_callB call_isi (by rfl) T.isinstance (by decide +kernel) (pa_cons (pv 0) (pa_cons (pe_bltn (v := .ty "str") (by rfl) T.str (by decide +kernel) rfl) pa_nil))) (pe_one (pe_cmpR op_eq (pv 0) (pv 1) (nomark _))))))
      pss_nil)
      (pss_cons (ps_if (PW.pt (pw_and (pt_val (pe_callB call_isi (by rfl) T.isinstance (by decide +kernel) (pa_cons (pv 1) (pa_cons (pe_bltn (v := .ty "tuple") (by rfl) T.tuple (by decide +kernel) rfl) pa_nil)))) (pw_and1 (pt_not (pt_val (pe_callB call_isi (by rfl) T.isinstance (by decide +kernel) (pa_cons (pv 0) (pa_cons (pe_bltn (v := .ty "tuple") (by rfl) T.tuple (by decide +kernel) rfl) pa_nil))))))))
      (pss_one (ps_ret pe_bl))
      pss_nil)
      (pss_cons (ps_if (PW.pt (pw_and (pt_val (pe_callB call_isi (by rfl) T.isinstance (by decide +kernel) (pa_cons (pv 1) (pa_cons (pe_bltn (v := .ty "list") (by rfl) T.list (by decide +kernel) rfl) pa_nil)))) (pw_and1 (pt_not (pt_val (pe_callB call_isi (by rfl) T.isinstance (by decide +kernel) (pa_cons (pv 0) (pa_cons (pe_bltn (v := .ty "list") (by rfl) T.list (by decide +kernel) rfl) pa_nil))))))))
      (pss_one (ps_ret pe_bl))
      pss_nil)
      (pss_cons (ps_if (pt_cmpR op_ne (pe_callB call_len_seq (by rfl) T.len PySem.boot_len (pa_cons (pv 0) pa_nil)) (pe_callB call_len_seq (by rfl) T.len PySem.boot_len (pa_cons (pv 1) pa_nil)) (nomark _))
      (pss_one (ps_ret pe_bl))
      pss_nil)
      (pss_cons (ps_for PassesOwn.never rfl (pi_range1 (by rfl) T.range (pa_cons (pe_callB call_len_seq (by rfl) T.len PySem.boot_len (pa_cons (pv 1) pa_nil)) pa_nil)) (pg_name (i := 2) sc_law_same.nd rfl (by first | exact Or.inl rfl | exact Or.inr rfl))
      (pss_one (ps_if (pt_not (pt_val (pe_call IH hr rfl D_law_same.m D_law_same.F.kp D_law_same.b .nil pass0 (pa_cons (pe_ix (r := rIx K) ix_seq (pv 0) (pv 2) (fun _ _ => rfl)) (pa_cons (pe_ix (r := rIx K) ix_seq (pv 1) (pv 2) (fun _ _ => rfl)) pa_nil)))))
      (pss_one (ps_ret pe_bl))
      pss_nil)))
      (pss_one (ps_ret pe_bl)))))))))), ?_⟩
  cases hx <;> cases hy
  case non.non => exact ⟨_, rfl, rfl, _, rfl, iteT ⟨_, rfl, rfl, q⟩⟩
  case bl.bl b =>
    refine ⟨_, rfl, rfl, _, rfl, iteF ⟨_, rfl, _, _, _, _, _, rfl, .ty _, .base (.bl b), kit_ty (r := true) (by decide +kernel), _, rfl, iteT ?_⟩⟩
    refine ⟨_, rfl, _, _, _, _, _, rfl, .ty _, .base (.bl b), kit_ty (r := true) (by decide +kernel), _, rfl, iteT ⟨_, rfl, _, rfl, rfl, ?_⟩⟩
    show Q (.bl (decide (V.bl b = V.bl b))) H
    rw [decide_eq_true rfl]
    exact q
  case int.int b =>
    refine ⟨_, rfl, rfl, _, rfl, iteF ⟨_, rfl, _, _, _, _, _, rfl, .ty _, .base (.int b), kit_ty (r := false) (by decide +kernel), _, rfl, iteF ?_⟩⟩
    refine ⟨_, rfl, _, _, _, _, _, rfl, .ty _, .base (.int b), kit_ty (r := true) (by decide +kernel), _, rfl, iteT ?_⟩
    refine ⟨_, rfl, b, rfl, _, rfl, iteT ⟨_, rfl, _, rfl, rfl, ?_⟩⟩
    show Q (.bl (decide (V.int b = V.int b))) H
    rw [decide_eq_true rfl]
    exact q
  case str.str b =>
    refine ⟨_, rfl, rfl, _, rfl, iteF ⟨_, rfl, _, _, _, _, _, rfl, .ty _, .base (.str b), kit_ty (r := false) (by decide +kernel), _, rfl, iteF ?_⟩⟩
    refine ⟨_, rfl, _, _, _, _, _, rfl, .ty _, .base (.str b), kit_ty (r := false) (by decide +kernel), _, rfl, iteF ?_⟩
    refine ⟨_, rfl, _, _, _, _, _, rfl, .ty _, .base (.str b), kit_ty (r := true) (by decide +kernel), _, rfl, iteT ?_⟩
    refine ⟨_, rfl, _, _, _, _, _, rfl, .ty _, .base (.str b), kit_ty (r := true) (by decide +kernel), _, rfl, iteT ⟨_, rfl, _, rfl, rfl, ?_⟩⟩
    show Q (.bl (decide (V.str b = V.str b))) H
    rw [decide_eq_true rfl]
    exact q
  case' lst.lst a xs ds ha hA b ys hb hB =>
    have ta := tyx_lst ha
    have tb := tyx_lst hb
    refine ⟨_, rfl, rfl, _, rfl, iteF ⟨_, rfl, _, _, _, _, _, rfl, .ty _, tb, kit_ty (r := false) (by decide +kernel), _, rfl, iteF ?_⟩⟩
    refine ⟨_, rfl, _, _, _, _, _, rfl, .ty _, tb, kit_ty (r := false) (by decide +kernel), _, rfl, iteF ?_⟩
    refine ⟨_, rfl, _, _, _, _, _, rfl, .ty _, tb, kit_ty (r := false) (by decide +kernel), _, rfl, iteF ?_⟩
    refine ⟨_, rfl, _, _, _, _, _, rfl, .ty _, tb, kit_ty (r := false) (by decide +kernel), _, rfl, iteF (iteF ?_)⟩
    refine ⟨_, rfl, _, _, _, _, _, rfl, .ty _, tb, kit_ty (r := true) (by decide +kernel), _, rfl, iteT ⟨_, rfl, _, _, _, _, _, rfl, .ty _, ta, kit_ty (r := true) (by decide +kernel), _, rfl, iteF ?_⟩⟩
    have hSa : Sq K H a xs := .inl ha
    have hSb : Sq K H b ys := .inl hb
    have hds2 : (decide (ds.length ≤ 5000) && ds.all (dOk n)) = true := hd
  case' tup.tup a xs ds ha hA b ys hb hB =>
    have ta := tyx_tup ha
    have tb := tyx_tup hb
    refine ⟨_, rfl, rfl, _, rfl, iteF ⟨_, rfl, _, _, _, _, _, rfl, .ty _, tb, kit_ty (r := false) (by decide +kernel), _, rfl, iteF ?_⟩⟩
    refine ⟨_, rfl, _, _, _, _, _, rfl, .ty _, tb, kit_ty (r := false) (by decide +kernel), _, rfl, iteF ?_⟩
    refine ⟨_, rfl, _, _, _, _, _, rfl, .ty _, tb, kit_ty (r := false) (by decide +kernel), _, rfl, iteF ?_⟩
    refine ⟨_, rfl, _, _, _, _, _, rfl, .ty _, tb, kit_ty (r := true) (by decide +kernel), _, rfl, iteT ⟨_, rfl, _, _, _, _, _, rfl, .ty _, ta, kit_ty (r := true) (by decide +kernel), _, rfl, iteF ?_⟩⟩
    refine ⟨_, rfl, _, _, _, _, _, rfl, .ty _, tb, kit_ty (r := false) (by decide +kernel), _, rfl, iteF (iteF ?_)⟩
    have hSa : Sq K H a xs := .inr ha
    have hSb : Sq K H b ys := .inr hb
    have hds2 : (decide (ds.length ≤ 5000) && ds.all (dOk n)) = true := hd
  all_goals
    have la : xs.length = ds.length := DpAll.len hA
    have lb : ys.length = ds.length := DpAll.len hB
    refine ⟨_, rfl, a, xs, rfl, hSa, _, rfl, b, ys, rfl, hSb, rfl, _, rfl, ?_⟩
    have e1 : decide (V.int ((xs.length : Nat) : Int) = V.int ((ys.length : Nat) : Int)) = true := decide_eq_true (by rw [la, lb])
    rw [e1]
    refine iteF ?_
    rw [Bool.and_eq_true] at hds2
    have hlen : ds.length ≤ 5000 := of_decide_eq_true hds2.1
    have hds := hds2.2
    refine ⟨_, rfl, b, ys, rfl, hSb, ((ys.length : Nat) : Int), rfl, by omega, by omega, ?_⟩
    rw [show ((ys.length : Nat) : Int).toNat = ys.length by omega]
    refine for_range (lo := 0) (n := ys.length) (fun i σ H' => ∃ kv : Option V, σ = [some (.ref a), some (.ref b), kv] ∧ H' = H) ⟨none, rfl, rfl⟩ ?_ ?_
    · rintro i σ H' hi ⟨kv, rfl, rfl⟩
      have hi2 : i < ds.length := by omega
      obtain ⟨va, ga, da⟩ := DpAll.get hA (List.getElem?_eq_getElem hi2)
      obtain ⟨vb, gb, db⟩ := DpAll.get hB (List.getElem?_eq_getElem hi2)
      have ez : (0 : Int) + (i : Int) = (i : Int) := by omega
      have hdi : dOk n ds[i] = true := List.all_eq_true.mp hds _ (List.getElem_mem hi2)
      have ia : atI xs ((0 : Int) + (i : Int)) = some va := by
        rw [ez]
        exact atI_nat ga
      have ib : atI ys ((0 : Int) + (i : Int)) = some vb := by
        rw [ez]
        exact atI_nat gb
      refine ⟨_, rfl, _, rfl, sq_ix hSa ia ?_⟩
      refine ⟨_, rfl, _, rfl, sq_ix hSb ib ?_⟩
      refine ⟨va, vb, ds[i], rfl, hdi, da, db, _, rfl, iteF ?_⟩
      exact ⟨_, rfl, rfl⟩
    · rintro σ H' ⟨kv, rfl, rfl⟩
      exact q

theorem ok_law_pays {f : Addr} {fd : FuncData} (D_law_pays : Dfn K mg "_law_pays" s_law_pays ["cover", "loss"] f fd) (T : Tx mg) :
    FnOk P w K mg base CX0 (1) f fd ["cover", "loss"] (sp_law_pays K) := by
  refine D_law_pays.F.ok sc_law_pays (fun vs H Q E h => ?_) (fun cdv A outer s H vs Q E hr h => ?_)
  · obtain ⟨a, c, x, rfl, hS, hc, q⟩ := h
    rfl
  obtain ⟨a, c, x, rfl, hS, hc, q⟩ := h
  refine ⟨_, (pss_cons (ps_if (pt_cmpR op_eq (pe_ix (r := rIxT K) ix_tup (pv 0) pe_int (fun _ _ => rfl)) pe_str (nomark _))
      (pss_one (ps_ret (pe_op op_fdiv (pe_op op_mul (pe_ix (r := rIxT K) ix_tup (pv 0) pe_int (fun _ _ => rfl)) (pv 1)) pe_int)))
      pss_nil)
      (pss_cons (ps_if (pt_cmpR op_le (pv 1) (pe_ix (r := rIxT K) ix_tup (pv 0) pe_int (fun _ _ => rfl)) (nomark _))
      (pss_one (ps_ret pe_int))
      pss_nil)
      (pss_cons (ps_if (pt_cmpR op_gt (pe_op op_sub (pv 1) (pe_ix (r := rIxT K) ix_tup (pv 0) pe_int (fun _ _ => rfl))) (pe_ix (r := rIxT K) ix_tup (pv 0) pe_int (fun _ _ => rfl)) (nomark _))
      (pss_one (ps_ret (pe_ix (r := rIxT K) ix_tup (pv 0) pe_int (fun _ _ => rfl))))
      pss_nil)
      (pss_one (ps_ret (pe_op op_sub (pv 1) (pe_ix (r := rIxT K) ix_tup (pv 0) pe_int (fun _ _ => rfl)))))))), ?_⟩
  cases c with
  | share p =>
    obtain ⟨h1, h2⟩ := hc
    refine ⟨_, rfl, a, _, _, _, rfl, rfl, hS, rfl, rfl, _, rfl, ?_⟩
    refine iteT ?_
    exact ⟨_, rfl, a, _, _, _, rfl, rfl, hS, rfl, _, rfl, _, _, rfl, rfl, .inl ⟨by omega, by omega⟩, _, _, rfl, rfl, ⟨by decide, by decide⟩, q⟩
  | layer r l =>
    obtain ⟨h1, h2, h3, h4⟩ := hc
    refine ⟨_, rfl, a, _, _, _, rfl, rfl, hS, rfl, rfl, _, rfl, ?_⟩
    rw [show decide (V.str "layer" = V.str "share") = false from decide_eq_false (fun e => share_layer (V.str.inj e))]
    refine iteF ?_
    have q : Q (.int (if x ≤ r then 0 else if x - r > l then l else x - r)) H := q
    refine ⟨_, rfl, _, rfl, a, _, _, _, rfl, rfl, hS, rfl, _, _, rfl, rfl, _, rfl, ?_⟩
    refine iteB (fun c => ?_) (fun c => ?_)
    · have c' : x ≤ r := of_decide_eq_true c
      rw [if_pos c'] at q
      exact q
    · have c' : ¬ x ≤ r := of_decide_eq_false c
      rw [if_neg c'] at q
      refine ⟨_, rfl, _, rfl, a, _, _, _, rfl, rfl, hS, rfl, _, _, rfl, rfl, _, rfl, a, _, _, _, rfl, rfl, hS, rfl, _, _, rfl, rfl, _, rfl, ?_⟩
      refine iteB (fun d => ?_) (fun d => ?_)
      · have d' : l < x - r := of_decide_eq_true d
        rw [if_pos d'] at q
        exact ⟨_, rfl, a, _, _, _, rfl, rfl, hS, rfl, q⟩
      · have d' : ¬ l < x - r := of_decide_eq_false d
        rw [if_neg d'] at q
        exact ⟨_, rfl, _, rfl, a, _, _, _, rfl, rfl, hS, rfl, _, _, rfl, rfl, q⟩

theorem ok_law_cover {f : Addr} {fd : FuncData} (D_law_cover : Dfn K mg "_law_cover" s_law_cover ["stream"] f fd) (T : Tx mg) {f_law_next : Addr} {fd_law_next : FuncData} (D_law_next : Dfn K mg "_law_next" s_law_next ["stream", "many"] f_law_next fd_law_next) (G_law_next : FnOk P w K mg base CX0 (1) f_law_next fd_law_next ["stream", "many"] (sp_law_next K)) :
    FnOk P w K mg base CX0 (2) f fd ["stream"] (sp_law_cover K) := by
  refine D_law_cover.F.ok sc_law_cover (fun vs H Q E h => ?_) (fun cdv A outer s H vs Q E hr h => ?_)
  · obtain ⟨s, p, rfl, hS, q⟩ := h
    rfl
  obtain ⟨s, p, rfl, hS, q⟩ := h
  refine ⟨_, (pss_cons (ps_set (i := 1) sc_law_cover.nd rfl (by first | exact Or.inl rfl | exact Or.inr rfl) (pe_call G_law_next (hr.mono (by first | decide | omega)) rfl D_law_next.m D_law_next.F.kp D_law_next.b .nil pass0 (pa_cons (pv 0) (pa_cons pe_int pa_nil))))
      (pss_cons (ps_if (pt_cmpR op_eq (pv 1) pe_int (nomark _))
      (pss_one (ps_ret (pe_tup (pa_cons pe_str (pa_cons (pe_ix (r := rIxL K) ix_list (pe_lst (pa_cons pe_int (pa_cons pe_int (pa_cons pe_int (pa_cons pe_int (pa_cons pe_int pa_nil)))))) (pe_call G_law_next (hr.mono (by first | decide | omega)) rfl D_law_next.m D_law_next.F.kp D_law_next.b .nil pass0 (pa_cons (pv 0) (pa_cons pe_int pa_nil))) (fun _ _ => rfl)) pa_nil)))))
      pss_nil)
      (pss_cons (ps_if (pt_cmpR op_eq (pv 1) pe_int (nomark _))
      (pss_one (ps_ret (pe_tup (pa_cons pe_str (pa_cons (pe_op op_add pe_int (pe_op op_mod (pe_op op_add (pe_op op_mul (pe_call G_law_next (hr.mono (by first | decide | omega)) rfl D_law_next.m D_law_next.F.kp D_law_next.b .nil pass0 (pa_cons (pv 0) (pa_cons pe_int pa_nil))) pe_int) (pe_call G_law_next (hr.mono (by first | decide | omega)) rfl D_law_next.m D_law_next.F.kp D_law_next.b .nil pass0 (pa_cons (pv 0) (pa_cons pe_int pa_nil)))) pe_int)) pa_nil)))))
      pss_nil)
      (pss_cons (ps_set (i := 2) sc_law_cover.nd rfl (by first | exact Or.inl rfl | exact Or.inr rfl) (pe_op op_mul (pe_call G_law_next (hr.mono (by first | decide | omega)) rfl D_law_next.m D_law_next.F.kp D_law_next.b .nil pass0 (pa_cons (pv 0) (pa_cons pe_int pa_nil))) (pe_ix (r := rIxL K) ix_list (pe_lst (pa_cons pe_int (pa_cons pe_int (pa_cons pe_int (pa_cons pe_int pa_nil))))) (pe_call G_law_next (hr.mono (by first | decide | omega)) rfl D_law_next.m D_law_next.F.kp D_law_next.b .nil pass0 (pa_cons (pv 0) (pa_cons pe_int pa_nil))) (fun _ _ => rfl))))
      (pss_one (ps_ret (pe_tup (pa_cons pe_str (pa_cons (pv 2) (pa_cons (pe_op op_add pe_int (pe_op op_mul (pe_call G_law_next (hr.mono (by first | decide | omega)) rfl D_law_next.m D_law_next.F.kp D_law_next.b .nil pass0 (pa_cons (pv 0) (pa_cons pe_int pa_nil))) (pe_ix (r := rIxL K) ix_list (pe_lst (pa_cons pe_int (pa_cons pe_int (pa_cons pe_int pa_nil)))) (pe_call G_law_next (hr.mono (by first | decide | omega)) rfl D_law_next.m D_law_next.F.kp D_law_next.b .nil pass0 (pa_cons (pv 0) (pa_cons pe_int pa_nil))) (fun _ _ => rfl)))) pa_nil)))))))))), ?_⟩
  have lp : ∀ {H' : Hp} {l : Addr}, Strm s p H' → H' l = none → l ≠ p := fun S n => S.ne n
  refine ⟨_, rfl, s, p, 5, rfl, by decide, hS, fun z H1 z0 z5 b1 S1 => ?_⟩
  refine ⟨_, rfl, rfl, _, rfl, ?_⟩
  refine iteB (fun c => ?_) (fun c => ?_)
  · -- a share out of a table
    refine ⟨sz (by show 5 ≤ 100000; decide), fun l nl => ?_⟩
    have nlp := lp S1 nl
    refine ⟨_, rfl, s, p, 5, rfl, by decide, S1.same (same_new nl), fun y H2 y0 y5 b2 S2 => ?_⟩
    have hl : H2 l = some (.lst (([1000, 500, 1, 333, 250] : List Int).map V.int)) := b2 l _ nlp upd_same
    obtain ⟨v, hv, at1⟩ := pick_at (ns := [1000, 500, 1, 333, 250]) y0 (by show y < 5; exact y5)
    refine ⟨l, _, _, _, rfl, rfl, SqL.of hl, at1, sz (by show 2 ≤ 100000; decide), fun t nt => ?_⟩
    have bb : Bar p H H2 := b1.trans ((Bar.of (same_new nl)).trans b2)
    have ntp := lp S2 nt
    refine q t (.share v) _ (Bar.add bb nt) (S2.same (same_new nt)) (bb.free ntp nt) upd_same ?_
    have m : ∀ w ∈ ([1000, 500, 1, 333, 250] : List Int), 1 ≤ w ∧ w ≤ 1000 := by decide
    exact m v hv
  · refine ⟨_, rfl, rfl, _, rfl, ?_⟩
    refine iteB (fun d => ?_) (fun d => ?_)
    · refine ⟨_, rfl, s, p, 60, rfl, by decide, S1, fun y H2 y0 y5 b2 S2 => ⟨_, _, rfl, rfl, .inr (by decide), ?_⟩⟩
      refine ⟨_, rfl, s, p, 60, rfl, by decide, S2, fun x H3 x0 x5 b3 S3 => ⟨_, _, rfl, rfl, _, _, rfl, rfl, (by show (0 : Int) < 700; decide), _, _, rfl, rfl, sz (by show 2 ≤ 100000; decide), fun t nt => ?_⟩⟩
      have bb : Bar p H H3 := b1.trans (b2.trans b3)
      refine q t (.share _) _ (Bar.add bb nt) (S3.same (same_new nt)) (bb.free (lp S3 nt) nt) upd_same ?_
      show 1 ≤ 1 + (y * 60 + x) % 700 ∧ 1 + (y * 60 + x) % 700 ≤ 1000
      omega
    · refine ⟨_, rfl, s, p, 60, rfl, by decide, S1, fun y H2 y0 y5 b2 S2 => ?_⟩
      refine ⟨sz (by show 4 ≤ 100000; decide), fun l nl => ?_⟩
      have nlp := lp S2 nl
      refine ⟨_, rfl, s, p, 4, rfl, by decide, S2.same (same_new nl), fun x H3 x0 x4 b3 S3 => ?_⟩
      have hl : H3 l = some (.lst (([0, 1, 1, 7] : List Int).map V.int)) := b3 l _ nlp upd_same
      obtain ⟨v, hv, at1⟩ := pick_at (ns := [0, 1, 1, 7]) x0 (by show x < 4; exact x4)
      have m : ∀ w ∈ ([0, 1, 1, 7] : List Int), 0 ≤ w ∧ w ≤ 7 := by decide
      have mv := m v hv
      refine ⟨l, _, _, _, rfl, rfl, SqL.of hl, at1, _, _, rfl, rfl, .inl (by omega), ?_⟩
      have yv : 0 ≤ y * v ∧ y * v ≤ 100000 := by
        refine ⟨Int.mul_nonneg y0 mv.1, ?_⟩
        have := Int.mul_le_mul (show y ≤ 60 by omega) mv.2 mv.1 (by decide : (0 : Int) ≤ 60)
        omega
      refine ⟨_, rfl, _, rfl, s, p, 60, rfl, by decide, S3, fun u H4 u0 u6 b4 S4 => ?_⟩
      refine ⟨sz (by show 3 ≤ 100000; decide), fun l2 nl2 => ?_⟩
      have nlp2 := lp S4 nl2
      refine ⟨_, rfl, s, p, 3, rfl, by decide, S4.same (same_new nl2), fun g H5 g0 g3 b5 S5 => ?_⟩
      have hl2 : H5 l2 = some (.lst (([1, 1, 7] : List Int).map V.int)) := b5 l2 _ nlp2 upd_same
      obtain ⟨k, hk, at2⟩ := pick_at (ns := [1, 1, 7]) g0 (by show g < 3; exact g3)
      have m2 : ∀ w ∈ ([1, 1, 7] : List Int), 0 ≤ w ∧ w ≤ 7 := by decide
      have mk := m2 k hk
      have uk : 0 ≤ u * k ∧ u * k ≤ 420 := by
        refine ⟨Int.mul_nonneg u0 mk.1, ?_⟩
        have := Int.mul_le_mul (show u ≤ 60 by omega) mk.2 mk.1 (by decide : (0 : Int) ≤ 60)
        omega
      refine ⟨l2, _, _, _, rfl, rfl, SqL.of hl2, at2, _, _, rfl, rfl, .inl (by omega), _, _, rfl, rfl, sz (by show 3 ≤ 100000; decide), fun t nt => ?_⟩
      have bb : Bar p H H5 := b1.trans (b2.trans ((Bar.of (same_new nl)).trans (b3.trans (b4.trans ((Bar.of (same_new nl2)).trans b5)))))
      refine q t (.layer (y * v) (1 + u * k)) _ (Bar.add bb nt) (S5.same (same_new nt)) (bb.free (lp S5 nt) nt) upd_same ?_
      exact ⟨yv.1, yv.2, by omega, by omega⟩

theorem ok_law {f : Addr} {fd : FuncData} (D_law : Dfn K mg "law" s_law ["script"] f fd) (T : Tx mg) {f_law_stream : Addr} {fd_law_stream : FuncData} (D_law_stream : Dfn K mg "_law_stream" s_law_stream ["script", "first", "count"] f_law_stream fd_law_stream) (G_law_stream : FnOk P w K mg base CX0 (2) f_law_stream fd_law_stream ["script", "first", "count"] (sp_law_stream K)) {f_law_next : Addr} {fd_law_next : FuncData} (D_law_next : Dfn K mg "_law_next" s_law_next ["stream", "many"] f_law_next fd_law_next) (G_law_next : FnOk P w K mg base CX0 (1) f_law_next fd_law_next ["stream", "many"] (sp_law_next K)) {f_law_cover : Addr} {fd_law_cover : FuncData} (D_law_cover : Dfn K mg "_law_cover" s_law_cover ["stream"] f_law_cover fd_law_cover) (G_law_cover : FnOk P w K mg base CX0 (2) f_law_cover fd_law_cover ["stream"] (sp_law_cover K)) {f_law_pays : Addr} {fd_law_pays : FuncData} (D_law_pays : Dfn K mg "_law_pays" s_law_pays ["cover", "loss"] f_law_pays fd_law_pays) (G_law_pays : FnOk P w K mg base CX0 (1) f_law_pays fd_law_pays ["cover", "loss"] (sp_law_pays K)) {f_law_same : Addr} {fd_law_same : FuncData} (D_law_same : Dfn K mg "_law_same" s_law_same ["actual", "expected"] f_law_same fd_law_same) (G_law_same : FnOk P w K mg base CX0 (9) f_law_same fd_law_same ["actual", "expected"] (sp_law_same K 8)) {f_programme : Addr} {fd_programme : FuncData} (D_programme : Dfn K mg "programme" s_programme ["covers", "loss"] f_programme fd_programme) (G_programme : FnOk P w K mg base CX0 (2) f_programme fd_programme ["covers", "loss"] (sp_programme K)) :
    FnOk P w K mg base CX0 (10) f fd ["script"] (sp_law K) := by
  refine D_law.F.ok sc_law (fun vs H Q E h => ?_) (fun cdv A outer s H vs Q E hr h => ?_)
  · obtain ⟨a, ns, rfl, hS, h63, q⟩ := h
    rfl
  obtain ⟨a, ns, rfl, hS, h63, q⟩ := h
  refine ⟨_, (pss_cons (ps_set (i := 1) sc_law.nd rfl (by first | exact Or.inl rfl | exact Or.inr rfl) (pe_call G_law_stream (hr.mono (by first | decide | omega)) rfl D_law_stream.m D_law_stream.F.kp D_law_stream.b .nil pass0 (pa_cons (pv 0) (pa_cons pe_int (pa_cons pe_int pa_nil)))))
      (pss_cons (ps_setLc (i := 2) (own := [("k", 15)]) (g := gName 15) (tt := tYes) rfl sc_law.nd rfl rfl (sw_true rfl rfl rfl (by decide +kernel)) (pi_range1 (by rfl) T.range (pa_cons (pe_call G_law_next (hr.mono (by first | decide | omega)) rfl D_law_next.m D_law_next.F.kp D_law_next.b .nil pass0 (pa_cons (pv 1) (pa_cons pe_int pa_nil))) pa_nil)) (blkOk_by (own := [("k", 15)]) (N := (["script", "stream", "covers", "loss", "left", "due", "cover", "parts", "net", "raised", "place", "first", "rest", "second", "last", "k"] : List Str)) (sc := defScope s_law) (by decide +kernel)) (fun _ _ _ _ _ => (pg_name (i := 15) sc_law.nd rfl (by first | exact Or.inl rfl | exact Or.inr rfl))) (fun _ _ _ _ _ => pts_nil) (fun _ _ _ _ _ => (pe_call G_law_cover (hr.mono (by first | decide | omega)) rfl D_law_cover.m D_law_cover.F.kp D_law_cover.b .nil pass0 (pa_cons (pv 1) pa_nil))))
      (pss_cons (ps_set (i := 3) sc_law.nd rfl (by first | exact Or.inl rfl | exact Or.inr rfl) (pe_op op_add (pe_op op_mul (pe_call G_law_next (hr.mono (by first | decide | omega)) rfl D_law_next.m D_law_next.F.kp D_law_next.b .nil pass0 (pa_cons (pv 1) (pa_cons pe_int pa_nil))) pe_int) (pe_call G_law_next (hr.mono (by first | decide | omega)) rfl D_law_next.m D_law_next.F.kp D_law_next.b .nil pass0 (pa_cons (pv 1) (pa_cons pe_int pa_nil)))))
      (pss_cons (ps_set (i := 4) sc_law.nd rfl (by first | exact Or.inl rfl | exact Or.inr rfl) (pv 3))
      (pss_cons (ps_set (i := 5) sc_law.nd rfl (by first | exact Or.inl rfl | exact Or.inr rfl) (pe_lst pa_nil))
      (pss_cons (ps_for PassesOwn.never rfl (pi_list (pv 2)) (pg_name (i := 6) sc_law.nd rfl (by first | exact Or.inl rfl | exact Or.inr rfl))
      (pss_cons (ps_expr (pe_bm PySem.F.plainAttrs_list PySem.F.slot_list_append PySem.F.type_list_append mt_append (pv 5) (pa_cons (pe_call G_law_pays (hr.mono (by first | decide | omega)) rfl D_law_pays.m D_law_pays.F.kp D_law_pays.b .nil pass0 (pa_cons (pv 6) (pa_cons (pv 4) pa_nil))) pa_nil)))
      (pss_one (ps_set (i := 4) sc_law.nd rfl (by first | exact Or.inl rfl | exact Or.inr rfl) (pe_op op_sub (pv 4) (pe_ix (r := rIxL K) ix_list (pv 5) (pe_un un_neg pe_int) (fun _ _ => rfl)))))))
      (pss_cons (ps_if (PW.pt (pw_or (pt_not (pt_val (pe_call G_law_same (hr.mono (by first | decide | omega)) rfl D_law_same.m D_law_same.F.kp D_law_same.b .nil pass0 (pa_cons (pe_call G_programme (hr.mono (by first | decide | omega)) rfl D_programme.m D_programme.F.kp D_programme.b .nil pass0 (pa_cons (pv 2) (pa_cons (pv 3) pa_nil))) (pa_cons (pe_tup (pa_cons (pe_callTy call_tuple_of (by rfl) T.tuple (by decide +kernel) (pa_cons (pv 5) pa_nil)) (pa_cons (pv 4) pa_nil))) pa_nil))))) (pw_or1 (pt_cmpR op_ne (pe_op op_add (pe_callB (cr_sumS rfl) (by rfl) T.sum (by decide +kernel) (pa_cons (pv 5) pa_nil)) (pv 4)) (pv 3) (nomark _)))))
      (pss_one (ps_ret pe_bl))
      pss_nil)
      (pss_cons (ps_asg (pe_call G_programme (hr.mono (by first | decide | omega)) rfl D_programme.m D_programme.F.kp D_programme.b .nil pass0 (pa_cons (pe_callTy call_tuple_of (by rfl) T.tuple (by decide +kernel) (pa_cons (pv 2) pa_nil)) (pa_cons (pe_op op_add (pv 3) pe_int) pa_nil))) (pg_tup rfl (pgs_cons (pg_name (i := 7) sc_law.nd rfl (by first | exact Or.inl rfl | exact Or.inr rfl)) (pgs_cons (pg_name (i := 8) sc_law.nd rfl (by first | exact Or.inl rfl | exact Or.inr rfl)) pgs_nil))))
      (pss_cons (ps_set (i := 9) sc_law.nd rfl (by first | exact Or.inl rfl | exact Or.inr rfl) (pe_op op_cat (pe_lc (own := [("k", 15)]) (g := gName 15) (tt := tYes) rfl sc_law.nd (pi_range1 (by rfl) T.range (pa_cons (pe_callB call_len_seq (by rfl) T.len PySem.boot_len (pa_cons (pv 5) pa_nil)) pa_nil)) (blkOk_by (own := [("k", 15)]) (N := (["script", "stream", "covers", "loss", "left", "due", "cover", "parts", "net", "raised", "place", "first", "rest", "second", "last", "k"] : List Str)) (sc := defScope s_law) (by decide +kernel)) (fun _ _ _ _ _ => (pg_name (i := 15) sc_law.nd rfl (by first | exact Or.inl rfl | exact Or.inr rfl))) (fun _ _ _ _ _ => pts_nil) (fun _ _ _ _ _ => (pe_op op_sub (pe_ix (r := rIxT K) ix_tup (pv 7) (pv 15) (fun _ _ => rfl)) (pe_ix (r := rIxL K) ix_list (pv 5) (pv 15) (fun _ _ => rfl))))) (pe_lst (pa_cons (pe_op op_sub (pv 8) (pv 4)) pa_nil))))
      (pss_cons (ps_if (pt_cmpR (op_neD hr.units) (pe_callB cr_sorted (by rfl) T.sorted (by decide +kernel) (pa_cons (pv 9) pa_nil)) (pe_op op_cat (pe_op op_rep (pe_lst (pa_cons pe_int pa_nil)) (pe_callB call_len_seq (by rfl) T.len PySem.boot_len (pa_cons (pv 5) pa_nil))) (pe_lst (pa_cons pe_int pa_nil))) (nomark _))
      (pss_one (ps_ret pe_bl))
      pss_nil)
      (pss_cons (ps_set (i := 10) sc_law.nd rfl (by first | exact Or.inl rfl | exact Or.inr rfl) (pe_call G_law_next (hr.mono (by first | decide | omega)) rfl D_law_next.m D_law_next.F.kp D_law_next.b .nil pass0 (pa_cons (pv 1) (pa_cons (pe_op op_add (pe_callB call_len_seq (by rfl) T.len PySem.boot_len (pa_cons (pv 2) pa_nil)) pe_int) pa_nil))))
      (pss_cons (ps_asg (pe_call G_programme (hr.mono (by first | decide | omega)) rfl D_programme.m D_programme.F.kp D_programme.b .nil pass0 (pa_cons (pe_slice sl_list (pv 2) po_none (po_some (pv 10))) (pa_cons (pv 3) pa_nil))) (pg_tup rfl (pgs_cons (pg_name (i := 11) sc_law.nd rfl (by first | exact Or.inl rfl | exact Or.inr rfl)) (pgs_cons (pg_name (i := 12) sc_law.nd rfl (by first | exact Or.inl rfl | exact Or.inr rfl)) pgs_nil))))
      (pss_cons (ps_asg (pe_call G_programme (hr.mono (by first | decide | omega)) rfl D_programme.m D_programme.F.kp D_programme.b .nil pass0 (pa_cons (pe_slice sl_list (pv 2) (po_some (pv 10)) po_none) (pa_cons (pv 12) pa_nil))) (pg_tup rfl (pgs_cons (pg_name (i := 13) sc_law.nd rfl (by first | exact Or.inl rfl | exact Or.inr rfl)) (pgs_cons (pg_name (i := 14) sc_law.nd rfl (by first | exact Or.inl rfl | exact Or.inr rfl)) pgs_nil))))
      (pss_one (ps_ret (pe_call G_law_same (hr.mono (by first | decide | omega)) rfl D_law_same.m D_law_same.F.kp D_law_same.b .nil pass0 (pa_cons (pe_tup (pa_cons (pe_op op_catA (pv 11) (pv 13)) (pa_cons (pv 14) pa_nil))) (pa_cons (pe_tup (pa_cons (pe_callTy call_tuple_of (by rfl) T.tuple (by decide +kernel) (pa_cons (pv 5) pa_nil)) (pa_cons (pv 4) pa_nil))) pa_nil)))))))))))))))))), ?_⟩
  refine ⟨_, rfl, a, ns, 0, 5, rfl, hS, by decide, by decide, fun s p H1 sm1 np hst => ?_⟩
  have sA : ∀ {H'}, Bar p H1 H' → Same H H' := fun b => Bar.keep np ((Bar.of sm1).trans b)
  -- the covers
  refine ⟨_, rfl, s, p, 9, rfl, by decide, hst, fun z H2 z0 z9 b2 hst2 => ⟨z, rfl, by omega, by omega, ?_⟩⟩
  obtain ⟨n, rfl⟩ : ∃ n : Nat, z = (n : Int) := ⟨z.toNat, by omega⟩
  rw [show ((n : Int)).toNat = n by omega]
  intro D nD
  have nDp : D ≠ p := hst2.ne nD
  have nD1 : H1 D = none := b2.free nDp nD
  have nD0 : H D = none := sm1.free nD1
  refine lc_range (lo := 0) (n := n) (fun i H' => Bar p H1 H' ∧ Strm s p H' ∧ ∃ (ys : List V) (cs : List Cov), cs.length = i ∧ CovsH H' ys cs ∧ H' D = some (.lst ys)) ⟨Bar.add b2 nD, hst2.same (same_new nD), [], [], rfl, ⟨rfl, fun i c h => by simp at h⟩, upd_same⟩ ?_ ?_
  · rintro i H' hi ⟨b, hs', ys, cs, hl, hC, hD⟩
    refine ⟨rfl, ?_⟩
    refine ⟨_, rfl, s, p, rfl, hs', fun t c H3 b3 hs3 nt ht hok => ?_⟩
    have hD3 := b3 D _ nDp hD
    have bb := b.trans b3
    obtain ⟨xs, hx⟩ := hs'.lst
    have hC3 := ((hC.to (Tups.bar b3 hx)).snoc ht hok).to (Tups.put (o := .lst (ys ++ [.ref t])) hD3)
    exact ⟨_, hD3, by rw [hC.1]; exact szl (by omega), bb.put2 nD1, hst.put bb hs3 nD1 nDp, ys ++ [.ref t], cs ++ [c], by rw [List.length_append, hl] <;> rfl, hC3, upd_same⟩
  rintro H3 ⟨b3, hst3, ys, cs, hcl, hC, hD⟩
  obtain ⟨xs3, hx3⟩ := hst3.lst
  -- the loss
  refine ⟨_, rfl, s, p, 60, rfl, by decide, hst3, fun x H4 x0 x60 b4 hst4 => ⟨_, _, rfl, rfl, .inr (by decide), _, rfl, s, p, 60, rfl, by decide, hst4, fun y H5 y0 y60 b5 hst5 => ⟨_, _, rfl, rfl, ?_⟩⟩⟩
  obtain ⟨L, hL⟩ : ∃ L, x * 60 + y = L := ⟨_, rfl⟩
  have b45 := b4.trans b5
  have hC5 := hC.to (Tups.bar b45 hx3)
  have hD5 := b45 D _ nDp hD
  have hyl : ys.length = cs.length := hC.1
  have hcs : cs.length ≤ 8 := by omega
  refine ⟨_, rfl, Nat.zero_le _, fun o no => ?_⟩
  have nop : o ≠ p := hst5.ne no
  refine ⟨_, rfl, D, rfl, ⟨_, SqL.of (same_new no _ _ hD5)⟩, for_list (K := K) (a := D) (xs := ys) (fun i σ H' => ∃ (r : Int) (acc : List Int) (v1 : Option V), σ = [some (.ref a), some (.ref s), some (.ref D), some (.int (x * 60 + y)), some (.int r), some (.ref o), v1, none, none, none, none, none, none, none, none, none] ∧ Same H5 H' ∧
    H' o = some (.lst (acc.map V.int)) ∧ acc.length = i ∧ prog cs (x * 60 + y) = (acc ++ (prog (cs.drop i) r).1, (prog (cs.drop i) r).2)) ⟨x * 60 + y, [], none, rfl, same_new no, upd_same, rfl, rfl⟩ (fun i σ H' _ ⟨_, _, _, _, sm, _⟩ => SqL.of (sm _ _ hD5)) ?_ ?_⟩
  · rintro i v σ H' hi ⟨r, acc, v1, rfl, sm, ho, hal, hp⟩
    obtain ⟨t, c, rfl, hc, ht, hok⟩ := (hC5.at (K := K)).get hi
    have hil := (List.getElem?_eq_some_iff.mp hc).1
    rw [prog_step hc] at hp
    refine ⟨_, rfl, .inl ⟨rfl, _, SqL.of ho⟩, _, rfl, _, rfl, t, c, r, rfl, same_sqt sm ht, hok, o, _, _, rfl, rfl, ho, by rw [List.length_map]; exact szl (by omega), ?_⟩
    refine ⟨_, rfl, _, rfl, _, rfl, o, _, _, _, rfl, rfl, SqL.of upd_same, atI_last _ _, _, _, rfl, rfl, ?_⟩
    refine ⟨r - pays c r, acc ++ [pays c r], _, rfl, same_put sm no, ?_, ?_, ?_⟩
    · rw [upd_same, List.map_append]
      rfl
    · rw [List.length_append, hal]
      rfl
    · rw [hp, List.append_assoc]
      rfl
  rintro σ H6 ⟨r, due, v1, rfl, sm6, ho, hal, hp⟩
  rw [hL] at hp
  rw [hyl, List.drop_eq_nil_of_le (Nat.le_refl _)] at hp
  have hpr : prog cs L = (due, r) := by
    rw [hp]
    show (due ++ [], r) = (due, r)
    rw [List.append_nil]
  have hsum := prog_sum cs L
  rw [hpr] at hsum
  have hsum' : due.sum + r = L := hsum
  have hdl : due.length = cs.length := by
    have := prog_len cs L
    rw [hpr] at this
    exact this
  have C6 : ∀ {H'}, Same H6 H' → CovsAt K H' ys cs := fun e => (hC5.to (Tups.of (sm6.trans e))).at
  have D6 : ∀ {H'}, Same H6 H' → H' D = some (.lst ys) := fun e => e _ _ (sm6 _ _ hD5)
  -- the first comparison
  refine ⟨_, rfl, _, rfl, D, L, ys, cs, ?_, .inl (SqL.of (D6 (Same.refl _))), C6 (Same.refl _), by omega, fun t1 p1 H7 s7 h7t h7p => ?_⟩
  · exact congrArg (fun z : Int => [V.ref D, V.int z]) hL
  rw [hpr] at h7t h7p
  refine ⟨_, rfl, o, _, rfl, .inl ⟨SqL.of (s7 _ _ ho), fun t2 nt2 => ⟨_, rfl, sz (by show 2 ≤ 100000; decide), fun p2 np2 => ?_⟩⟩⟩
  have s72 := same_add (o := .tup [.ref t2, .int r]) (same_new (o := .tup (due.map V.int)) nt2) np2
  have dl5 : due.length ≤ 5000 := by omega
  refine ⟨_, _, pairD due r, rfl, ok_pair dl5, dp_pair (s72 _ _ h7p) (SqT.of (s72 _ _ h7t)), dp_pair upd_same (SqT.of (same_new np2 _ _ upd_same)), _, rfl, iteF ?_⟩
  have s62 := s7.trans s72
  have ho2 := s62 _ _ ho
  refine ⟨_, rfl, o, _, rfl, .inl (SqL.of ho2), _, rfl, _, _, rfl, rfl, _, rfl, rfl, _, rfl, ?_⟩
  have e1 : (!decide (V.int (due.sum + r) = V.int (x * 60 + y))) = false := by rw [hsum', hL, decide_eq_true rfl]; rfl
  rw [e1]
  refine iteF ?_
  -- one more
  refine ⟨_, rfl, D, _, rfl, .inl ⟨SqL.of (D6 s62), fun t3 nt3 => ?_⟩⟩
  have s63 := same_add (o := .tup ys) s62 nt3
  refine ⟨_, rfl, _, _, rfl, rfl, t3, L + 1, ys, cs, ?_, .inr (SqT.of upd_same), C6 s63, by omega, fun t4 p4 H8 s8 h8t h8p => ?_⟩
  · exact congrArg (fun z : Int => [V.ref t3, V.int (z + 1)]) hL
  refine ⟨p4, _, rfl, SqT.of h8p, rfl, _, _, rfl, _, _, rfl, rfl, ?_⟩
  obtain ⟨ps, hps⟩ : ∃ ps, (prog cs (L + 1)).1 = ps := ⟨_, rfl⟩
  obtain ⟨net, hnet⟩ : ∃ net, (prog cs (L + 1)).2 = net := ⟨_, rfl⟩
  have hpl : ps.length = cs.length := by rw [← hps]; exact prog_len cs (L + 1)
  obtain ⟨j, hj, hjle⟩ := prog_more cs L hC.ok'
  rw [hpr] at hj
  simp only [hps, hnet] at hj h8t h8p ⊢
  have s68 := s63.trans s8
  have ho8 := s68 _ _ ho
  refine ⟨_, rfl, o, _, rfl, .inl (SqL.of ho8), ((due.length : Nat) : Int), by rw [List.length_map], by omega, by omega, ?_⟩
  rw [show ((due.length : Nat) : Int).toNat = due.length by omega]
  intro G nG
  refine lc_range (lo := 0) (n := due.length) (fun i H' => Same H8 H' ∧ H' G = some (.lst (((List.zipWith (fun a b => a - b) ps due).take i).map V.int))) ⟨same_new nG, upd_same⟩ ?_ ?_
  · rintro i H' hi ⟨sm, hG⟩
    obtain ⟨u, hu⟩ : ∃ u, ps[i]? = some u := ⟨_, List.getElem?_eq_getElem (by omega)⟩
    obtain ⟨v, hv⟩ : ∃ v, due[i]? = some v := ⟨_, List.getElem?_eq_getElem (by omega)⟩
    refine ⟨rfl, ?_⟩
    refine ⟨_, rfl, _, rfl, t4, _, _, .int u, rfl, rfl, SqT.of (sm _ _ h8t), by rw [zi]; exact atI_nat (at_map hu), _, rfl, _, rfl, o, _, _, .int v, rfl, rfl, SqL.of (sm _ _ ho8), by rw [zi]; exact atI_nat (at_map hv), _, _, rfl, rfl, _, hG, ?_, same_put sm nG, ?_⟩
    · rw [List.length_map, List.length_take]
      exact szl (by omega)
    · rw [upd_same, List.take_add_one, zip_get ps due i u v hu hv, List.map_append]
      rfl
  rintro H9 ⟨sm9, hG⟩
  have hzl : (List.zipWith (fun a b => a - b) ps due).length = due.length := by rw [List.length_zipWith]; omega
  rw [List.take_of_length_le (by rw [hzl]; exact Nat.le_refl _)] at hG
  refine ⟨_, rfl, _, rfl, _, _, rfl, rfl, sz (by show 1 ≤ 100000; decide), fun g ng => ?_⟩
  have nGg : G ≠ g := ne_of_none hG ng
  refine ⟨G, g, _, _, rfl, rfl, by rw [upd_ne nGg]; exact hG, upd_same, ?_, fun w nw => ?_⟩
  · rw [List.length_map, hzl]
    exact sz (by show due.length + 1 ≤ 100000; omega)
  have s9w := same_add (o := .lst (((List.zipWith (fun a b => a - b) ps due)).map V.int ++ [V.int (net - r)])) (same_new (o := .lst [.int (net - r)]) ng) nw
  have s6w := s68.trans (sm9.trans s9w)
  obtain ⟨H10, h10⟩ : ∃ H10, upd (upd H9 g (.lst [.int (net - r)])) w (.lst (((List.zipWith (fun a b => a - b) ps due)).map V.int ++ [V.int (net - r)])) = H10 := ⟨_, rfl⟩
  rw [h10] at s6w ⊢
  have hw : H10 w = some (.lst ((List.replicate j (0 : Int) ++ 1 :: List.replicate (cs.length - j) 0).map V.int)) := by
    rw [← h10, upd_same, ← hj, zip_snoc ps due net r (by omega), List.map_append]
    rfl
  have ho10 := s6w _ _ ho
  -- sorted
  refine ⟨_, rfl, w, _, rfl, SqL.of hw, ?_, fun ss q1 perm srt nq1 => ?_⟩
  · rw [List.length_append, List.length_cons, List.length_replicate, List.length_replicate]
    omega
  have hss : ss = List.replicate cs.length 0 ++ [1] := sorted_ones cs.length ss (perm.trans (perm_ones j cs.length hjle)) srt
  have sq1 := s6w.trans (same_new (o := .lst (ss.map V.int)) nq1)
  refine ⟨sz (by show 1 ≤ 100000; decide), fun l1 nl1 => ?_⟩
  have sl1 := same_add (o := .lst [.int 0]) sq1 nl1
  refine ⟨_, rfl, o, _, rfl, .inl (SqL.of (sl1 _ _ ho)), l1, _, _, rfl, rfl, upd_same, by omega, by rw [List.length_map]; omega, sz (by rw [List.length_map]; show 1 * ((due.length : Nat) : Int).toNat ≤ 100000; omega), fun l2 nl2 => ?_⟩
  refine ⟨sz (by show 1 ≤ 100000; decide), fun l3 nl3 => ?_⟩
  refine ⟨l2, l3, _, _, rfl, rfl, by rw [upd_ne (ne_of_none upd_same nl3)]; exact upd_same, upd_same, ?_, fun l4 nl4 => ?_⟩
  · rw [flat_rep, List.length_replicate, List.length_map]
    exact sz (by show ((due.length : Nat) : Int).toNat + 1 ≤ 100000; omega)
  have hl4 : (List.replicate (((due.map V.int).length : Nat) : Int).toNat [V.int 0]).flatten ++ [V.int 1] = (List.replicate cs.length (0 : Int) ++ [1]).map V.int := by
    rw [flat_rep, List.length_map, List.map_append, List.map_replicate, show ((due.length : Nat) : Int).toNat = cs.length by omega]
    rfl
  rw [hl4]
  have s14 : Same (upd H10 q1 (.lst (ss.map V.int))) (upd (upd (upd (upd (upd H10 q1 (.lst (ss.map V.int))) l1 (.lst [.int 0])) l2 (.lst (List.replicate (((due.map V.int).length : Nat) : Int).toNat [V.int 0]).flatten)) l3 (.lst [.int 1])) l4 (.lst ((List.replicate cs.length (0 : Int) ++ [1]).map V.int))) :=
    same_add (same_add (same_add (same_new nl1) nl2) nl3) nl4
  obtain ⟨H11, h11⟩ : ∃ H11, upd (upd (upd (upd (upd H10 q1 (.lst (ss.map V.int))) l1 (.lst [.int 0])) l2 (.lst (List.replicate (((due.map V.int).length : Nat) : Int).toNat [V.int 0]).flatten)) l3 (.lst [.int 1])) l4 (.lst ((List.replicate cs.length (0 : Int) ++ [1]).map V.int)) = H11 := ⟨_, rfl⟩
  have hL4 : H11 l4 = some (.lst ((List.replicate cs.length (0 : Int) ++ [1]).map V.int)) := by
    rw [← h11]
    exact upd_same
  rw [h11] at s14 ⊢
  have hq1 := s14 _ _ upd_same
  rw [hss] at hq1
  refine ⟨_, _, dp_lst (SqL.of hq1), dp_lst (SqL.of hL4), PySem.W.ke_shaped_ints _, PySem.W.ke_shaped_ints _, _, rfl, ?_⟩
  rw [eqv_ints]
  refine iteF ?_
  -- the two parts
  have s11 : Same H6 H11 := sq1.trans s14
  have hst11 : Strm s p H11 := hst5.same (sm6.trans s11)
  refine ⟨_, rfl, _, rfl, D, _, rfl, .inl (SqL.of (D6 s11)), _, _, rfl, rfl, s, p, _, rfl, by omega, hst11, fun k H12 k0 kn b12 hst12 => ?_⟩
  obtain ⟨k', rfl⟩ : ∃ k' : Nat, k = (k' : Int) := ⟨k.toNat, by omega⟩
  have hp11 := hst11.lst
  obtain ⟨xs11, hx11⟩ := hp11
  have hD12 : H12 D = some (.lst ys) := b12 D _ nDp (D6 s11)
  have ho12 : H12 o = some (.lst (due.map V.int)) := b12 o _ nop (s11 _ _ ho)
  have hC12 : CovsH H12 ys cs := (hC5.to (Tups.of (sm6.trans s11))).to (Tups.bar b12 hx11)
  refine ⟨_, rfl, _, rfl, _, rfl, D, ys, rfl, SqL.of hD12, fun l5 nl5 => ?_⟩
  have s5 := same_new (o := .lst (cutV ys none (some (k' : Int)))) nl5
  refine ⟨_, rfl, l5, L, ys.take k', cs.take k', ?_, .inl (SqL.of (by rw [upd_same, cut_to])), ((hC12.at (K := K)).same s5).take k', by rw [List.length_take]; omega, fun t5 p5 H13 s13 h13t h13p => ?_⟩
  · exact congrArg (fun z : Int => [V.ref l5, V.int z]) hL
  refine ⟨p5, _, rfl, SqT.of h13p, rfl, _, _, rfl, _, _, rfl, rfl, ?_⟩
  have s53 := s5.trans s13
  refine ⟨_, rfl, _, rfl, _, rfl, D, ys, rfl, SqL.of (s53 _ _ hD12), fun l6 nl6 => ?_⟩
  have s6' := same_new (o := .lst (cutV ys (some (k' : Int)) none)) nl6
  refine ⟨_, rfl, l6, _, ys.drop k', cs.drop k', rfl, .inl (SqL.of (by rw [upd_same, cut_from])), ((hC12.at (K := K)).same (s53.trans s6')).drop k', by rw [List.length_drop]; omega, fun t6 p6 H14 s14' h14t h14p => ?_⟩
  refine ⟨p6, _, rfl, SqT.of h14p, rfl, _, _, rfl, _, _, rfl, rfl, ?_⟩
  have happ := prog_append (cs.take k') (cs.drop k') L
  rw [List.take_append_drop, hpr] at happ
  have hdue : due = (prog (cs.take k') L).1 ++ (prog (cs.drop k') (prog (cs.take k') L).2).1 := congrArg Prod.fst happ
  have hleft : r = (prog (cs.drop k') (prog (cs.take k') L).2).2 := congrArg Prod.snd happ
  have s64 := s6'.trans s14'
  refine ⟨_, rfl, _, rfl, cat_any (SqT.of (s64 _ _ h13t)) (SqT.of h14t) ?_ fun p7 H15 s15 h15 => ?_⟩
  · rw [List.length_map, List.length_map, prog_len, prog_len, List.length_take, List.length_drop]
    exact sz (by omega)
  rw [← List.map_append, ← hdue] at h15
  refine ⟨_, rfl, sz (by show 2 ≤ 100000; decide), fun p8 np8 => ?_⟩
  have s8' := same_new (o := .tup [.ref p7, .int (prog (cs.drop k') (prog (cs.take k') L).2).2]) np8
  have ho8' := s8' _ _ (s15 _ _ (s64 _ _ (s53 _ _ ho12)))
  refine ⟨_, rfl, o, _, rfl, .inl ⟨SqL.of ho8', fun p9 np9 => ⟨_, rfl, sz (by show 2 ≤ 100000; decide), fun p10 np10 => ?_⟩⟩⟩
  have s10' := same_add (o := .tup [.ref p9, .int r]) (same_new (o := .tup (due.map V.int)) np9) np10
  refine ⟨_, _, pairD due r, rfl, ok_pair dl5, ?_, dp_pair upd_same (SqT.of (same_new np10 _ _ upd_same)), q _⟩
  refine dp_pair (t := p7) ?_ (same_sqt (s8'.trans s10') h15)
  exact (s10' _ _ upd_same).trans (by rw [← hleft])

theorem same_all {f : Addr} {fd : FuncData} (D_law_same : Dfn K mg "_law_same" s_law_same ["actual", "expected"] f fd) (T : Tx mg) {f_law_is_integer : Addr} {fd_law_is_integer : FuncData} (D_law_is_integer : Dfn K mg "_law_is_integer" s_law_is_integer ["actual"] f_law_is_integer fd_law_is_integer)
    (G_law_is_integer : FnOk P w K mg base CX0 1 f_law_is_integer fd_law_is_integer ["actual"] (sp_law_is_integer K)) : ∀ n : Nat, FnOk P w K mg base CX0 (n + 1) f fd ["actual", "expected"] (sp_law_same K n)
  | 0 => by
    have no : ∀ vs H Q E, ¬ sp_law_same K 0 vs H Q E := fun vs H Q E h => by
      obtain ⟨x, y, d, _, h1, _⟩ := h
      simp [dOk] at h1
    exact ⟨fun vs H Q E h => absurd h (no vs H Q E), fun A outer s H args us vs Q E _ _ _ _ h => absurd h (no vs H Q E)⟩
  | n + 1 => ok_law_same D_law_same T D_law_is_integer G_law_is_integer (same_all D_law_same T D_law_is_integer G_law_is_integer n)
end
end Sd
/-! ### the end -/
namespace Sd
open PySem PySem.Spec PyProof.Rows L2
theorem all_mk {l : PySem.W.OpenLaw} {w : World} {K : PySem.W.Frag} {h : Heap} {mg : Str → Option Value} {fa f1 f2 f3 f4 f5 f6 f7 f8 f9 f10 f11 : Addr} (X : K.In h) (G : h.Ns mainGlobals mg) (hfa : mg "law" = some (.ref fa))
    {od1 an1 : Option Addr} {sl1 : Array (Option Value)} {oc1 kV1 dc1 pm1 cd1 ct1 : Value}
    {od2 an2 : Option Addr} {sl2 : Array (Option Value)} {oc2 kV2 dc2 pm2 cd2 ct2 : Value}
    {od3 an3 : Option Addr} {sl3 : Array (Option Value)} {oc3 kV3 dc3 pm3 cd3 ct3 : Value}
    {od4 an4 : Option Addr} {sl4 : Array (Option Value)} {oc4 kV4 dc4 pm4 cd4 ct4 : Value}
    {od5 an5 : Option Addr} {sl5 : Array (Option Value)} {oc5 kV5 dc5 pm5 cd5 ct5 : Value}
    {od6 an6 : Option Addr} {sl6 : Array (Option Value)} {oc6 kV6 dc6 pm6 cd6 ct6 : Value}
    {od7 an7 : Option Addr} {sl7 : Array (Option Value)} {oc7 kV7 dc7 pm7 cd7 ct7 : Value}
    {od8 an8 : Option Addr} {sl8 : Array (Option Value)} {oc8 kV8 dc8 pm8 cd8 ct8 : Value}
    {od9 an9 : Option Addr} {sl9 : Array (Option Value)} {oc9 kV9 dc9 pm9 cd9 ct9 : Value}
    {od10 an10 : Option Addr} {sl10 : Array (Option Value)} {oc10 kV10 dc10 pm10 cd10 ct10 : Value}
    {od11 an11 : Option Addr} {sl11 : Array (Option Value)} {oc11 kV11 dc11 pm11 cd11 ct11 : Value}
    (a1 : PySem.W.nsIn K mainGlobals "recovery" = some (some (.ref f1))) (l1 : K.lookup f1 = some ⟨oc1, od1, .func (PySem.W.fnOf "recovery" "recovery" (defArgs s_recovery) (defBody s_recovery) (defScope s_recovery) .none kV1 dc1 pm1 an1 cd1 ct1), sl1⟩) (c1 : PySem.W.codeIn K cd1 "recovery" = true) (k1 : PySem.W.keepIn K (.ref f1) = true)
    (a2 : PySem.W.nsIn K mainGlobals "programme" = some (some (.ref f2))) (l2 : K.lookup f2 = some ⟨oc2, od2, .func (PySem.W.fnOf "programme" "programme" (defArgs s_programme) (defBody s_programme) (defScope s_programme) .none kV2 dc2 pm2 an2 cd2 ct2), sl2⟩) (c2 : PySem.W.codeIn K cd2 "programme" = true) (k2 : PySem.W.keepIn K (.ref f2) = true)
    (a3 : PySem.W.nsIn K mainGlobals "_law_cell" = some (some (.ref f3))) (l3 : K.lookup f3 = some ⟨oc3, od3, .func (PySem.W.fnOf "_law_cell" "_law_cell" (defArgs s_law_cell) (defBody s_law_cell) (defScope s_law_cell) .none kV3 dc3 pm3 an3 cd3 ct3), sl3⟩) (c3 : PySem.W.codeIn K cd3 "_law_cell" = true) (k3 : PySem.W.keepIn K (.ref f3) = true)
    (a4 : PySem.W.nsIn K mainGlobals "_law_draws" = some (some (.ref f4))) (l4 : K.lookup f4 = some ⟨oc4, od4, .func (PySem.W.fnOf "_law_draws" "_law_draws" (defArgs s_law_draws) (defBody s_law_draws) (defScope s_law_draws) .none kV4 dc4 pm4 an4 cd4 ct4), sl4⟩) (c4 : PySem.W.codeIn K cd4 "_law_draws" = true) (k4 : PySem.W.keepIn K (.ref f4) = true)
    (a5 : PySem.W.nsIn K mainGlobals "_law_stream" = some (some (.ref f5))) (l5 : K.lookup f5 = some ⟨oc5, od5, .func (PySem.W.fnOf "_law_stream" "_law_stream" (defArgs s_law_stream) (defBody s_law_stream) (defScope s_law_stream) .none kV5 dc5 pm5 an5 cd5 ct5), sl5⟩) (c5 : PySem.W.codeIn K cd5 "_law_stream" = true) (k5 : PySem.W.keepIn K (.ref f5) = true)
    (a6 : PySem.W.nsIn K mainGlobals "_law_next" = some (some (.ref f6))) (l6 : K.lookup f6 = some ⟨oc6, od6, .func (PySem.W.fnOf "_law_next" "_law_next" (defArgs s_law_next) (defBody s_law_next) (defScope s_law_next) .none kV6 dc6 pm6 an6 cd6 ct6), sl6⟩) (c6 : PySem.W.codeIn K cd6 "_law_next" = true) (k6 : PySem.W.keepIn K (.ref f6) = true)
    (a7 : PySem.W.nsIn K mainGlobals "_law_is_integer" = some (some (.ref f7))) (l7 : K.lookup f7 = some ⟨oc7, od7, .func (PySem.W.fnOf "_law_is_integer" "_law_is_integer" (defArgs s_law_is_integer) (defBody s_law_is_integer) (defScope s_law_is_integer) .none kV7 dc7 pm7 an7 cd7 ct7), sl7⟩) (c7 : PySem.W.codeIn K cd7 "_law_is_integer" = true) (k7 : PySem.W.keepIn K (.ref f7) = true)
    (a8 : PySem.W.nsIn K mainGlobals "_law_same" = some (some (.ref f8))) (l8 : K.lookup f8 = some ⟨oc8, od8, .func (PySem.W.fnOf "_law_same" "_law_same" (defArgs s_law_same) (defBody s_law_same) (defScope s_law_same) .none kV8 dc8 pm8 an8 cd8 ct8), sl8⟩) (c8 : PySem.W.codeIn K cd8 "_law_same" = true) (k8 : PySem.W.keepIn K (.ref f8) = true)
    (a9 : PySem.W.nsIn K mainGlobals "_law_pays" = some (some (.ref f9))) (l9 : K.lookup f9 = some ⟨oc9, od9, .func (PySem.W.fnOf "_law_pays" "_law_pays" (defArgs s_law_pays) (defBody s_law_pays) (defScope s_law_pays) .none kV9 dc9 pm9 an9 cd9 ct9), sl9⟩) (c9 : PySem.W.codeIn K cd9 "_law_pays" = true) (k9 : PySem.W.keepIn K (.ref f9) = true)
    (a10 : PySem.W.nsIn K mainGlobals "_law_cover" = some (some (.ref f10))) (l10 : K.lookup f10 = some ⟨oc10, od10, .func (PySem.W.fnOf "_law_cover" "_law_cover" (defArgs s_law_cover) (defBody s_law_cover) (defScope s_law_cover) .none kV10 dc10 pm10 an10 cd10 ct10), sl10⟩) (c10 : PySem.W.codeIn K cd10 "_law_cover" = true) (k10 : PySem.W.keepIn K (.ref f10) = true)
    (a11 : PySem.W.nsIn K mainGlobals "law" = some (some (.ref f11))) (l11 : K.lookup f11 = some ⟨oc11, od11, .func (PySem.W.fnOf "law" "law" (defArgs s_law) (defBody s_law) (defScope s_law) .none kV11 dc11 pm11 an11 cd11 ct11), sl11⟩) (c11 : PySem.W.codeIn K cd11 "law" = true) (k11 : PySem.W.keepIn K (.ref f11) = true)
    (z_min : PySem.W.nsIn K mainGlobals "min" = some none) (z_max : PySem.W.nsIn K mainGlobals "max" = some none) (z_tuple : PySem.W.nsIn K mainGlobals "tuple" = some none) (z_len : PySem.W.nsIn K mainGlobals "len" = some none) (z_int : PySem.W.nsIn K mainGlobals "int" = some none) (z_abs : PySem.W.nsIn K mainGlobals "abs" = some none) (z_range : PySem.W.nsIn K mainGlobals "range" = some none) (z_isinstance : PySem.W.nsIn K mainGlobals "isinstance" = some none) (z_bool : PySem.W.nsIn K mainGlobals "bool" = some none) (z_str : PySem.W.nsIn K mainGlobals "str" = some none) (z_list : PySem.W.nsIn K mainGlobals "list" = some none) (z_sum : PySem.W.nsIn K mainGlobals "sum" = some none) (z_sorted : PySem.W.nsIn K mainGlobals "sorted" = some none) {t_WHOLE : Tok} (z_WHOLE : PySem.W.nsIn K mainGlobals "WHOLE" = some (some (.int 1000 t_WHOLE))) :
    ∃ fd : FuncData, (∀ (s : Shared) (v : Value), BindsTo s fd ⟨[v], []⟩ [("script", v)]) ∧ ∀ base : Heap, K.In base → base.Ns mainGlobals mg → FnOk l.prog w K mg base CX0 10 fa fd ["script"] (sp_law K) := by
  have e := hfa.symm.trans (PySem.W.mg_of X G a11)
  cases e
  have T : Tx mg := ⟨PySem.W.mg_none_of X G z_min, PySem.W.mg_none_of X G z_max, PySem.W.mg_none_of X G z_tuple, PySem.W.mg_none_of X G z_len, PySem.W.mg_none_of X G z_int, PySem.W.mg_none_of X G z_abs, PySem.W.mg_none_of X G z_range, PySem.W.mg_none_of X G z_isinstance, PySem.W.mg_none_of X G z_bool, PySem.W.mg_none_of X G z_str, PySem.W.mg_none_of X G z_list, PySem.W.mg_none_of X G z_sum, PySem.W.mg_none_of X G z_sorted, ⟨_, PySem.W.mg_of X G z_WHOLE⟩⟩
  have F1 := fun_mk (st := s_recovery) l1 c1 k1
  have D_recovery : Dfn K mg "recovery" s_recovery ["cover", "loss"] f1 _ := ⟨F1, F1.binds (ps := ["cover", "loss"]) fun _ _ _ _ _ _ us hl => match us, hl with | [_, _], _ => rfl, PySem.W.mg_of X G a1⟩
  have F2 := fun_mk (st := s_programme) l2 c2 k2
  have D_programme : Dfn K mg "programme" s_programme ["covers", "loss"] f2 _ := ⟨F2, F2.binds (ps := ["covers", "loss"]) fun _ _ _ _ _ _ us hl => match us, hl with | [_, _], _ => rfl, PySem.W.mg_of X G a2⟩
  have F3 := fun_mk (st := s_law_cell) l3 c3 k3
  have D_law_cell : Dfn K mg "_law_cell" s_law_cell ["script", "k"] f3 _ := ⟨F3, F3.binds (ps := ["script", "k"]) fun _ _ _ _ _ _ us hl => match us, hl with | [_, _], _ => rfl, PySem.W.mg_of X G a3⟩
  have F4 := fun_mk (st := s_law_draws) l4 c4 k4
  have D_law_draws : Dfn K mg "_law_draws" s_law_draws ["cell", "count"] f4 _ := ⟨F4, F4.binds (ps := ["cell", "count"]) fun _ _ _ _ _ _ us hl => match us, hl with | [_, _], _ => rfl, PySem.W.mg_of X G a4⟩
  have F5 := fun_mk (st := s_law_stream) l5 c5 k5
  have D_law_stream : Dfn K mg "_law_stream" s_law_stream ["script", "first", "count"] f5 _ := ⟨F5, F5.binds (ps := ["script", "first", "count"]) fun _ _ _ _ _ _ us hl => match us, hl with | [_, _, _], _ => rfl, PySem.W.mg_of X G a5⟩
  have F6 := fun_mk (st := s_law_next) l6 c6 k6
  have D_law_next : Dfn K mg "_law_next" s_law_next ["stream", "many"] f6 _ := ⟨F6, F6.binds (ps := ["stream", "many"]) fun _ _ _ _ _ _ us hl => match us, hl with | [_, _], _ => rfl, PySem.W.mg_of X G a6⟩
  have F7 := fun_mk (st := s_law_is_integer) l7 c7 k7
  have D_law_is_integer : Dfn K mg "_law_is_integer" s_law_is_integer ["actual"] f7 _ := ⟨F7, F7.binds (ps := ["actual"]) fun _ _ _ _ _ _ us hl => match us, hl with | [_], _ => rfl, PySem.W.mg_of X G a7⟩
  have F8 := fun_mk (st := s_law_same) l8 c8 k8
  have D_law_same : Dfn K mg "_law_same" s_law_same ["actual", "expected"] f8 _ := ⟨F8, F8.binds (ps := ["actual", "expected"]) fun _ _ _ _ _ _ us hl => match us, hl with | [_, _], _ => rfl, PySem.W.mg_of X G a8⟩
  have F9 := fun_mk (st := s_law_pays) l9 c9 k9
  have D_law_pays : Dfn K mg "_law_pays" s_law_pays ["cover", "loss"] f9 _ := ⟨F9, F9.binds (ps := ["cover", "loss"]) fun _ _ _ _ _ _ us hl => match us, hl with | [_, _], _ => rfl, PySem.W.mg_of X G a9⟩
  have F10 := fun_mk (st := s_law_cover) l10 c10 k10
  have D_law_cover : Dfn K mg "_law_cover" s_law_cover ["stream"] f10 _ := ⟨F10, F10.binds (ps := ["stream"]) fun _ _ _ _ _ _ us hl => match us, hl with | [_], _ => rfl, PySem.W.mg_of X G a10⟩
  have DL : Dfn K mg "law" s_law ["script"] fa _ := ⟨fun_mk (st := s_law) l11 c11 k11, (fun_mk (st := s_law) l11 c11 k11).binds (ps := ["script"]) fun _ _ _ _ _ _ us hl => match us, hl with | [_], _ => rfl, PySem.W.mg_of X G a11⟩
  refine ⟨PySem.W.fnOf "law" "law" (defArgs s_law) (defBody s_law) (defScope s_law) .none kV11 dc11 pm11 an11 cd11 ct11, fun s v => .of_eq rfl, fun base _ _ => ?_⟩
  have G_recovery := ok_recovery (P := l.prog) (w := w) (base := base) D_recovery T
  have G_programme := ok_programme (P := l.prog) (w := w) (base := base) D_programme T D_recovery G_recovery
  have G_law_cell := ok_law_cell (P := l.prog) (w := w) (base := base) D_law_cell T
  have G_law_draws := ok_law_draws (P := l.prog) (w := w) (base := base) D_law_draws T
  have G_law_stream := ok_law_stream (P := l.prog) (w := w) (base := base) D_law_stream T D_law_draws G_law_draws D_law_cell G_law_cell
  have G_law_next := ok_law_next (P := l.prog) (w := w) (base := base) D_law_next T
  have G_law_is_integer := ok_law_is_integer (P := l.prog) (w := w) (base := base) D_law_is_integer T
  have G_law_same := same_all (P:=l.prog) (w:=w) (base:=base) D_law_same T D_law_is_integer G_law_is_integer 8
  have G_law_pays := ok_law_pays (P := l.prog) (w := w) (base := base) D_law_pays T
  have G_law_cover := ok_law_cover (P := l.prog) (w := w) (base := base) D_law_cover T D_law_next G_law_next
  exact ok_law DL T D_law_stream G_law_stream D_law_next G_law_next D_law_cover G_law_cover D_law_pays G_law_pays D_law_same G_law_same D_programme G_programme
theorem walk {l : PySem.W.OpenLaw} {q : Program} {loose : List Str} {XP : (Str → Option Value) → Heap → Prop} {YP : World → Heap → Prop} {d : DefRec} {K : Params → PySem.W.Frag} (hn : l.most = some 63) (hdf : d.params.defaults = [])
    (hY : ∀ (w : World) (h : Heap), YP w h → (K w.params).In h)
    (F : ∀ (w : World) (mg : Str → Option Value) (fa : Addr) (h : Heap), (K w.params).In h → h.Ns mainGlobals mg → mg d.name = some (.ref fa) →
      ∃ fd : FuncData, (∀ (s : Shared) (u : Value), BindsTo s fd ⟨[u], []⟩ [("script", u)]) ∧ ∀ base : Heap, (K w.params).In base → base.Ns mainGlobals mg → FnOk l.prog w (K w.params) mg base CX0 10 fa fd ["script"] (sp_law (K w.params))) :
    PySem.W.WalkO q loose XP YP l.row.toRowW d [] (fun f vs => PySem.call f vs) :=
  L2.walk_of (n := 63) (k := 10) (x := "script") (CX := fun _ => CX0) (sp := fun w => sp_law (K w.params)) hn (by decide) hdf ⟨rfl, by decide, by decide⟩ hY F (fun _ _ a ns hl _ hS => ⟨a, ns, rfl, hS, hl, fun _ => rfl⟩) fun _ _ _ _ _ z => z
end Sd

open PySem PySem.W PyProof.Rows in
set_option maxRecDepth 100000 in
set_option maxHeartbeats 0 in
theorem PySem.Challenge.cw_spiraldue_k02_programmes_holds : PySem.Challenge.rw_spiraldue_k02_programmes.Holds := by
  w_on; o_law; k_head; (case hw => w_witness2)
  k_fill
  refine Sd.walk (l := PySem.Challenge.rw_spiraldue_k02_programmes) rfl rfl (fun w h Y => PySem.W.kIn_of Y) ?F
  case F =>
    intro w mg fa h KX G hmg
    refine' Sd.all_mk KX G hmg ?a1 ?l1 ?c1 ?k1 ?a2 ?l2 ?c2 ?k2 ?a3 ?l3 ?c3 ?k3 ?a4 ?l4 ?c4 ?k4 ?a5 ?l5 ?c5 ?k5 ?a6 ?l6 ?c6 ?k6 ?a7 ?l7 ?c7 ?k7 ?a8 ?l8 ?c8 ?k8 ?a9 ?l9 ?c9 ?k9 ?a10 ?l10 ?c10 ?k10 ?a11 ?l11 ?c11 ?k11 ?z_min ?z_max ?z_tuple ?z_len ?z_int ?z_abs ?z_range ?z_isinstance ?z_bool ?z_str ?z_list ?z_sum ?z_sorted ?z_WHOLE
    (case a1 => k_is)
    (case l1 => k_is)
    (case c1 => k_is)
    (case k1 => k_is)
    (case a2 => k_is)
    (case l2 => k_is)
    (case c2 => k_is)
    (case k2 => k_is)
    (case a3 => k_is)
    (case l3 => k_is)
    (case c3 => k_is)
    (case k3 => k_is)
    (case a4 => k_is)
    (case l4 => k_is)
    (case c4 => k_is)
    (case k4 => k_is)
    (case a5 => k_is)
    (case l5 => k_is)
    (case c5 => k_is)
    (case k5 => k_is)
    (case a6 => k_is)
    (case l6 => k_is)
    (case c6 => k_is)
    (case k6 => k_is)
    (case a7 => k_is)
    (case l7 => k_is)
    (case c7 => k_is)
    (case k7 => k_is)
    (case a8 => k_is)
    (case l8 => k_is)
    (case c8 => k_is)
    (case k8 => k_is)
    (case a9 => k_is)
    (case l9 => k_is)
    (case c9 => k_is)
    (case k9 => k_is)
    (case a10 => k_is)
    (case l10 => k_is)
    (case c10 => k_is)
    (case k10 => k_is)
    (case a11 => k_is)
    (case l11 => k_is)
    (case c11 => k_is)
    (case k11 => k_is)
    (case z_min => k_is)
    (case z_max => k_is)
    (case z_tuple => k_is)
    (case z_len => k_is)
    (case z_int => k_is)
    (case z_abs => k_is)
    (case z_range => k_is)
    (case z_isinstance => k_is)
    (case z_bool => k_is)
    (case z_str => k_is)
    (case z_list => k_is)
    (case z_sum => k_is)
    (case z_sorted => k_is)
    (case z_WHOLE => k_is)
